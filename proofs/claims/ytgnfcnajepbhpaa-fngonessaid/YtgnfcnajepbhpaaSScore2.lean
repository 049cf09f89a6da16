/- The model's Score. -/
import Derived.Test.YtgnfcnajepbhpaaSScore
namespace Go.Proofs.Ytgnfcnajepbhpaa
open Go.ChangeShapes Go.WideShapes Go.ChangeAt Go.RowKit Go.Joins
set_option linter.unusedVariables false
set_option linter.unusedSimpArgs false

theorem backsOkB_one (i g : Int) (d : Bool) : backsOkB [(i, g, d)] = backB i g := by simp [backsOkB, okAt, List.range_succ]
/-- One back alone, laid by a literal in block n. -/
theorem rdK_one {w : World} {n : Nat} {i g : Int} {d : Bool} (h0 : w.cell? ⟨n, 0, none⟩ = some (.int .i64 i)) (h1 : w.cell? ⟨n, 1, none⟩ = some (.int .i64 g)) (h2 : w.cell? ⟨n, 2, none⟩ = some (.bool d)) (hn : n < w.heap.size) :
    RdK w.heap.size w (some ⟨n, 0, none⟩) [(i, g, d)] := by
  refine .inr ⟨n, 0, rfl, hn, fun a ha j hj => ?_⟩
  have ha' : a = 0 := by simpa using ha
  subst ha'
  have hj' : j < 3 := hj
  match j, hj' with
  | 0, _ => simpa [layK] using h0
  | 1, _ => simpa [layK] using h1
  | 2, _ => simpa [layK] using h2

set_option maxHeartbeats 1000000 in
theorem specScore_any (k b i g : Int) (d : Bool) (w : World) :
    Calls Try.prog 35 #[.int .i64 k, .int .i64 b, back i g d] w fun e w' => e = .returned (.int .i64 (scoreOfI k b i g)) ∧ Below w.heap.size w w' := by
  have hB : Below w.heap.size w w := Below.refl _ _
  by_cases hk : keyB k = true
  · obtain ⟨h1, h2⟩ := keyB_iff.1 hk
    by_cases hb : 0 ≤ b ∧ b < 8
    · obtain ⟨b0, b1⟩ := hb
      have hbb := backsOkB_one i g d
      have d1 : decide (b < 0) = false := by simp; omega
      have d2 : decide (8 ≤ b) = false := by simp; omega
      have HR := hide (rdK_one (w := (w.alloc (Obj.cells #[Value.int IntKind.i64 i, Value.int IntKind.i64 g, Value.bool d] 41)).alloc (Obj.cells #[Value.int IntKind.i64 i, Value.int IntKind.i64 g, Value.bool d] 41)) (n := w.heap.size + 1) (i := i) (g := g) (d := d) (by simp) (by simp) (by simp) (by simp))
      have HA : Hid (Below w.heap.size w ((w.alloc (Obj.cells #[Value.int IntKind.i64 i, Value.int IntKind.i64 g, Value.bool d] 41)).alloc (Obj.cells #[Value.int IntKind.i64 i, Value.int IntKind.i64 g, Value.bool d] 41))) := ((Below.refl _ _).alloc (Nat.le_refl _) _).alloc (by simp) _
      obtain ⟨p0, p1, p2⟩ := box3 w (.int .i64 i) (.int .i64 g) (.bool d) 41
      have hs : w.heap.size < (w.alloc (Obj.cells #[Value.int IntKind.i64 i, Value.int IntKind.i64 g, Value.bool d] 41)).heap.size := by simp
      have P0 := alloc_old _ (Obj.cells #[Value.int IntKind.i64 i, Value.int IntKind.i64 g, Value.bool d] 41) p0 hs
      have P1 := alloc_old _ (Obj.cells #[Value.int IntKind.i64 i, Value.int IntKind.i64 g, Value.bool d] 41) p1 hs
      have P2 := alloc_old _ (Obj.cells #[Value.int IntKind.i64 i, Value.int IntKind.i64 g, Value.bool d] 41) p2 hs
      have hsA : w.heap.size < ((w.alloc (Obj.cells #[Value.int IntKind.i64 i, Value.int IntKind.i64 g, Value.bool d] 41)).alloc (Obj.cells #[Value.int IntKind.i64 i, Value.int IntKind.i64 g, Value.bool d] 41)).heap.size := by simp; omega
      clear p0 p1 p2 hs
      by_cases hg : backB i g = true
      · obtain ⟨i0, i1, g0, g1⟩ := backB_iff.1 hg
        have HS := hide (show scoreI k b i g = scoreOfI k b i g by rw [scoreOfI, if_pos ⟨hk, ⟨b0, b1⟩, hg⟩])
        go_enter Try.func35, Try.ntmps35
        go_wp2_with (first | (go_at_call 63; refine (l3key_any k _).mono ?_; rw [hk]; rintro e w1 ⟨rfl, rfl⟩))
        generalize (w.alloc (Obj.cells #[Value.int IntKind.i64 i, Value.int IntKind.i64 g, Value.bool d] 41)).alloc (Obj.cells #[Value.int IntKind.i64 i, Value.int IntKind.i64 g, Value.bool d] 41) = w0 at *
        refine (specBacksOk_any _ 1 [(i, g, d)] _ HR.out (by simp)).mono ?_
        rw [hbb, hg]
        rintro e w1 ⟨rfl, hb1⟩
        have Q0 := (hb1.cell (p := ⟨w.heap.size, 0, none⟩) hsA).trans P0
        have Q1 := (hb1.cell (p := ⟨w.heap.size, 1, none⟩) hsA).trans P1
        have Q2 := (hb1.cell (p := ⟨w.heap.size, 2, none⟩) hsA).trans P2
        have HB1 : Hid (Below w.heap.size w w1) := HA.out.trans (hb1.mono HA.out.size)
        clear P0 P1 P2 hb1 HR HA hsA hB
        go_wp2_with fail
        refine (l3score_any k b i g d _ h1 h2 b0 b1 i0 i1 (by omega) g1).mono ?_
        rintro e w2 ⟨rfl, hb2⟩
        go_wp2
        go_ret
        exact ⟨ret_int HS.out, HB1.out.trans (hb2.mono HB1.out.size)⟩
      · have hg' : backB i g = false := by simpa using hg
        have HS := hide (show -1 = scoreOfI k b i g by rw [scoreOfI, if_neg (fun q => hg q.2.2)])
        go_enter Try.func35, Try.ntmps35
        go_wp2_with (first | (go_at_call 63; refine (l3key_any k _).mono ?_; rw [hk]; rintro e w1 ⟨rfl, rfl⟩))
        generalize (w.alloc (Obj.cells #[Value.int IntKind.i64 i, Value.int IntKind.i64 g, Value.bool d] 41)).alloc (Obj.cells #[Value.int IntKind.i64 i, Value.int IntKind.i64 g, Value.bool d] 41) = w0 at *
        refine (specBacksOk_any _ 1 [(i, g, d)] _ HR.out (by simp)).mono ?_
        rw [hbb, hg']
        rintro e w1 ⟨rfl, hb1⟩
        have HB1 : Hid (Below w.heap.size w w1) := HA.out.trans (hb1.mono HA.out.size)
        clear P0 P1 P2 hb1 HR HA hsA hB
        go_wp2
        go_ret
        exact ⟨ret_int HS.out, HB1.out⟩
    · have HS := hide (show -1 = scoreOfI k b i g by rw [scoreOfI, if_neg (fun q => hb q.2.1)])
      by_cases b0 : 0 ≤ b
      · have b1 : ¬ b < 8 := fun q => hb ⟨b0, q⟩
        go_enter Try.func35, Try.ntmps35
        go_wp2_with (first | (go_at_call 63; refine (l3key_any k _).mono ?_; rw [hk]; rintro e w1 ⟨rfl, rfl⟩))
        go_ret
        exact ⟨ret_int HS.out, by (repeat (first | with_reducible exact hB | with_reducible exact Below.refl _ _ | with_reducible refine Below.drew ?_ | with_reducible refine below_drewN ?_ _ | with_reducible refine Below.alloc ?_ ?_ _ | with_reducible refine Below.setCell ?_ ?_ _ | (focus (simp; done)) | (focus (simp; omega)) | omega))⟩
      · go_enter Try.func35, Try.ntmps35
        go_wp2_with (first | (go_at_call 63; refine (l3key_any k _).mono ?_; rw [hk]; rintro e w1 ⟨rfl, rfl⟩))
        go_ret
        exact ⟨ret_int HS.out, by (repeat (first | with_reducible exact hB | with_reducible exact Below.refl _ _ | with_reducible refine Below.drew ?_ | with_reducible refine below_drewN ?_ _ | with_reducible refine Below.alloc ?_ ?_ _ | with_reducible refine Below.setCell ?_ ?_ _ | (focus (simp; done)) | (focus (simp; omega)) | omega))⟩
  · have hk' : keyB k = false := by simpa using hk
    have HS := hide (show -1 = scoreOfI k b i g by rw [scoreOfI, if_neg (fun q => hk q.1)])
    go_enter Try.func35, Try.ntmps35
    go_wp2_with (first | (go_at_call 63; refine (l3key_any k _).mono ?_; rw [hk']; rintro e w1 ⟨rfl, rfl⟩))
    go_ret
    exact ⟨ret_int HS.out, by (repeat (first | with_reducible exact hB | with_reducible exact Below.refl _ _ | with_reducible refine Below.drew ?_ | with_reducible refine below_drewN ?_ _ | with_reducible refine Below.alloc ?_ ?_ _ | with_reducible refine Below.setCell ?_ ?_ _ | (focus (simp; done)) | (focus (simp; omega)) | omega))⟩

end Go.Proofs.Ytgnfcnajepbhpaa
