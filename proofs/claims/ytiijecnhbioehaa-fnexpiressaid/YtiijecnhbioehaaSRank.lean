/- The program's map of ranks. -/
import Derived.Test.YtiijecnhbioehaaSCmp
import Derived.MapViews
import Derived.DeepKeys4
namespace Go.Proofs.Ytiijecnhbioehaa
open Go.ChangeShapes Go.WideShapes Go.ChangeAt Go.RowKit Go.Joins Go.Maps
set_option linter.unusedVariables false
set_option linter.unusedSimpArgs false
set_option maxRecDepth 100000

theorem flowDeep : Try.prog.keyTypeAt (Try.prog.types.size + 1) 27 = true := by kernel_rfl
theorem flowWide : (match Try.prog.underlying 27 with | some (.array _ _) | some (.struct _) => true | _ => false) = true := by kernel_rfl
theorem flowKeyed : Keyed Try.prog 27 := Keyed.of_law (deep_law_laid laidOut (m := 3) (by omega) (of_decide_eq_true (by kernel_rfl)) (by kernel_rfl) flowWide)
theorem cellsImplFlow : Try.prog.cellsOf 27 = 2 := by kernel_rfl
theorem flowFormed (x y : Value) : (Value.agg #[x, y]).formed Try.prog 27 = true := by kernel_rfl
theorem wfI64 {n : Int} (h0 : 0 ≤ n) (h1 : n < 9223372036854775808) : (Lit.int .i64 n).wf = true := by
  simp [Lit.wf, IntKind.min, IntKind.max, IntKind.signed, IntKind.bits]; omega
/-- What a flow reads as, as a key. -/
theorem flowKey (a b : Int) (h : flowOkB a b = true) : ∃ kl : Lit, keyOf Try.prog 27 (.agg #[.int .i64 a, .int .i64 b]) = some kl := by
  have q := flowOkB_iff.1 h
  have t : DataW.Trod (fun _ => ()) Try.prog (default : World) 0 (fun _ => true) true 27 (.agg #[.int .i64 a, .int .i64 b]) (.agg [.lit (.int .i64 a), .lit (.int .i64 b)]) [] :=
    shut_agg2 (y0 := (.lit (.int .i64 a), [])) (y1 := (.lit (.int .i64 b), [])) Try.underlying27 (by kernel_rfl) cellsImplFlow ⟨1, by simp [DataW.trod, Try.underlying3, wfI64 q.1 (by omega)]⟩ ⟨1, by simp [DataW.trod, Try.underlying3, wfI64 q.2.2.1 (by omega)]⟩
  exact ⟨_, (keyOf_asKey flowDeep flowWide (flowFormed _ _) t).1⟩

def rankD (k1 k2 : Lit) (r1 r2 : Int) : Nat → DataW Unit
  | 0 => .map []
  | 1 => (DataW.map []).put k1 (.lit (.int .i64 r1))
  | _ => ((DataW.map []).put k1 (.lit (.int .i64 r1))).put k2 (.lit (.int .i64 r2))

set_option maxHeartbeats 1000000 in
theorem flowRanks_any (g : Nat) (a b c d : Int) (k1 k2 : Lit) (w : World) (hg : g < w.heap.size) (h0 : w.cell? ⟨g, 0, none⟩ = some (.int .i64 a)) (h1 : w.cell? ⟨g, 1, none⟩ = some (.int .i64 b)) (h2 : w.cell? ⟨g, 2, none⟩ = some (.int .i64 c)) (h3 : w.cell? ⟨g, 3, none⟩ = some (.int .i64 d))
    (q1 : flowOkB a b = true) (q2 : flowOkB c d = true) (hk1 : keyOf Try.prog 27 (.agg #[.int .i64 a, .int .i64 b]) = some k1) (hk2 : keyOf Try.prog 27 (.agg #[.int .i64 c, .int .i64 d]) = some k2) :
    Calls Try.prog 76 #[.slice (some ⟨g, 0, none⟩) 2 2] w fun e w' => e = .returned (.map (some w.heap.size)) ∧ w'.ownsMap Try.prog 27 (plainElem Try.prog 3) w.heap.size 2 (rankD k1 k2 (a * 65536 + b) (c * 65536 + d) 2) ∧ Below w.heap.size w w' := by
  have hmm : ∀ w, (Instr.makeMap 101 (some (.int .i64 2))).run Try.prog w = .ok (.map (some w.heap.size)) (w.alloc (.map #[] 0)) := fun _ => by kernel_rfl
  have r1 := flowOkB_iff.1 q1
  have r2 := flowOkB_iff.1 q2
  have HK1 := hide hk1
  have HK2 := hide hk2
  have w1 : (Lit.int .i64 (a * 65536 + b)).wf = true := wfI64 (by omega) (by omega)
  have w2 : (Lit.int .i64 (c * 65536 + d)).wf = true := wfI64 (by omega) (by omega)
  have W1 := hide w1
  have W2 := hide w2
  clear hk1 hk2 w1 w2 q1 q2
  go_enter Try.func76, Try.ntmps76
  go_wp2
  go_loopw [11] (fun i wr => ∃ k : Nat, k ≤ 2 ∧ i = .int .i64 k ∧ wr.ownsMap Try.prog 27 (plainElem Try.prog 3) w.heap.size k (rankD k1 k2 (a * 65536 + b) (c * 65536 + d) k) ∧ Below w.heap.size w wr ∧ w.heap.size < wr.heap.size)
    (fun i _ => 2 - (intOf i).toNat)
  case atStart => exact ⟨0, by omega, rfl, World.ownsMap_made _ _ _ _, (Below.refl _ _).alloc (Nat.le_refl _) _, by simp⟩
  case round =>
    obtain ⟨k, hk, rfl, hown, hBr, hsz⟩ := hrel
    have d0 := (hBr.cell (p := ⟨g, 0, none⟩) hg).trans h0
    have d1 := (hBr.cell (p := ⟨g, 1, none⟩) hg).trans h1
    have d2 := (hBr.cell (p := ⟨g, 2, none⟩) hg).trans h2
    have d3 := (hBr.cell (p := ⟨g, 3, none⟩) hg).trans h3
    have ek : k = 0 ∨ k = 1 ∨ k = 2 := by omega
    rcases ek with ek | ek | ek
    · subst ek
      have H := hide hown
      clear hown
      go_wp2_with (first | (at_mapUpdate; refine wpList_mapUpdate_own _ rfl _ _ _ 101 rfl 27 3 flowKeyed Try.underlying101 _ w.heap.size 0 _ rfl (H.out.alloc _) (by unfold maxLen; omega) _ _ k1 rfl rfl HK1.out _ [] (plainElem_int Try.underlying3 W1.out) ?_; intro w1 hown1 hgrow1))
      go_roundw
      case rel => exact ⟨1, by omega, rfl, hown1, (hBr.alloc (Nat.le_of_lt hsz) _).grown hgrow1 (by simp; omega) (fun k h => by cases h; exact Nat.le_refl _), by have := hgrow1.size; simp at this; omega⟩
      case measure => simp [intOf]
    · subst ek
      have H := hide hown
      clear hown
      go_wp2_with (first | (at_mapUpdate; refine wpList_mapUpdate_own _ rfl _ _ _ 101 rfl 27 3 flowKeyed Try.underlying101 _ w.heap.size 1 _ rfl (H.out.alloc _) (by unfold maxLen; omega) _ _ k2 rfl rfl HK2.out _ [] (plainElem_int Try.underlying3 W2.out) ?_; intro w1 hown1 hgrow1))
      go_roundw
      case rel => exact ⟨2, by omega, rfl, hown1, (hBr.alloc (Nat.le_of_lt hsz) _).grown hgrow1 (by simp; omega) (fun k h => by cases h; exact Nat.le_refl _), by have := hgrow1.size; simp at this; omega⟩
      case measure => simp [intOf]
    · subst ek
      have H := hide hown
      clear hown
      go_wp2
      go_ret
      exact ⟨rfl, H.out, hBr⟩

theorem rank_at (k1 k2 : Lit) (r1 r2 : Int) (hk1 : WideAt.IsKeyLit k1) (hk2 : WideAt.IsKeyLit k2) (h : k1 = k2 → r1 = r2) :
    (rankD k1 k2 r1 r2 2).atKey k1 (.lit (.int .i64 0)) = .lit (.int .i64 r1) ∧ (rankD k1 k2 r1 r2 2).atKey k2 (.lit (.int .i64 0)) = .lit (.int .i64 r2) := by
  have hm : IsMap ((DataW.map []).put k1 (.lit (.int .i64 r1)) : DataW Unit) := ⟨_, rfl⟩
  refine ⟨?_, atKey_put_same hm hk2 _ _⟩
  show (((DataW.map []).put k1 (.lit (.int .i64 r1))).put k2 (.lit (.int .i64 r2))).atKey k1 _ = _
  by_cases e : k1 = k2
  · rw [h e]
    subst e
    exact atKey_put_same ⟨_, rfl⟩ hk2 _ _
  · exact (atKey_put_other e _ _).trans (atKey_put_same ⟨_, rfl⟩ hk1 _ _)

theorem zeroInt (w : World) : (zeroValue 3).run Try.prog w = .ok (.int .i64 0) w := by kernel_rfl
theorem look_at {w : World} {m : Nat} {D : DataW Unit} {key : Value} {kl : Lit} {r : Int} (hown : w.ownsMap Try.prog 27 (plainElem Try.prog 3) m 2 D) (hk : keyOf Try.prog 27 key = some kl) (hr : D.atKey kl (.lit (.int .i64 0)) = .lit (.int .i64 r)) :
    (Instr.lookup 101 (.map (some m)) key false).run Try.prog w = .ok (.int .i64 r) w := by
  obtain ⟨c, hrun, hat, _⟩ := hown.lookup_int flowKeyed Try.underlying101 Try.underlying3 (zeroInt w) hk
  rw [hat] at hr
  simp at hr
  rw [hrun, hr]

set_option maxHeartbeats 1000000 in
theorem implFlowCmp_any (a b c d : Int) (w : World) : Calls Try.prog 34 #[.agg #[.int .i64 a, .int .i64 b], .agg #[.int .i64 c, .int .i64 d]] w fun e w' => e = .returned (.int .i64 (flowCmpI a b c d)) ∧ Below w.heap.size w w' := by
  have hB : Below w.heap.size w w := Below.refl _ _
  have k1 := hide (fun w => implFlowOk_any a b w)
  have k2 := hide (fun w => implFlowOk_any c d w)
  by_cases h1 : flowOkB a b = true
  · rw [h1] at k1
    by_cases h2 : flowOkB c d = true
    · rw [h2] at k2
      obtain ⟨l1, hl1⟩ := flowKey a b h1
      obtain ⟨l2, hl2⟩ := flowKey c d h2
      have hsame : l1 = l2 → a * 65536 + b = c * 65536 + d := by
        intro e
        subst e
        have := flowKeyed.inj hl1 hl2
        simp at this
        omega
      have hat := rank_at l1 l2 (a * 65536 + b) (c * 65536 + d) (flowKeyed.key hl1) (flowKeyed.key hl2) hsame
      have HAT := hide hat
      have H := hide (rank_cmp a b c d h1 h2)
      have HL1 := hide hl1
      have HL2 := hide hl2
      have HQ1 := hide h1
      have HQ2 := hide h2
      clear hat hsame hl1 hl2 h1 h2
      go_enter Try.func34, Try.ntmps34
      go_wp2_with fail; go_at_call 75; refine (k1.out _).mono ?_; rintro e w1a ⟨rfl, hba⟩; obtain ⟨hca, hfa⟩ := bcell hba; have hz0a : w.heap.size < w1a.heap.size := (by have hz := hba.size; (try simp at hz); omega); have hz1a : w.heap.size + 1 < w1a.heap.size := (by have hz := hba.size; (try simp at hz); omega); have hB : Below w.heap.size w w1a := (by refine Below.trans ?_ (hba.mono (by have hs := hB.size; (try simp) <;> omega)); (repeat (first | with_reducible exact hB | with_reducible exact Below.refl _ _ | with_reducible refine Below.drew ?_ | with_reducible refine below_drewN ?_ _ | with_reducible refine Below.alloc ?_ ?_ _ | with_reducible refine Below.setCell ?_ ?_ _ | (focus (simp; done)) | (focus (simp; omega)) | omega)))
      go_wp2_with fail; go_at_call 75; refine (k2.out _).mono ?_; rintro e w1b ⟨rfl, hbb⟩; obtain ⟨hcb, hfb⟩ := bcell hbb; have hz0b : w.heap.size < w1b.heap.size := (by have hz := hbb.size; (try simp at hz); omega); have hz1b : w.heap.size + 1 < w1b.heap.size := (by have hz := hbb.size; (try simp at hz); omega); have hB : Below w.heap.size w w1b := (by refine Below.trans ?_ (hbb.mono (by have hs := hB.size; (try simp) <;> omega)); (repeat (first | with_reducible exact hB | with_reducible exact Below.refl _ _ | with_reducible refine Below.drew ?_ | with_reducible refine below_drewN ?_ _ | with_reducible refine Below.alloc ?_ ?_ _ | with_reducible refine Below.setCell ?_ ?_ _ | (focus (simp; done)) | (focus (simp; omega)) | omega)))
      go_wp2_with fail
      have cA : w1b.cell? ⟨w.heap.size, 0, none⟩ = some (.int .i64 a) := by rw [hcb _ _ hz0a, hca _ _ (by simp; omega)]; simp
      have cB : w1b.cell? ⟨w.heap.size, 1, none⟩ = some (.int .i64 b) := by rw [hcb _ _ hz0a, hca _ _ (by simp; omega)]; simp
      have cC : w1b.cell? ⟨w.heap.size + 1, 0, none⟩ = some (.int .i64 c) := by rw [hcb _ _ hz1a, hca _ _ (by simp)]; simp
      have cD : w1b.cell? ⟨w.heap.size + 1, 1, none⟩ = some (.int .i64 d) := by rw [hcb _ _ hz1a, hca _ _ (by simp)]; simp
      clear hca hfa hcb hfb hba hbb
      generalize hwx : w1b.alloc (.cells #[.int .i64 a, .int .i64 b, .int .i64 c, .int .i64 d] 27) = wx at *
      have hbx : Below w1b.heap.size w1b wx := by rw [← hwx]; exact (Below.refl _ _).alloc (Nat.le_refl _) _
      have hsx : w1b.heap.size < wx.heap.size := by rw [← hwx]; simp
      have hsx1 : wx.heap.size = w1b.heap.size + 1 := by rw [← hwx]; simp
      have y0 : wx.cell? ⟨w1b.heap.size, 0, none⟩ = some (.int .i64 a) := by rw [← hwx]; simp
      have y1 : wx.cell? ⟨w1b.heap.size, 1, none⟩ = some (.int .i64 b) := by rw [← hwx]; simp
      have y2 : wx.cell? ⟨w1b.heap.size, 2, none⟩ = some (.int .i64 c) := by rw [← hwx]; simp
      have y3 : wx.cell? ⟨w1b.heap.size, 3, none⟩ = some (.int .i64 d) := by rw [← hwx]; simp
      clear hwx
      have hfr := flowRanks_any w1b.heap.size a b c d l1 l2 wx hsx y0 y1 y2 y3 HQ1.out HQ2.out HL1.out HL2.out
      rw [hsx1] at hfr
      refine hfr.mono ?_
      rintro e wy ⟨rfl, howny, hby⟩
      have hby' : Below w1b.heap.size w1b wy := hbx.trans (hby.mono (by omega))
      have eA := (hby'.cell (p := ⟨w.heap.size, 0, none⟩) hz0b).trans cA
      have eB := (hby'.cell (p := ⟨w.heap.size, 1, none⟩) hz0b).trans cB
      have eC := (hby'.cell (p := ⟨w.heap.size + 1, 0, none⟩) hz1b).trans cC
      have eD := (hby'.cell (p := ⟨w.heap.size + 1, 1, none⟩) hz1b).trans cD
      have L1 : (Instr.lookup 101 (.map (some (w1b.heap.size + 1))) (.agg #[.int .i64 a, .int .i64 b]) false).run Try.prog wy.drew = .ok (.int .i64 (a * 65536 + b)) wy.drew := look_at howny.drew HL1.out HAT.out.1
      have L2 : (Instr.lookup 101 (.map (some (w1b.heap.size + 1))) (.agg #[.int .i64 c, .int .i64 d]) false).run Try.prog wy.drew = .ok (.int .i64 (c * 65536 + d)) wy.drew := look_at howny.drew HL2.out HAT.out.2
      have hBy : Below w.heap.size w wy := hB.trans (hby'.mono (Nat.le_of_lt hz0b))
      clear howny hby hby' cA cB cC cD y0 y1 y2 y3 hbx hfr
      go_wp2_with fail
      go_region_held3 (fun w' => w'.cell? ⟨w.heap.size, 0, none⟩ = some (.int .i64 a) ∧ w'.cell? ⟨w.heap.size, 1, none⟩ = some (.int .i64 b) ∧ w'.cell? ⟨w.heap.size + 1, 0, none⟩ = some (.int .i64 c) ∧ w'.cell? ⟨w.heap.size + 1, 1, none⟩ = some (.int .i64 d) ∧ (Instr.lookup 101 (.map (some (w1b.heap.size + 1))) (.agg #[.int .i64 a, .int .i64 b]) false).run Try.prog w' = .ok (.int .i64 (a * 65536 + b)) w' ∧ (Instr.lookup 101 (.map (some (w1b.heap.size + 1))) (.agg #[.int .i64 c, .int .i64 d]) false).run Try.prog w' = .ok (.int .i64 (c * 65536 + d)) w') (first | exact ⟨eA, eB, eC, eD, L1, L2⟩) (first | (go_at_call 77; refine (compare_any _ _ _).mono ?_; rintro e wz ⟨rfl, rfl⟩))
      all_goals go_wp2
      all_goals go_ret
      all_goals exact ⟨ret_int H.out, Below.drew hBy⟩
    · have h2' := Bool.eq_false_iff.2 h2
      rw [h2'] at k2
      have H := hide (flowCmp_no2 (a := a) (b := b) h2')
      go_enter Try.func34, Try.ntmps34
      go_wp2_with fail; go_at_call 75; refine (k1.out _).mono ?_; rintro e w1a ⟨rfl, hba⟩; obtain ⟨hca, hfa⟩ := bcell hba; have hz0a : w.heap.size < w1a.heap.size := (by have hz := hba.size; (try simp at hz); omega); have hz1a : w.heap.size + 1 < w1a.heap.size := (by have hz := hba.size; (try simp at hz); omega); have hB : Below w.heap.size w w1a := (by refine Below.trans ?_ (hba.mono (by have hs := hB.size; (try simp) <;> omega)); (repeat (first | with_reducible exact hB | with_reducible exact Below.refl _ _ | with_reducible refine Below.drew ?_ | with_reducible refine below_drewN ?_ _ | with_reducible refine Below.alloc ?_ ?_ _ | with_reducible refine Below.setCell ?_ ?_ _ | (focus (simp; done)) | (focus (simp; omega)) | omega)))
      go_wp2_with fail; go_at_call 75; refine (k2.out _).mono ?_; rintro e w1b ⟨rfl, hbb⟩; obtain ⟨hcb, hfb⟩ := bcell hbb; have hz0b : w.heap.size < w1b.heap.size := (by have hz := hbb.size; (try simp at hz); omega); have hz1b : w.heap.size + 1 < w1b.heap.size := (by have hz := hbb.size; (try simp at hz); omega); have hB : Below w.heap.size w w1b := (by refine Below.trans ?_ (hbb.mono (by have hs := hB.size; (try simp) <;> omega)); (repeat (first | with_reducible exact hB | with_reducible exact Below.refl _ _ | with_reducible refine Below.drew ?_ | with_reducible refine below_drewN ?_ _ | with_reducible refine Below.alloc ?_ ?_ _ | with_reducible refine Below.setCell ?_ ?_ _ | (focus (simp; done)) | (focus (simp; omega)) | omega)))
      go_wp2
      go_ret
      exact ⟨ret_int H.out, by (repeat (first | with_reducible exact hB | with_reducible exact Below.refl _ _ | with_reducible refine Below.drew ?_ | with_reducible refine below_drewN ?_ _ | with_reducible refine Below.alloc ?_ ?_ _ | with_reducible refine Below.setCell ?_ ?_ _ | (focus (simp; done)) | (focus (simp; omega)) | omega))⟩
  · have h1' := Bool.eq_false_iff.2 h1
    rw [h1'] at k1
    have H := hide (flowCmp_no1 (c := c) (d := d) h1')
    go_enter Try.func34, Try.ntmps34
    go_wp2_with fail; go_at_call 75; refine (k1.out _).mono ?_; rintro e w1a ⟨rfl, hba⟩; obtain ⟨hca, hfa⟩ := bcell hba; have hz0a : w.heap.size < w1a.heap.size := (by have hz := hba.size; (try simp at hz); omega); have hz1a : w.heap.size + 1 < w1a.heap.size := (by have hz := hba.size; (try simp at hz); omega); have hB : Below w.heap.size w w1a := (by refine Below.trans ?_ (hba.mono (by have hs := hB.size; (try simp) <;> omega)); (repeat (first | with_reducible exact hB | with_reducible exact Below.refl _ _ | with_reducible refine Below.drew ?_ | with_reducible refine below_drewN ?_ _ | with_reducible refine Below.alloc ?_ ?_ _ | with_reducible refine Below.setCell ?_ ?_ _ | (focus (simp; done)) | (focus (simp; omega)) | omega)))
    go_wp2
    go_ret
    exact ⟨ret_int H.out, by (repeat (first | with_reducible exact hB | with_reducible exact Below.refl _ _ | with_reducible refine Below.drew ?_ | with_reducible refine below_drewN ?_ _ | with_reducible refine Below.alloc ?_ ?_ _ | with_reducible refine Below.setCell ?_ ?_ _ | (focus (simp; done)) | (focus (simp; omega)) | omega))⟩

end Go.Proofs.Ytiijecnhbioehaa
