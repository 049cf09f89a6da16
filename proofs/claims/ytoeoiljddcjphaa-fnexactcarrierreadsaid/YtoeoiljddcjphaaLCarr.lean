/- Contracts of the laws' own helpers over what is carried: one that came in, its size, its copy, its comparison. -/
import Derived.Test.YtoeoiljddcjphaaLSegs
import Derived.Test.YtoeoiljddcjphaaLPacket
namespace Go.Proofs.Ytoeoiljddcjphaa
open Go.ChangeShapes Go.WideShapes Go.ChangeAt Go.RowKit Go.Joins
set_option linter.unusedVariables false
set_option linter.unusedSimpArgs false

abbrev crr (a b f s : Int) (v g : Value) (p t : Int) : Value := .agg #[.int .i64 a, .int .i64 b, .int .i64 f, .int .i64 s, v, g, .int .i64 p, .int .i64 t]

theorem array8 {α : Type} {cs : Array α} (h : cs.size = 8) : ∃ c0 c1 c2 c3 c4 c5 c6 c7, cs = #[c0, c1, c2, c3, c4, c5, c6, c7] := by
  obtain ⟨l⟩ := cs
  match l, h with
  | [c0, c1, c2, c3, c4, c5, c6, c7], _ => exact ⟨c0, c1, c2, c3, c4, c5, c6, c7, rfl⟩
theorem cellsLawsCarrier : Try.prog.cellsOf 55 = 8 := by kernel_rfl
theorem cellsLawsSegs : Try.prog.cellsOf 53 = 1 := by kernel_rfl

set_option maxRecDepth 100000 in
theorem open_carrier {H : Type} {enc : TypeId × Value → H} {W : World} {base : Nat} {v : Value} {d : DataW H} {p : List MemPlace}
    (hv : Value.okWide Try.prog W .any base 55 v) (h : DataW.Trod enc Try.prog W 0 (fun _ => true) true 55 v d p) :
    ∃ (a b f s : Int) (o : Option Addr) (cap : Nat) (l : List Int) (og : Option Addr) (cg : Nat) (g : List (Int × Int)) (pl st : Int), v = crr a b f s (.slice o l.length cap) (.slice og g.length cg) pl st ∧ l.length ≤ maxLen ∧ Rd W o l ∧ isB l ∧ g.length ≤ maxLen ∧ RdG W og g := by
  obtain ⟨cs, rfl, hsz⟩ := okWide_struct Try.underlying55 hv
  obtain ⟨c0, c1, c2, c3, c4, c5, c6, c7, rfl⟩ := array8 (hsz.trans cellsLawsCarrier)
  obtain ⟨fuel, hf⟩ := h
  obtain ⟨y0, y1, y2, y3, n, _, _, h0, h1, h2, h3⟩ := trod_struct4 Try.underlying55 (by simpa [Value.cells] using hf)
  simp [cellsInt, cellsLawsPacket, cellsLawsSegs] at h0 h1 h2 h3
  obtain ⟨a, b, f, s, o, cap, l, e, r⟩ := open_packet_cells h0
  obtain ⟨og, cg, g, eg, rg⟩ := open_segs_cells h1
  obtain ⟨pl, e2, _, _⟩ := DataW.trod_int Try.underlying3 h2
  obtain ⟨st, e3, _, _⟩ := DataW.trod_int Try.underlying3 h3
  simp at e eg e2 e3
  obtain ⟨rfl, rfl, rfl, rfl, rfl⟩ := e
  subst eg e2 e3
  exact ⟨a, b, f, s, o, cap, l, og, cg, g, pl, st, rfl, r.1, r.2.1, r.2.2, rg.1, rg.2⟩

set_option maxHeartbeats 800000 in
theorem szCarrier_any (a b f s : Int) (o og : Option Addr) (len cap lg cg : Nat) (pl st : Int) (n : Int) (w : World) (hl : len ≤ maxLen) (hg : lg ≤ maxLen) (h0 : 0 ≤ n) (h1 : n ≤ 1048576) :
    Calls Try.prog 50 #[crr a b f s (.slice o len cap) (.slice og lg cg) pl st, .int .i64 n] w fun e w' => e = .returned (.int .i64 (if n - len - lg < 0 then -1 else n - len - lg)) ∧ Below w.heap.size w w' := by
  have hB : Below w.heap.size w w := Below.refl _ _
  have hs := fun w => szPacket_any a b f s o len cap n w hl h0 h1
  by_cases h : n - len < 0
  · rw [if_pos h] at hs
    rw [if_pos (by omega)]
    go_enter Try.func50, Try.ntmps50
    go_wp2_with (first | (go_at_call 80; refine (hs _).mono ?_; rintro e w1a ⟨rfl, hba⟩; obtain ⟨hca, hfa⟩ := bcell hba; have hz0a : w.heap.size < w1a.heap.size := (by have hz := hba.size; (try simp at hz); omega); have hB : Below w.heap.size w w1a := (by refine Below.trans ?_ (hba.mono (by have hs := hB.size; (try simp) <;> omega)); (repeat (first | with_reducible exact hB | with_reducible exact Below.refl _ _ | with_reducible refine Below.drew ?_ | with_reducible refine below_drewN ?_ _ | with_reducible refine Below.alloc ?_ ?_ _ | with_reducible refine Below.setCell ?_ ?_ _ | (focus (simp; done)) | (focus (simp; omega)) | omega)))))
    go_ret
    exact ⟨rfl, by (repeat (first | with_reducible exact hB | with_reducible exact Below.refl _ _ | with_reducible refine Below.drew ?_ | with_reducible refine below_drewN ?_ _ | with_reducible refine Below.alloc ?_ ?_ _ | with_reducible refine Below.setCell ?_ ?_ _ | (focus (simp; done)) | (focus (simp; omega)) | omega))⟩
  · rw [if_neg h] at hs
    have ht := fun w => szSegS_any og lg cg (n - len) w hg (by omega) (by omega)
    by_cases h2 : n - len - lg < 0
    · rw [if_pos h2] at ht
      rw [if_pos h2]
      go_enter Try.func50, Try.ntmps50
      go_wp2_with (first | (go_at_call 80; refine (hs _).mono ?_; rintro e w1a ⟨rfl, hba⟩; obtain ⟨hca, hfa⟩ := bcell hba; have hz0a : w.heap.size < w1a.heap.size := (by have hz := hba.size; (try simp at hz); omega); have hB : Below w.heap.size w w1a := (by refine Below.trans ?_ (hba.mono (by have hs := hB.size; (try simp) <;> omega)); (repeat (first | with_reducible exact hB | with_reducible exact Below.refl _ _ | with_reducible refine Below.drew ?_ | with_reducible refine below_drewN ?_ _ | with_reducible refine Below.alloc ?_ ?_ _ | with_reducible refine Below.setCell ?_ ?_ _ | (focus (simp; done)) | (focus (simp; omega)) | omega)))) | (go_at_call 81; refine (ht _).mono ?_; rintro e w2 ⟨rfl, rfl⟩))
      go_ret
      exact ⟨rfl, by (repeat (first | with_reducible exact hB | with_reducible exact Below.refl _ _ | with_reducible refine Below.drew ?_ | with_reducible refine below_drewN ?_ _ | with_reducible refine Below.alloc ?_ ?_ _ | with_reducible refine Below.setCell ?_ ?_ _ | (focus (simp; done)) | (focus (simp; omega)) | omega))⟩
    · rw [if_neg h2] at ht
      rw [if_neg h2]
      go_enter Try.func50, Try.ntmps50
      go_wp2_with (first | (go_at_call 80; refine (hs _).mono ?_; rintro e w1a ⟨rfl, hba⟩; obtain ⟨hca, hfa⟩ := bcell hba; have hz0a : w.heap.size < w1a.heap.size := (by have hz := hba.size; (try simp at hz); omega); have hB : Below w.heap.size w w1a := (by refine Below.trans ?_ (hba.mono (by have hs := hB.size; (try simp) <;> omega)); (repeat (first | with_reducible exact hB | with_reducible exact Below.refl _ _ | with_reducible refine Below.drew ?_ | with_reducible refine below_drewN ?_ _ | with_reducible refine Below.alloc ?_ ?_ _ | with_reducible refine Below.setCell ?_ ?_ _ | (focus (simp; done)) | (focus (simp; omega)) | omega)))) | (go_at_call 81; refine (ht _).mono ?_; rintro e w2 ⟨rfl, rfl⟩))
      go_ret
      exact ⟨rfl, by (repeat (first | with_reducible exact hB | with_reducible exact Below.refl _ _ | with_reducible refine Below.drew ?_ | with_reducible refine below_drewN ?_ _ | with_reducible refine Below.alloc ?_ ?_ _ | with_reducible refine Below.setCell ?_ ?_ _ | (focus (simp; done)) | (focus (simp; omega)) | omega))⟩

set_option maxHeartbeats 4000000 in
theorem toCarrier_any (a b f s : Int) (o og : Option Addr) (cap cg : Nat) (l : List Int) (g : List (Int × Int)) (pl st : Int) (w : World) (hR : Rd w o l) (hB8 : isB l) (hlen : l.length ≤ 1048576) (hG : RdG w og g) (hgl : g.length ≤ 1048576) :
    Calls Try.prog 52 #[crr a b f s (.slice o l.length cap) (.slice og g.length cg) pl st] w fun e w' => ∃ k kg, e = .returned (crr a b f s (.slice (some ⟨k, 0, none⟩) l.length l.length) (.slice (some ⟨kg, 0, none⟩) g.length g.length) pl st) ∧ ownB w' w.heap.size (.slice (some ⟨k, 0, none⟩) l.length l.length) l ∧ ownG w' w.heap.size (.slice (some ⟨kg, 0, none⟩) g.length g.length) g ∧ k < kg ∧ Below w.heap.size w w' := by
  have hB : Below w.heap.size w w := Below.refl _ _
  go_enter Try.func52, Try.ntmps52
  go_wp2_with (first | (go_at_call 82; refine (toPacket_any a b f s o cap l _ (hR.kept (by (repeat (first | with_reducible exact hB | with_reducible exact Below.refl _ _ | with_reducible refine Below.drew ?_ | with_reducible refine below_drewN ?_ _ | with_reducible refine Below.alloc ?_ ?_ _ | with_reducible refine Below.setCell ?_ ?_ _ | (focus (simp; done)) | (focus (simp; omega)) | omega)))) hB8 hlen).mono ?_; rintro e w1a ⟨k, rfl, hown, hba⟩; obtain ⟨hca, hfa⟩ := bcell hba; have hz0a : w.heap.size < w1a.heap.size := (by have hz := hba.size; (try simp at hz); omega); have hz1a : w.heap.size + 1 < w1a.heap.size := (by have hz := hba.size; (try simp at hz); omega); have hz2a : w.heap.size + 1 + 1 < w1a.heap.size := (by have hz := hba.size; (try simp at hz); omega); have hB : Below w.heap.size w w1a := (by refine Below.trans ?_ (hba.mono (by have hs := hB.size; (try simp) <;> omega)); (repeat (first | with_reducible exact hB | with_reducible exact Below.refl _ _ | with_reducible refine Below.drew ?_ | with_reducible refine below_drewN ?_ _ | with_reducible refine Below.alloc ?_ ?_ _ | with_reducible refine Below.setCell ?_ ?_ _ | (focus (simp; done)) | (focus (simp; omega)) | omega)))) | (go_at_call 83; refine (toSegS_any og cg g _ (hG.kept (by (repeat (first | with_reducible exact hB | with_reducible exact Below.refl _ _ | with_reducible refine Below.drew ?_ | with_reducible refine below_drewN ?_ _ | with_reducible refine Below.alloc ?_ ?_ _ | with_reducible refine Below.setCell ?_ ?_ _ | (focus (simp; done)) | (focus (simp; omega)) | omega)))) hgl).mono ?_; rintro e w1b ⟨kg, rfl, howg, hbb⟩; obtain ⟨hcb, hfb⟩ := bcell hbb; have hz0b : w.heap.size < w1b.heap.size := (by have hz := hbb.size; (try simp at hz); omega); have hz1b : w.heap.size + 1 < w1b.heap.size := (by have hz := hbb.size; (try simp at hz); omega); have hz2b : w.heap.size + 1 + 1 < w1b.heap.size := (by have hz := hbb.size; (try simp at hz); omega); have hB : Below w.heap.size w w1b := (by refine Below.trans ?_ (hbb.mono (by have hs := hB.size; (try simp) <;> omega)); (repeat (first | with_reducible exact hB | with_reducible exact Below.refl _ _ | with_reducible refine Below.drew ?_ | with_reducible refine below_drewN ?_ _ | with_reducible refine Below.alloc ?_ ?_ _ | with_reducible refine Below.setCell ?_ ?_ _ | (focus (simp; done)) | (focus (simp; omega)) | omega)))))
  have h1 : ownB w1a (w.heap.size + 1 + 1 + 1) (.slice (some ⟨k, 0, none⟩) l.length l.length) l := by simpa using hown
  have hk : k < w1a.heap.size := (h1.lt k rfl).2
  have h2 : ownG w1b w1a.heap.size (.slice (some ⟨kg, 0, none⟩) g.length g.length) g := by simpa using howg
  have hkg : w1a.heap.size ≤ kg := (h2.lt kg rfl).1
  have h3 : ownB w1b (w.heap.size + 1 + 1 + 1) (.slice (some ⟨k, 0, none⟩) l.length l.length) l := by
    refine own_kept ?_ hbb
    repeat (refine ownsRow_setCell_below ?_ (by simp <;> omega) _)
    exact h1
  clear hown howg hba hbb h1
  refine bodyPost_ret (v := crr a b f s (.slice (some ⟨k, 0, none⟩) l.length l.length) (.slice (some ⟨kg, 0, none⟩) g.length g.length) pl st) (by simp [results, Try.results52, go_sem, hcb, hca, hz0a, hz1a, hz2a, hz0b, hz1b, hz2b]) rfl ⟨k, kg, rfl, ?_, ?_, ?_, ?_⟩
  · refine own_mono (base := w.heap.size + 1 + 1 + 1) ?_ (by omega)
    repeat (refine ownsRow_setCell_below ?_ (by simp <;> omega) _)
    exact h3
  · refine own_mono (base := w1a.heap.size) ?_ (Nat.le_of_lt hz0a)
    repeat (refine ownsRow_setCell_below ?_ (by simp <;> omega) _)
    exact h2
  · omega
  · (repeat (first | with_reducible exact hB | with_reducible exact Below.refl _ _ | with_reducible refine Below.drew ?_ | with_reducible refine below_drewN ?_ _ | with_reducible refine Below.alloc ?_ ?_ _ | with_reducible refine Below.setCell ?_ ?_ _ | (focus (simp; done)) | (focus (simp; omega)) | omega))

set_option maxHeartbeats 2000000 in
theorem eqCarrier_same (a b f s : Int) (o1 o2 p1 p2 : Option Addr) (c1 c2 d1 d2 : Nat) (l : List Int) (g : List (Int × Int)) (pl st : Int) (w : World) (h1 : Rd w o1 l) (h2 : Rd w o2 l) (hl : l.length ≤ 1048576) (g1 : RdG w p1 g) (g2 : RdG w p2 g) (hg : g.length ≤ 1048576) :
    Calls Try.prog 18 #[crr a b f s (.slice o1 l.length c1) (.slice p1 g.length d1) pl st, crr a b f s (.slice o2 l.length c2) (.slice p2 g.length d2) pl st] w fun e w' => e = .returned (.bool true) ∧ Below w.heap.size w w' := by
  have hB : Below w.heap.size w w := Below.refl _ _
  go_enter Try.func18, Try.ntmps18
  go_wp2_with (first | (go_at_call 44; refine (eqPacket_same a b f s o1 o2 c1 c2 l _ (h1.kept (by (repeat (first | with_reducible exact hB | with_reducible exact Below.refl _ _ | with_reducible refine Below.drew ?_ | with_reducible refine below_drewN ?_ _ | with_reducible refine Below.alloc ?_ ?_ _ | with_reducible refine Below.setCell ?_ ?_ _ | (focus (simp; done)) | (focus (simp; omega)) | omega)))) (h2.kept (by (repeat (first | with_reducible exact hB | with_reducible exact Below.refl _ _ | with_reducible refine Below.drew ?_ | with_reducible refine below_drewN ?_ _ | with_reducible refine Below.alloc ?_ ?_ _ | with_reducible refine Below.setCell ?_ ?_ _ | (focus (simp; done)) | (focus (simp; omega)) | omega)))) hl).mono ?_; rintro e w1a ⟨rfl, hba⟩; obtain ⟨hca, hfa⟩ := bcell hba; have hz0a : w.heap.size < w1a.heap.size := (by have hz := hba.size; (try simp at hz); omega); have hz1a : w.heap.size + 1 < w1a.heap.size := (by have hz := hba.size; (try simp at hz); omega); have hB : Below w.heap.size w w1a := (by refine Below.trans ?_ (hba.mono (by have hs := hB.size; (try simp) <;> omega)); (repeat (first | with_reducible exact hB | with_reducible exact Below.refl _ _ | with_reducible refine Below.drew ?_ | with_reducible refine below_drewN ?_ _ | with_reducible refine Below.alloc ?_ ?_ _ | with_reducible refine Below.setCell ?_ ?_ _ | (focus (simp; done)) | (focus (simp; omega)) | omega)))) | (go_at_call 45; refine (eqSegS_same p1 p2 d1 d2 g _ (g1.kept (by (repeat (first | with_reducible exact hB | with_reducible exact Below.refl _ _ | with_reducible refine Below.drew ?_ | with_reducible refine below_drewN ?_ _ | with_reducible refine Below.alloc ?_ ?_ _ | with_reducible refine Below.setCell ?_ ?_ _ | (focus (simp; done)) | (focus (simp; omega)) | omega)))) (g2.kept (by (repeat (first | with_reducible exact hB | with_reducible exact Below.refl _ _ | with_reducible refine Below.drew ?_ | with_reducible refine below_drewN ?_ _ | with_reducible refine Below.alloc ?_ ?_ _ | with_reducible refine Below.setCell ?_ ?_ _ | (focus (simp; done)) | (focus (simp; omega)) | omega)))) hg).mono ?_; rintro e w1b ⟨rfl, hbb⟩; obtain ⟨hcb, hfb⟩ := bcell hbb; have hz0b : w.heap.size < w1b.heap.size := (by have hz := hbb.size; (try simp at hz); omega); have hz1b : w.heap.size + 1 < w1b.heap.size := (by have hz := hbb.size; (try simp at hz); omega); have hB : Below w.heap.size w w1b := (by refine Below.trans ?_ (hbb.mono (by have hs := hB.size; (try simp) <;> omega)); (repeat (first | with_reducible exact hB | with_reducible exact Below.refl _ _ | with_reducible refine Below.drew ?_ | with_reducible refine below_drewN ?_ _ | with_reducible refine Below.alloc ?_ ?_ _ | with_reducible refine Below.setCell ?_ ?_ _ | (focus (simp; done)) | (focus (simp; omega)) | omega)))))
  go_ret
  exact ⟨rfl, by (repeat (first | with_reducible exact hB | with_reducible exact Below.refl _ _ | with_reducible refine Below.drew ?_ | with_reducible refine below_drewN ?_ _ | with_reducible refine Below.alloc ?_ ?_ _ | with_reducible refine Below.setCell ?_ ?_ _ | (focus (simp; done)) | (focus (simp; omega)) | omega))⟩

end Go.Proofs.Ytoeoiljddcjphaa
