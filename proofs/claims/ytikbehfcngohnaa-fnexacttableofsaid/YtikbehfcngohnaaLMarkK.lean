/- The laws' marks in a row of backs. -/
import Derived.Test.YtikbehfcngohnaaBacks
namespace Go.Proofs.Ytikbehfcngohnaa
open Go.ChangeShapes Go.WideShapes Go.ChangeAt Go.RowKit Go.Joins
set_option linter.unusedVariables false
set_option linter.unusedSimpArgs false

theorem grown_set {w wr : World} {base g c n : Nat} {e : TypeId} {size : Nat} {xs : List Value} {j : Nat} {u : Value} (hown : wr.ownsRow base e size (.slice (some ⟨g, 0, none⟩) n c) n xs) (hg : w.grownBy wr (some g)) :
    (wr.setCell ⟨g, j, none⟩ u).ownsRow base e size (.slice (some ⟨g, 0, none⟩) n c) n (xs.set j u) ∧ w.grownBy (wr.setCell ⟨g, j, none⟩ u) (some g) := by
  have h := hown.stored j u
  exact ⟨h.1, ⟨hg.os, hg.tape, hg.output, by have := h.2.size; have := hg.size; omega, fun i hi hne => (h.2.block i (Nat.lt_of_lt_of_le hi hg.size) hne).trans (hg.block i hi hne)⟩⟩

set_option maxHeartbeats 1000000 in
theorem markBackS_any (base g c : Nat) (l : List Bk) (k : Int) (w : World) (hv : ownK w base (.slice (some ⟨g, 0, none⟩) l.length c) l) (h0 : 0 ≤ k) (h1 : k ≤ 1073741824) (hlen : l.length ≤ 1048576) :
    Calls Try.prog 39 #[.slice (some ⟨g, 0, none⟩) l.length c, .int .i64 k] w fun e w' => e = .returned (.int .i64 (k + 3 * l.length)) ∧ w.grownBy w' (some g) := by
  go_enter Try.func39, Try.ntmps39
  go_wp2
  go_loopw [1, 5] (fun m j wr => ∃ (i : Nat) (xs : List Value), i ≤ l.length ∧ j = .int .i64 i ∧ m = .int .i64 (k + 3 * (i : Int)) ∧ wr.ownsRow base 41 3 (.slice (some ⟨g, 0, none⟩) l.length c) l.length xs ∧ xs.length = l.length * 3 ∧ w.grownBy wr (some g))
    (fun _ j _ => l.length - (intOf j).toNat)
  case atStart => exact ⟨0, _, Nat.zero_le _, rfl, by simp, hv, by rw [flat_length]; rfl, World.grownBy.refl _ _⟩
  case round =>
    obtain ⟨i, xs, hi, rfl, rfl, hown, hxl, hgr⟩ := hrel
    by_cases hlt : i < l.length
    · have s1 := fun u => grown_set (j := i * 3) (u := u) hown hgr
      have s2 := fun u v => grown_set (j := i * 3 + 1) (u := v) (s1 u).1 (s1 u).2
      have s3 := fun u v z => grown_set (j := i * 3 + 2) (u := z) (s2 u v).1 (s2 u v).2
      have S3 := hide s3
      have cl0 := hown.cellAt (i * 3) (by omega)
      have cl1 := fun u => (s1 u).1.cellAt (i * 3 + 1) (by omega)
      have cl2 := fun u v => (s2 u v).1.cellAt (i * 3 + 2) (by omega)
      have f0 := hown.frozenAt (i * 3)
      have f1 := fun u => (s1 u).1.frozenAt (i * 3 + 1)
      have f2 := fun u v => (s2 u v).1.frozenAt (i * 3 + 2)
      rw [List.getElem?_eq_getElem (by omega)] at cl0
      have cl1' : ∀ u, ∃ z, (wr.setCell ⟨g, i * 3, none⟩ u).cell? ⟨g, i * 3 + 1, none⟩ = some z := fun u => ⟨_, (cl1 u).trans (List.getElem?_eq_getElem (by simp; omega))⟩
      have cl2' : ∀ u v, ∃ z, ((wr.setCell ⟨g, i * 3, none⟩ u).setCell ⟨g, i * 3 + 1, none⟩ v).cell? ⟨g, i * 3 + 2, none⟩ = some z := fun u v => ⟨_, (cl2 u v).trans (List.getElem?_eq_getElem (by simp; omega))⟩
      obtain ⟨q1, hq1⟩ := cl1' (.int .i64 (k + 3 * (i : Int)))
      obtain ⟨q2, hq2⟩ := cl2' (.int .i64 (k + 3 * (i : Int))) (.int .i64 (k + 3 * (i : Int) + 1))
      have g1 := f1 (.int .i64 (k + 3 * (i : Int)))
      have g2 := f2 (.int .i64 (k + 3 * (i : Int))) (.int .i64 (k + 3 * (i : Int) + 1))
      generalize xs[i * 3] = q0 at *
      have z1 : (i : Int) < (l.length : Int) := by omega
      clear s1 s2 s3 cl1 cl2 f1 f2 cl1' cl2' hown hgr hv
      go_wp2
      go_roundw
      case rel => exact ⟨i + 1, _, by omega, by go_num, by go_num, (S3.out _ _ _).1, by simp [hxl], (S3.out _ _ _).2⟩
      case measure => simp [intOf]; omega
    · have e : i = l.length := by omega
      subst e
      go_wp2
      go_ret
      exact ⟨rfl, hgr⟩

end Go.Proofs.Ytikbehfcngohnaa
