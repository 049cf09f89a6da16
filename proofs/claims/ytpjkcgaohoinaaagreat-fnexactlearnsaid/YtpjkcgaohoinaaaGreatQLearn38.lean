/- A balancer that may be: its pool is what its journal tells. -/
import Derived.Deep.RegionHeld3
import Derived.Deep.CutRange
import Derived.BigQuiet
import Derived.ChangeKeysEq
import Derived.Laws.StructEq
import Derived.Test.YtpjkcgaohoinaaaGreatQLearn30
import Derived.Test.YtpjkcgaohoinaaaGreatQLearn13
import Derived.Test.YtpjkcgaohoinaaaGreatQLearn29
import Derived.Test.YtpjkcgaohoinaaaGreatQLearn09
import Derived.Test.YtpjkcgaohoinaaaGreatQLearn28
import Derived.Test.YtpjkcgaohoinaaaGreatQLearn31
import Derived.Test.YtpjkcgaohoinaaaGreatQLearn33
namespace Go.Proofs.YtpjkcgaohoinaaaGreat
open Go.ChangeShapes Go.WideShapes Go.ChangeAt Go.RowKit Go.Joins
set_option linter.unusedVariables false
set_option linter.unusedSimpArgs false


theorem movedTo_pos (aa bb : List (List Int)) : ∀ k, 0 ≤ movedTo aa bb k
 | 0 => Int.le_refl _
 | k + 1 => by
  have h := movedTo_pos aa bb k
  unfold movedTo
  split <;> omega
theorem movedTo_zero {aa bb : List (List Int)} : ∀ k, movedTo aa bb k = 0 → ∀ i, i < k → aa.getD i [] = bb.getD i []
 | 0, _, i, hi => absurd hi (Nat.not_lt_zero _)
 | k + 1, h, i, hi => by
  have h0 := movedTo_pos aa bb k
  unfold movedTo at h
  split at h
  ·next e =>
   by_cases hk : i = k
   ·rw [hk]; exact e
   ·exact movedTo_zero k (by omega) i (by omega)
  ·omega
theorem moved_same {aa bb : List (List Int)} (h : movedI aa bb = 0) : aa = bb := by
 unfold movedI at h
 split at h
 ·next e =>
  refine List.ext_getElem (by omega) (fun i h1 h2 => ?_)
  have h3 := movedTo_zero 8 h i (by omega)
  simpa [h1, h2] using h3
 ·omega
theorem samePB_eq {m1 m2 : Pm} (h : samePB m1 m2 = true) : m1 = m2 := by
 unfold samePB ringSame at h
 simp only [Bool.and_eq_true, decide_eq_true_eq, List.all_eq_true, List.mem_range, beq_iff_eq] at h
 obtain ⟨⟨h1, h2⟩, h3, h4⟩ := h
 obtain ⟨k1, l1, r1⟩ := m1
 obtain ⟨k2, l2, r2⟩ := m2
 dsimp only at h1 h2 h3 h4
 subst h1 h2
 have e : r1 = r2 := List.ext_getElem h3 (fun i a b => by
  have h5 := moved_same (h4 i a)
  simpa [a, b] using h5)
 rw [e]
theorem balB_jrn {m : Bm} (h : balB m = true) : journalB m.j.key m.j.l m.j.safe = true := by
 unfold balB at h
 rw [Bool.and_eq_true] at h
 exact h.1
theorem balB_same {m : Bm} (h : balB m = true) : m.p = replayM m.j := by
 unfold balB at h
 simp only [Bool.and_eq_true] at h
 exact (samePB_eq h.2.2).symm
theorem balB_fit {m : Bm} (h : balB m = true) : fitPm m.p := by
 rw [balB_same h]
 exact replay_fit _
end Go.Proofs.YtpjkcgaohoinaaaGreat

