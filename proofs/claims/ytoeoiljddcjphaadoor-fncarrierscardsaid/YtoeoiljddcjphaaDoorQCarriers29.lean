/- Slices of ints: how they read; the laws' own helpers over them: eqIntS, markIntS, heldIntS. -/
import Derived.Test.YtoeoiljddcjphaaDoorQCarriers14
import Derived.Test.YtoeoiljddcjphaaDoorQCarriers18
namespace Go.Proofs.YtoeoiljddcjphaaDoor
open Go.ChangeShapes Go.WideShapes Go.ChangeAt Go.RowKit Go.Joins
set_option linter.unusedVariables false
set_option linter.unusedSimpArgs false

def layI : Lay Int := ⟨1, fun a => [.int .i64 a], 0, fun _ => rfl⟩
theorem RdL.int {w : World} {b off : Nat} {l : List Int} (h : ∀ i, i < l.length → ∀ j, j < layI.k → w.cell? ⟨b, off + i * layI.k + j, none⟩ = (layI.cs (l.getD i layI.d))[j]?) (i : Nat) (hi : i < l.length) :
  w.cell? ⟨b, off + i, none⟩ = some (.int .i64 (l.getD i 0)) := by
 have := h i hi 0 (by decide)
 rw [show layI.k = 1 from rfl, Nat.mul_one, Nat.add_zero] at this
 exact this

end Go.Proofs.YtoeoiljddcjphaaDoor

