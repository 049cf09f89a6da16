/- Slices of backs: how they read; the laws' own helpers over them: toBack, szBackS, toBackS, eqBack, eqBackS. -/
import Derived.Test.YtoeoiljddcjphaaLists
import Derived.Deep.RegionHeld3
namespace Go.Proofs.Ytoeoiljddcjphaa
open Go.ChangeShapes Go.WideShapes Go.ChangeAt Go.RowKit Go.Joins
set_option linter.unusedVariables false
set_option linter.unusedSimpArgs false

abbrev Bk := Int × Int × Bool
def layK : Lay Bk := ⟨3, fun a => [.int .i64 a.1, .int .i64 a.2.1, .bool a.2.2], (0, 0, false), fun _ => rfl⟩
abbrev back (i g : Int) (d : Bool) : Value := .agg #[.int .i64 i, .int .i64 g, .bool d]
abbrev RdK := RdL layK
theorem RdL.back {C : Nat} {w : World} {b off : Nat} {l : List Bk} (h : ∀ i, i < l.length → ∀ j, j < layK.k → w.cell? ⟨b, off + i * layK.k + j, none⟩ = (layK.cs (l.getD i layK.d))[j]?) (i : Nat) (hi : i < l.length) :
    w.cell? ⟨b, off + i * 3, none⟩ = some (.int .i64 (l.getD i (0, 0, false)).1) ∧ w.cell? ⟨b, off + i * 3 + 1, none⟩ = some (.int .i64 (l.getD i (0, 0, false)).2.1) ∧ w.cell? ⟨b, off + i * 3 + 2, none⟩ = some (.bool (l.getD i (0, 0, false)).2.2) :=
  ⟨h i hi 0 (by decide), h i hi 1 (by decide), h i hi 2 (by decide)⟩

theorem cellsInt1 : Try.prog.cellsOf 3 = 1 := by kernel_rfl
theorem cellsBool1 : Try.prog.cellsOf 4 = 1 := by kernel_rfl
end Go.Proofs.Ytoeoiljddcjphaa
