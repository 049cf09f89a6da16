/- Slices of backs: how they read; the laws' own helpers over them: toBack, szBackS, toBackS, eqBack, eqBackS. -/
import Derived.Test.YtdoijnmgnocjaaaLists
import Derived.Deep.RegionHeld3
namespace Go.Proofs.Ytdoijnmgnocjaaa
open Go.ChangeShapes Go.WideShapes Go.ChangeAt Go.RowKit Go.Joins
set_option linter.unusedVariables false
set_option linter.unusedSimpArgs false

abbrev Bk := Int × Int × Bool
def layK : Lay Bk := ⟨3, fun a => [.int .i64 a.1, .int .i64 a.2.1, .bool a.2.2], (0, 0, false), fun _ => rfl⟩
abbrev back (i g : Int) (d : Bool) : Value := .agg #[.int .i64 i, .int .i64 g, .bool d]
abbrev RdK := RdL layK
abbrev ownK := ownL layK 158

theorem RdL.back {C : Nat} {w : World} {b off : Nat} {l : List Bk} (h : ∀ i, i < l.length → ∀ j, j < layK.k → w.cell? ⟨b, off + i * layK.k + j, none⟩ = (layK.cs (l.getD i layK.d))[j]?) (i : Nat) (hi : i < l.length) :
    w.cell? ⟨b, off + i * 3, none⟩ = some (.int .i64 (l.getD i (0, 0, false)).1) ∧ w.cell? ⟨b, off + i * 3 + 1, none⟩ = some (.int .i64 (l.getD i (0, 0, false)).2.1) ∧ w.cell? ⟨b, off + i * 3 + 2, none⟩ = some (.bool (l.getD i (0, 0, false)).2.2) :=
  ⟨h i hi 0 (by decide), h i hi 1 (by decide), h i hi 2 (by decide)⟩

theorem infoBack : (Try.prog.info? 158).map (fun i => (i.zero, i.size, i.bytes)) = some (some (.agg #[.int .i64 0, .int .i64 0, .bool false]), 3, 24) := by kernel_rfl

theorem cellsInt1 : Try.prog.cellsOf 3 = 1 := by kernel_rfl
theorem cellsBool1 : Try.prog.cellsOf 4 = 1 := by kernel_rfl
/-- The row that is filled, at its (k+1)st store. -/
theorem fillK_step {w wr : World} {base g c : Nat} {l : List Bk} {k : Nat} {x y : Int} {z : Bool} (hxy : l.getD k (0, 0, false) = (x, y, z)) (hk : k < l.length) (hg : base ≤ g) (hown : wr.ownsRow w.heap.size 158 3 (.slice (some ⟨g, 0, none⟩) l.length c) l.length ((fillL layK l k).flatMap layK.cs))
    (hB : Below base w wr) : (((wr.setCell ⟨g, k * 3, none⟩ (.int .i64 x)).setCell ⟨g, k * 3 + 1, none⟩ (.int .i64 y)).setCell ⟨g, k * 3 + 2, none⟩ (.bool z)).ownsRow w.heap.size 158 3 (.slice (some ⟨g, 0, none⟩) l.length c) l.length ((fillL layK l (k + 1)).flatMap layK.cs) ∧
      Below base w (((wr.setCell ⟨g, k * 3, none⟩ (.int .i64 x)).setCell ⟨g, k * 3 + 1, none⟩ (.int .i64 y)).setCell ⟨g, k * 3 + 2, none⟩ (.bool z)) := by
  have h := (((hown.stored (k * 3) (.int .i64 x)).1.stored (k * 3 + 1) (.int .i64 y)).1.stored (k * 3 + 2) (.bool z)).1
  rw [flat_set3 layK rfl (a := (x, y, z)) rfl, ← hxy, show l.getD k (0, 0, false) = l.getD k layK.d from rfl, fillL_set layK l k hk] at h
  exact ⟨h, ((hB.setCell (p := ⟨g, k * 3, none⟩) hg _).setCell (p := ⟨g, k * 3 + 1, none⟩) hg _).setCell (p := ⟨g, k * 3 + 2, none⟩) hg _⟩

end Go.Proofs.Ytdoijnmgnocjaaa
