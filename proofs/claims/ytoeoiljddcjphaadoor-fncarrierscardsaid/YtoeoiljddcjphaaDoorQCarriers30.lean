/- HuntPair, the program's. -/
import Derived.Test.YtoeoiljddcjphaaDoorQCarriers23
import Derived.Test.YtoeoiljddcjphaaDoorQCarriers29
namespace Go.Proofs.YtoeoiljddcjphaaDoor
open Go.ChangeShapes Go.WideShapes Go.ChangeAt Go.RowKit Go.Joins Go.Shelf
set_option linter.unusedVariables false
set_option linter.unusedSimpArgs false

attribute [local go_sem] Oper.semAt_some

theorem cells_not_row {W : World} {B : Nat} {c : Array Value} {t e : TypeId} {z : Nat × Nat} (h : W.heap[B]? = some (.cells c t z)) (hte : t ≠ e) {base size k : Nat} {v : Value} {xs : List Value} (hr : W.ownsRow base e size v k xs) : some B ≠ v.ownBlock := by
 rcases hr.2 with ⟨rfl, _⟩ | ⟨g, cap, cur, rfl, _, hgb, _⟩
 ·simp [Value.ownBlock]
 ·intro e'
  obtain rfl : B = g := by simpa [Value.ownBlock] using e'
  rw [hgb] at h
  injection h with h
  injection h with _ h _
  exact hte h.symm
end Go.Proofs.YtoeoiljddcjphaaDoor

