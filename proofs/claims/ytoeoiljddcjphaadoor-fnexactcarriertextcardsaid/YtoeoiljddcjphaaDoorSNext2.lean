/- A carrier's copy that owns its memory, on both sides. -/
import Derived.Test.YtoeoiljddcjphaaDoorSNext
namespace Go.Proofs.YtoeoiljddcjphaaDoor
open Go.ChangeShapes Go.WideShapes Go.ChangeAt Go.RowKit Go.Joins
set_option linter.unusedVariables false
set_option linter.unusedSimpArgs false

/-- A box behind a store of one of its cells; another box. -/
theorem box_set (w : World) (k j : Nat) (cs : Array Value) (t : TypeId) (v : Value) (h : w.heap[k]? = some (.cells cs t (0, 0))) : (w.setCell ⟨k, j, none⟩ v).heap[k]? = some (.cells (cs.setIfInBounds j v) t (0, 0)) := by
  simp [World.setCell, Array.getElem?_modify, h]
theorem box_farN (w : World) (k q j : Nat) (v : Value) (h : k ≠ q) : (w.setCell ⟨q, j, none⟩ v).heap[k]? = w.heap[k]? := Below.heap_setCell w ⟨q, j, none⟩ v k h

end Go.Proofs.YtoeoiljddcjphaaDoor
