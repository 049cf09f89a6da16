/- The model's Score. -/
import Derived.Test.YtldjaapbkihibaaSScore
namespace Go.Proofs.Ytldjaapbkihibaa
open Go.ChangeShapes Go.WideShapes Go.ChangeAt Go.RowKit Go.Joins
set_option linter.unusedVariables false
set_option linter.unusedSimpArgs false

theorem backsOkB_one (i g : Int) (d : Bool) : backsOkB [(i, g, d)] = backB i g := by simp [backsOkB, okAt, List.range_succ]
/-- One back alone, laid by a literal in block n. -/
theorem rdK_one {w : World} {n : Nat} {i g : Int} {d : Bool} (h0 : w.cell? ⟨n, 0, none⟩ = some (.int .i64 i)) (h1 : w.cell? ⟨n, 1, none⟩ = some (.int .i64 g)) (h2 : w.cell? ⟨n, 2, none⟩ = some (.bool d)) (hn : n < w.heap.size) :
    RdK w.heap.size w (some ⟨n, 0, none⟩) [(i, g, d)] := by
  refine .inr ⟨n, 0, rfl, hn, fun a ha j hj => ?_⟩
  have ha' : a = 0 := by simpa using ha
  subst ha'
  have hj' : j < 3 := hj
  match j, hj' with
  | 0, _ => simpa [layK] using h0
  | 1, _ => simpa [layK] using h1
  | 2, _ => simpa [layK] using h2

end Go.Proofs.Ytldjaapbkihibaa
