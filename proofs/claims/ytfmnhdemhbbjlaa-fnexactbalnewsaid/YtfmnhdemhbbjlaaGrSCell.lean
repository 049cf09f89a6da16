/- The program's cells: leaseOk, cellFrom, slotOf, newFlowTable. -/
import Derived.Test.YtfmnhdemhbbjlaaGrShBal
import Derived.Test.YtfmnhdemhbbjlaaGrTableMath
import Derived.Test.YtfmnhdemhbbjlaaGrSFlow
import Derived.RegionTactic
import Derived.Deep.RegionWith
namespace Go.Proofs.Ytfmnhdemhbbjlaa
open Go.ChangeShapes Go.WideShapes Go.ChangeAt Go.RowKit Go.Joins
set_option linter.unusedVariables false
set_option linter.unusedSimpArgs false

def leaseB (v t : Int) : Bool := decide (0 ≤ v) && decide (v ≤ 100000) && decide (0 ≤ t) && decide (t ≤ 200000)
theorem leaseB_iff {v t : Int} : leaseB v t = true ↔ 0 ≤ v ∧ v ≤ 100000 ∧ 0 ≤ t ∧ t ≤ 200000 := by simp [leaseB, and_assoc]
abbrev leaseV (v t : Int) : Value := .agg #[.int .i64 v, .int .i64 t]
theorem slotB_lease {a p v t : Int} : slotB ⟨true, a, p, v, t⟩ = (flowOkB a p && leaseB v t) := by
  simp [slotB, leaseB, Bool.and_assoc]

end Go.Proofs.Ytfmnhdemhbbjlaa
