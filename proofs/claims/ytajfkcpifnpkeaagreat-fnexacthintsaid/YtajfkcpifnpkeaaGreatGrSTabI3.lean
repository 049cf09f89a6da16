/- The program's flows, CountOf. -/
import Derived.Test.YtajfkcpifnpkeaaGreatGrSTabI2
import Derived.Test.YtajfkcpifnpkeaaGreatGrFlowL
namespace Go.Proofs.YtajfkcpifnpkeaaGreat
open Go.ChangeShapes Go.WideShapes Go.ChangeAt Go.RowKit Go.Joins
set_option linter.unusedVariables false
set_option linter.unusedSimpArgs false

/-- The flows of the first k that are used. -/
def flowsTo (l : List Sl) (k : Nat) : List (Int × Int) := ((l.take k).filter (fun s => s.u)).map (fun s => (s.a, s.p))
theorem flowsTo_len (l : List Sl) (k : Nat) : (flowsTo l k).length = countTo l k := by unfold flowsTo countTo; rw [List.length_map]
theorem flowsTo_free {l : List Sl} {k : Nat} (h : k < l.length) (hu : (l.getD k sl0).u = false) : flowsTo l (k + 1) = flowsTo l k := by
  unfold flowsTo
  rw [takeL_succ layS l k h, List.filter_append, show List.filter (fun s : Sl => s.u) [l.getD k layS.d] = [] from List.filter_cons_of_neg (by rw [show l.getD k layS.d = l.getD k sl0 from rfl, hu]; decide), List.append_nil]
theorem flowsTo_used {l : List Sl} {k : Nat} (h : k < l.length) (hu : (l.getD k sl0).u = true) : flowsTo l (k + 1) = flowsTo l k ++ [((l.getD k sl0).a, (l.getD k sl0).p)] := by
  unfold flowsTo
  rw [takeL_succ layS l k h, List.filter_append, show List.filter (fun s : Sl => s.u) [l.getD k layS.d] = [l.getD k sl0] from List.filter_cons_of_pos hu, List.map_append]; rfl

end Go.Proofs.YtajfkcpifnpkeaaGreat
