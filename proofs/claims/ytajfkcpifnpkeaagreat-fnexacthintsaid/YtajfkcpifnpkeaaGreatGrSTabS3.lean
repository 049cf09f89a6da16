/- The model's Home, CountOf, TableNew. -/
import Derived.Test.YtajfkcpifnpkeaaGreatGrSTabS2
namespace Go.Proofs.YtajfkcpifnpkeaaGreat
open Go.ChangeShapes Go.WideShapes Go.ChangeAt Go.RowKit Go.Joins
set_option linter.unusedVariables false
set_option linter.unusedSimpArgs false

def homeM (l : List Sl) (a p : Int) : Int := if (tableOkB l && flowOkB a p) = true then (homeN l.length a p : Nat) else -1
/-- How many of the first k are used. -/
def countTo (l : List Sl) (k : Nat) : Nat := ((l.take k).filter (fun s => s.u)).length
theorem countTo_le (l : List Sl) (k : Nat) : countTo l k ≤ k := Nat.le_trans (List.length_filter_le _ _) (by simp; omega)
theorem countTo_succ {l : List Sl} {k : Nat} (h : k < l.length) : countTo l (k + 1) = countTo l k + (if (l.getD k sl0).u = true then 1 else 0) := by
  unfold countTo
  rw [takeL_succ layS l k h, List.filter_append, List.length_append]
  congr 1
  show (List.filter (fun s => s.u) [l.getD k sl0]).length = _
  cases hu : (l.getD k sl0).u with
  | false => rw [List.filter_cons_of_neg (by rw [hu]; decide)]; rfl
  | true => rw [List.filter_cons_of_pos hu]; rfl
def countL (l : List Sl) : Nat := countTo l l.length
def countM (l : List Sl) : Int := if tableOkB l = true then (countL l : Nat) else -1
end Go.Proofs.YtajfkcpifnpkeaaGreat
