/- What the rows list: the library's table of powers of ten reads as its text lays it. -/
import Derived.LaidMore
import Derived.Stop.Joined
import Derived.Stop.LaidErr
import Derived.Lib.LaidTab
import Derived.Test.YtljogkoaaidlcaaDoorQAgentText04
import Derived.Test.YtljogkoaaidlcaaDoorTie
import Derived.Test.YtljogkoaaidlcaaDoorCards
namespace Go.Proofs.YtljogkoaaidlcaaDoor
open Go.ChangeShapes Go.WideShapes Go.ChangeAt Go.RowKit Go.Joins
set_option linter.unusedVariables false
set_option linter.unusedSimpArgs false

/-- What every row of this seat that meets the table lists. -/
def laidPow : List (String × DataW Unit) := Rows.fnExactAgentTextRow.laid
set_option maxRecDepth 100000 in
theorem door_met (os : Os) (args : Array Value) : laidMetH Tryd.prog laidPow ((World.doorLaid Tryd.prog 400 os).forCall (fun _ _ => 0) ⟨#[], args, []⟩).memory :=
 laidMetH_of_parts3 (fuel := 8) (laidMet_of_run' 8 (by kernel_rfl) (by kernel_rfl)) (by kernel_rfl) (by kernel_rfl)
theorem gPow : Tryd.prog.globalNamed powN = some 0 := by kernel_rfl
theorem tPow : (Tryd.prog.globals[0]?).map (·.type) = some 132 := by kernel_rfl
theorem cPow : Tryd.prog.cellsOf 132 = 20 := by kernel_rfl
theorem cU64 : Tryd.prog.cellsOf 101 = 1 := by kernel_rfl
theorem tab_of_laid {W : World} (h : laidMetH Tryd.prog laidPow W) : PTab W.heap.size W := by
 rw [MakeChecks.laidMetH_plain _ _ _ (by kernel_rfl)] at h
 have h2 : laidMet Tryd.prog [(powN, Go.Lib.tabData .u64 Go.Lib.pow10Tab)] W := laidMet.tail (laidMet.tail h)
 exact Go.Lib.tabBelow_of_tabIs (Go.Lib.tabIs_of_head gPow tPow Tryd.underlying132 Tryd.underlying101 cU64 cPow h2)

end Go.Proofs.YtljogkoaaidlcaaDoor

