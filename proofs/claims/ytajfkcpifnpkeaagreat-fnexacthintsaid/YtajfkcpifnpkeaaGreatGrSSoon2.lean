/- Soonest, the model's and the program's. -/
import Derived.Test.YtajfkcpifnpkeaaGreatGrSSoon
namespace Go.Proofs.YtajfkcpifnpkeaaGreat
open Go.ChangeShapes Go.WideShapes Go.ChangeAt Go.RowKit Go.Joins
set_option linter.unusedVariables false
set_option linter.unusedSimpArgs false

def soonM (l : List Sl) : Sl := if tableOkB l = true then soonL l else sl0
end Go.Proofs.YtajfkcpifnpkeaaGreat
