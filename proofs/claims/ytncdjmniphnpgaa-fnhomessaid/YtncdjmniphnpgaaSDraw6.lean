/- A drawn packet that may open. -/
import Derived.Test.YtncdjmniphnpgaaSDraw5
namespace Go.Proofs.Ytncdjmniphnpgaa
open Go.ChangeShapes Go.WideShapes Go.ChangeAt Go.RowKit Go.Joins
set_option linter.unusedVariables false
set_option linter.unusedSimpArgs false

end Go.Proofs.Ytncdjmniphnpgaa
