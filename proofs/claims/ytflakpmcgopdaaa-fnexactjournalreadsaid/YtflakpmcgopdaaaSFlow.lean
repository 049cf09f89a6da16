/- Contracts of FlowOk, on both sides. -/
import Derived.Test.YtflakpmcgopdaaaBase
namespace Go.Proofs.Ytflakpmcgopdaaa
open Go.ChangeShapes Go.WideShapes Go.ChangeAt Go.RowKit Go.Joins
set_option linter.unusedVariables false
set_option linter.unusedSimpArgs false

end Go.Proofs.Ytflakpmcgopdaaa
