/- Contracts of FlowOk, on both sides. -/
import Derived.Test.YtldjaapbkihibaaBase
namespace Go.Proofs.Ytldjaapbkihibaa
open Go.ChangeShapes Go.WideShapes Go.ChangeAt Go.RowKit Go.Joins
set_option linter.unusedVariables false
set_option linter.unusedSimpArgs false

end Go.Proofs.Ytldjaapbkihibaa
