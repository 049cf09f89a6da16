/- The program's tableFor, Home. -/
import Derived.Test.YtajfkcpifnpkeaaGreatGrSTabI
import Derived.Test.YtajfkcpifnpkeaaGreatGrSTabS3
import Derived.Deep.RegionWith
namespace Go.Proofs.YtajfkcpifnpkeaaGreat
open Go.ChangeShapes Go.WideShapes Go.ChangeAt Go.RowKit Go.Joins
set_option linter.unusedVariables false
set_option linter.unusedSimpArgs false

end Go.Proofs.YtajfkcpifnpkeaaGreat
