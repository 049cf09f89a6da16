/- The program's tableFor, Home. -/
import Derived.Test.YtmkgbmmibjgeaaaGreatGrSTabS3
import Derived.Deep.RegionWith
namespace Go.Proofs.YtmkgbmmibjgeaaaGreat
open Go.ChangeShapes Go.WideShapes Go.ChangeAt Go.RowKit Go.Joins
set_option linter.unusedVariables false
set_option linter.unusedSimpArgs false

end Go.Proofs.YtmkgbmmibjgeaaaGreat
