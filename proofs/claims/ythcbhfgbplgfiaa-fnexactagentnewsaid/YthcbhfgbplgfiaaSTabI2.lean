/- The program's tableFor, Home. -/
import Derived.Test.YthcbhfgbplgfiaaSTabI
import Derived.Test.YthcbhfgbplgfiaaSTabS3
import Derived.Deep.RegionWith
namespace Go.Proofs.Ythcbhfgbplgfiaa
open Go.ChangeShapes Go.WideShapes Go.ChangeAt Go.RowKit Go.Joins
set_option linter.unusedVariables false
set_option linter.unusedSimpArgs false

end Go.Proofs.Ythcbhfgbplgfiaa
