/- Next on both sides: a packet's and a carrier's copy that owns its memory. -/
import Derived.Test.YtoeoiljddcjphaaDoorSHere
import Derived.Test.YtoeoiljddcjphaaDoorSegL
import Derived.Test.YtoeoiljddcjphaaDoorApp
import Derived.Test.YtoeoiljddcjphaaDoorBoxes
namespace Go.Proofs.YtoeoiljddcjphaaDoor
open Go.ChangeShapes Go.WideShapes Go.ChangeAt Go.RowKit Go.Joins
set_option linter.unusedVariables false
set_option linter.unusedSimpArgs false

end Go.Proofs.YtoeoiljddcjphaaDoor
