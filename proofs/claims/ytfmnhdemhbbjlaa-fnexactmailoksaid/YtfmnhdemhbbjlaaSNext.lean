/- Next on both sides: a packet's and a carrier's copy that owns its memory. -/
import Derived.Test.YtfmnhdemhbbjlaaSHere
import Derived.Test.YtfmnhdemhbbjlaaSegL
import Derived.Test.YtfmnhdemhbbjlaaApp
import Derived.Test.YtfmnhdemhbbjlaaBoxes
namespace Go.Proofs.Ytfmnhdemhbbjlaa
open Go.ChangeShapes Go.WideShapes Go.ChangeAt Go.RowKit Go.Joins
set_option linter.unusedVariables false
set_option linter.unusedSimpArgs false

end Go.Proofs.Ytfmnhdemhbbjlaa
