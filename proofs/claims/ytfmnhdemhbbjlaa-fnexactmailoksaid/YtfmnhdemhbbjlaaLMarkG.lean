/- The laws' marks in a row of impl.Seg. -/
import Derived.Test.YtfmnhdemhbbjlaaSegL
import Derived.Test.YtfmnhdemhbbjlaaMarkL
namespace Go.Proofs.Ytfmnhdemhbbjlaa
open Go.ChangeShapes Go.WideShapes Go.ChangeAt Go.RowKit Go.Joins
set_option linter.unusedVariables false
set_option linter.unusedSimpArgs false

def mkSeg (k : Int) := ((k, k + 1) : _)

end Go.Proofs.Ytfmnhdemhbbjlaa
