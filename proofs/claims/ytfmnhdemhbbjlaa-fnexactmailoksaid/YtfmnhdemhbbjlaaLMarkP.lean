/- The laws' marks in a packet. -/
import Derived.Test.YtfmnhdemhbbjlaaLMark
import Derived.Test.YtfmnhdemhbbjlaaLPacket
import Derived.Maps.AppendAt
namespace Go.Proofs.Ytfmnhdemhbbjlaa
open Go.ChangeShapes Go.WideShapes Go.ChangeAt Go.RowKit Go.Joins
set_option linter.unusedVariables false
set_option linter.unusedSimpArgs false

end Go.Proofs.Ytfmnhdemhbbjlaa
