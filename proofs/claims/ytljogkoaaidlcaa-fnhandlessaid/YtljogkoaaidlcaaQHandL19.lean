/- Bits of ints that are not below 0: or, and, as on natural numbers. -/
import Derived.Laws.BitsAllLaws
import Derived.Test.YtljogkoaaidlcaaQHandL01
namespace Go.Proofs.Ytljogkoaaidlcaa
open Go.ChangeShapes Go.WideShapes Go.ChangeAt Go.RowKit Go.Joins
set_option linter.unusedVariables false
set_option linter.unusedSimpArgs false
set_option maxRecDepth 100000
set_option maxHeartbeats 40000000
theorem wrap_i64 (n:Int) (h0:0≤n) (h1:n < 9223372036854775808):IntKind.i64.wrap n=n:=by
 simp [IntKind.wrap,IntKind.bits,IntKind.signed];omega
end Go.Proofs.Ytljogkoaaidlcaa
