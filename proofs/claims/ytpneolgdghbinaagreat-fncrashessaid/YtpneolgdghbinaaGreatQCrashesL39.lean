/- Contracts of the laws' own helpers over what is carried: one that came in, its size, its copy, its comparison. -/
import Derived.Deep.RegionHeld3
import Derived.Test.YtpneolgdghbinaaGreatQCrashesL38
namespace Go.Proofs.YtpneolgdghbinaaGreat
open Go.ChangeShapes Go.WideShapes Go.ChangeAt Go.RowKit Go.Joins
set_option linter.unusedVariables false
set_option linter.unusedSimpArgs false
set_option maxRecDepth 100000
set_option maxHeartbeats 40000000
abbrev crr (a b f s:Int) (v g:Value) (p t:Int):Value:=.agg #[.int .i64 a,.int .i64 b,.int .i64 f,.int .i64 s,v,g,.int .i64 p,.int .i64 t]
end Go.Proofs.YtpneolgdghbinaaGreat
