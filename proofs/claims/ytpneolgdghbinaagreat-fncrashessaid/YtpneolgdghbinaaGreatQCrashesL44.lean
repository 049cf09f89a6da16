/- Segs as a layout: what the laws by layout say of them. -/
import Derived.Test.YtpneolgdghbinaaGreatQCrashesL38
import Derived.Test.YtpneolgdghbinaaGreatQCrashesL22
namespace Go.Proofs.YtpneolgdghbinaaGreat
open Go.ChangeShapes Go.WideShapes Go.ChangeAt Go.RowKit Go.Joins
set_option linter.unusedVariables false
set_option linter.unusedSimpArgs false
set_option maxRecDepth 100000
set_option maxHeartbeats 40000000
def Q6B:Lay (Int × Int):=⟨2,fun a=> [.int .i64 a.1,.int .i64 a.2],(0,0),fun _=>rfl⟩
theorem Qj9:AppOk Q6B 41 50:=⟨Tryz.underlying41,⟨_,_,QhH,rfl,by decide⟩,by decide,fun a u hu=>by
 simp[Q6B]at hu;rcases hu with rfl|rfl <;> rfl⟩
end Go.Proofs.YtpneolgdghbinaaGreat
