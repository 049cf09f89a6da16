/- Segs as a layout: what the laws by layout say of them. -/
import Derived.Test.YtpneolgdghbinaaGreatQSends44
import Derived.Test.YtpneolgdghbinaaGreatQSends22
namespace Go.Proofs.YtpneolgdghbinaaGreat
open Go.ChangeShapes Go.WideShapes Go.ChangeAt Go.RowKit Go.Joins
set_option linter.unusedVariables false
set_option linter.unusedSimpArgs false
set_option maxRecDepth 100000
set_option maxHeartbeats 40000000
def Q4P:Lay (Int × Int):=⟨2,fun a=> [.int .i64 a.1,.int .i64 a.2],(0,0),fun _=> rfl⟩
theorem RdG.lay {w:World} {o:Option Addr} {l:List (Int × Int)} (h:RdG w o l):RdL Q4P w.heap.size w o l:=by
 rcases h with h|⟨b,off,ho,hb,r⟩
 ·exact .inl h
 ·refine .inr ⟨b,off,ho,hb,fun i hi j hj=> ?_⟩
  have hj2:j=0∨j=1:=by have:j < 2:=hj;omega
  rcases hj2 with rfl|rfl
  ·exact (r i hi).1
  ·exact (r i hi).2
theorem Qic:AppOk Q4P 41 50:=⟨Tryz.underlying41,⟨_,_,Qh3,rfl,by decide⟩,by decide,fun a u hu=> by
 simp [Q4P] at hu;rcases hu with rfl|rfl <;> rfl⟩
end Go.Proofs.YtpneolgdghbinaaGreat
