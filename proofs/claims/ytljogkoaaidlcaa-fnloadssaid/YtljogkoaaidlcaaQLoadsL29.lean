/- Segs as a layout: what the laws by layout say of them. -/
import Derived.Test.YtljogkoaaidlcaaQLoadsL22
import Derived.Test.YtljogkoaaidlcaaQLoadsL09
namespace Go.Proofs.Ytljogkoaaidlcaa
open Go.ChangeShapes Go.WideShapes Go.ChangeAt Go.RowKit Go.Joins
set_option linter.unusedVariables false
set_option linter.unusedSimpArgs false
set_option maxRecDepth 100000
set_option maxHeartbeats 40000000
def Q6n:Lay (Int × Int):=⟨2,fun a=> [.int .i64 a.1,.int .i64 a.2],(0,0),fun _=> rfl⟩
theorem Q3C:∀l:List (Int × Int),Q4h l=l.flatMap Q6n.cs
 |[]=> rfl
 |a::l=> by
  have:=Q3C l
  unfold Q4h at this ⊢
  simp only [Q5A,List.map_cons,List.flatMap_cons,this]
  rfl
theorem Q2O {w:World} {base:Nat} {v:Value} {l:List (Int × Int)}:ownG w base v l↔ownL Q6n 41 w base v l:=by
 unfold ownG ownL;rw [Q3C];exact Iff.rfl
theorem Q8M:AppOk Q6n 32 41:=⟨Try.underlying32,⟨_,_,Q8u,rfl,by decide⟩,by decide,fun a u hu=> by
 simp [Q6n] at hu;rcases hu with rfl|rfl <;> rfl⟩
end Go.Proofs.Ytljogkoaaidlcaa
