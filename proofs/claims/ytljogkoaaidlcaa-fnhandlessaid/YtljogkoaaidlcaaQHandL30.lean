/- Segs as a layout: what the laws by layout say of them. -/
import Derived.Test.YtljogkoaaidlcaaQHandL16
import Derived.Test.YtljogkoaaidlcaaQHandL09
namespace Go.Proofs.Ytljogkoaaidlcaa
open Go.ChangeShapes Go.WideShapes Go.ChangeAt Go.RowKit Go.Joins
set_option linter.unusedVariables false
set_option linter.unusedSimpArgs false
set_option maxRecDepth 100000
set_option maxHeartbeats 40000000
def Q5G:Lay (Int × Int):=⟨2,fun a=> [.int .i64 a.1,.int .i64 a.2],(0,0),fun _=> rfl⟩
theorem Q3J:∀l:List (Int × Int),Q3H l=l.flatMap Q5G.cs
 |[]=> rfl
 |a::l=> by
  have:=Q3J l
  unfold Q3H at this ⊢
  simp only [Q5q,List.map_cons,List.flatMap_cons,this]
  rfl
theorem Q1S {w:World} {base:Nat} {v:Value} {l:List (Int × Int)}:ownG w base v l↔ownL Q5G 41 w base v l:=by
 unfold ownG ownL;rw [Q3J];exact Iff.rfl
theorem Q8x:AppOk Q5G 32 41:=⟨Try.underlying32,⟨_,_,Q8b,rfl,by decide⟩,by decide,fun a u hu=> by
 simp [Q5G] at hu;rcases hu with rfl|rfl <;> rfl⟩
end Go.Proofs.Ytljogkoaaidlcaa
