/- Segs as a layout: what the laws by layout say of them. -/
import Derived.Test.YtgplppfbinfelaaGreatQOldest21
import Derived.Test.YtgplppfbinfelaaGreatQOldest26
namespace Go.Proofs.YtgplppfbinfelaaGreat
open Go.ChangeShapes Go.WideShapes Go.ChangeAt Go.RowKit Go.Joins
set_option linter.unusedVariables false
set_option linter.unusedSimpArgs false
set_option maxRecDepth 100000
set_option maxHeartbeats 40000000
def layG:Lay (Int × Int):=⟨2,fun a=> [.int .i64 a.1,.int .i64 a.2],(0,0),fun _=> rfl⟩
theorem cellsG_flat:∀l:List (Int × Int),cellsG l=l.flatMap layG.cs
 |[]=> rfl
 |a::l=> by
  have:=cellsG_flat l
  unfold cellsG at this ⊢
  simp only [flatG,List.map_cons,List.flatMap_cons,this]
  rfl
theorem ownG_lay {w:World} {base:Nat} {v:Value} {l:List (Int × Int)}:ownG w base v l↔ownL layG 231 w base v l:=by
 unfold ownG ownL;rw [cellsG_flat];exact Iff.rfl
theorem RdG.lay {w:World} {o:Option Addr} {l:List (Int × Int)} (h:RdG w o l):RdL layG w.heap.size w o l:=by
 rcases h with h|⟨b,off,ho,hb,r⟩
 ·exact .inl h
 ·refine .inr ⟨b,off,ho,hb,fun i hi j hj=> ?_⟩
  have hj2:j=0∨j=1:=by have:j < 2:=hj;omega
  rcases hj2 with rfl|rfl
  ·exact (r i hi).1
  ·exact (r i hi).2
theorem appG:AppOk layG 92 231:=⟨Tryz.underlying92,⟨_,_,infoSeg,rfl,by decide⟩,by decide,fun a u hu=> by
 simp [layG] at hu;rcases hu with rfl|rfl <;> rfl⟩
end Go.Proofs.YtgplppfbinfelaaGreat
