/- Several texts in one: SegL, LMarkG. -/
import Derived.Test.YtgplppfbinfelaaGreatQOwners21
import Derived.Test.YtgplppfbinfelaaGreatQOwners26
namespace Go.Proofs.YtgplppfbinfelaaGreat
open Go.ChangeShapes Go.WideShapes Go.ChangeAt Go.RowKit Go.Joins
set_option linter.unusedVariables false
set_option linter.unusedSimpArgs false
set_option maxRecDepth 100000
set_option maxHeartbeats 40000000
def Q6S:Lay (Int × Int):=⟨2,fun a=> [.int .i64 a.1,.int .i64 a.2],(0,0),fun _=> rfl⟩
theorem Q5G:∀l:List (Int × Int),Q23 l=l.flatMap Q6S.cs
 |[]=> rfl
 |a::l=> by
  have:=Q5G l
  unfold Q23 at this ⊢
  simp only [Q3y,List.map_cons,List.flatMap_cons,this]
  rfl
theorem Q5r {w:World} {base:Nat} {v:Value} {l:List (Int × Int)}:ownG w base v l↔ownL Q6S 231 w base v l:=by
 unfold ownG ownL;rw [Q5G];exact Iff.rfl
theorem RdG.lay {w:World} {o:Option Addr} {l:List (Int × Int)} (h:RdG w o l):RdL Q6S w.heap.size w o l:=by
 rcases h with h|⟨b,off,ho,hb,r⟩
 ·exact .inl h
 ·refine .inr ⟨b,off,ho,hb,fun i hi j hj=> ?_⟩
  have hj2:j=0∨j=1:=by have:j < 2:=hj;omega
  rcases hj2 with rfl|rfl
  ·exact (r i hi).1
  ·exact (r i hi).2
theorem Qho:AppOk Q6S 92 231:=⟨Tryz.underlying92,⟨_,_,QcZ,rfl,by decide⟩,by decide,fun a u hu=> by
 simp [Q6S] at hu;rcases hu with rfl|rfl <;> rfl⟩
def Q7z (k:Int):=((k,k+1):_)
theorem Q98 (base:Nat) (v:Value) (l:List _) (k:Int) (w:World) (hv:ownL Q6S 231 w base v l) (h0:0≤k) (h1:k≤1073741824) (hlen:l.length≤1048576):
  Calls Tryz.prog 124 #[v,.int .i64 k] w fun e w'=> e=.returned (.int .i64 (k+2 * l.length))∧ownL Q6S 231 w' base v (mkL Q7z 2 k l.length)∧w.grownBy w' v.ownBlock:=by
 rcases hv.2 with ⟨rfl,h2⟩|⟨g,cap,cur,rfl,hg,_⟩
 ·have e:l=[]:=List.eq_nil_of_length_eq_zero h2
  subst e
  go_enter Tryz.func124,Tryz.ntmps124
  go_wp2
  refine wp_loop_rounds 1 ?_
  rw [rounds_succ]
  go_wp2
  go_ret
  exact ⟨by simp,by simpa [mkL] using hv,World.grownBy.refl _ _⟩
 ·have hv0:w.ownsRow base 231 2 (.slice (some ⟨g,0,none⟩) l.length cap) l.length ((Q3i Q7z 2 l k 0).flatMap Q6S.cs):=by rw [Q2T];exact hv
  go_enter Tryz.func124,Tryz.ntmps124
  go_wp2
  go_loopw [1,5] (fun q j wr=> ∃i:Nat,i≤l.length∧j=.int .i64 i∧q=.int .i64 (k+2 * (i:Int))∧wr.ownsRow base 231 2 (.slice (some ⟨g,0,none⟩) l.length cap) l.length ((Q3i Q7z 2 l k i).flatMap Q6S.cs)∧w.grownBy wr (some g))
   (fun _ j _=> l.length - (intOf j).toNat)
  case atStart=> exact ⟨0,Kcq _,rfl,by simp,hv0,World.grownBy.refl _ _⟩
  case round=>
   obtain ⟨i,hi,rfl,rfl,hown,hgr⟩:=hrel
   by_cases hlt:i < l.length
   ·have hxl:((Q3i Q7z 2 l k i).flatMap Q6S.cs).length=l.length * 2:=by rw [Q0e,Q21 _ _ _ _ _ hi];rfl
    have E:=Q9G Q6S rfl (a:=Q7z (k+2 * (i:Int))) rfl (Q3i Q7z 2 l k i) i
    have E2:=Q4a Q7z 2 l k i hlt
    generalize hxs:(Q3i Q7z 2 l k i).flatMap Q6S.cs=xs at *
    have s1:=Q0y (j:=i * 2) (u:=.int .i64 (k+2 * (i:Int))) hown hgr
    have s2:=Q0y (j:=i * 2+1) (u:=.int .i64 (k+2 * (i:Int)+1)) s1.1 s1.2
    have f0:=hown.frozenAt (i * 2)
    obtain ⟨q0,hq0⟩:∃z,wr.cell? ⟨g,i * 2,none⟩=some z:=⟨_,(hown.cellAt (i * 2) (by omega)).trans (List.getElem?_eq_getElem (by (try simp) <;> omega))⟩
    have f1:=s1.1.frozenAt (i * 2+1)
    obtain ⟨q1,hq1⟩:∃z,(wr.setCell ⟨g,i * 2,none⟩ (.int .i64 (k+2 * (i:Int)))).cell? ⟨g,i * 2+1,none⟩=some z:=⟨_,(s1.1.cellAt (i * 2+1) (by omega)).trans (List.getElem?_eq_getElem (by (try simp) <;> omega))⟩
    have S:=Q00 s2
    have HE:=Q00 (E.trans (congrArg (fun z=> List.flatMap Q6S.cs z) E2))
    have z1:(i:Int) < (l.length:Int):=by omega
    clear s1 s2 hown hgr hv hv0 E E2 hxl
    go_wp2
    go_roundw
    case rel=>
     refine ⟨i+1,by omega,by go_num,by go_num, ?_,S.out.2⟩
     have h:=S.out.1
     rw [←HE.out]
     exact h
    case measure=> simp [intOf];omega
   ·have e:i=l.length:=by omega
    subst e
    rw [Q3S] at hown
    have HO:=Q00 hown
    clear hown
    go_wp2
    go_ret
    exact ⟨rfl,(by have:=HO.out;unfold ownL;rw [Q1u];exact this),hgr⟩
end Go.Proofs.YtgplppfbinfelaaGreat
