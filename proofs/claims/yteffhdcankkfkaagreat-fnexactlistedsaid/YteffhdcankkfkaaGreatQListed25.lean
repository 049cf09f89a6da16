/- Several texts in one: SegL, LMarkG. -/
import Derived.Test.YteffhdcankkfkaaGreatQListed19
import Derived.Test.YteffhdcankkfkaaGreatQListed24
namespace Go.Proofs.YteffhdcankkfkaaGreat
open Go.ChangeShapes Go.WideShapes Go.ChangeAt Go.RowKit Go.Joins
set_option linter.unusedVariables false
set_option linter.unusedSimpArgs false
set_option maxRecDepth 100000
set_option maxHeartbeats 40000000
def Q1R:Lay (Int × Int):=⟨2,fun a=> [.int .i64 a.1,.int .i64 a.2],(0,0),fun _=>rfl⟩
theorem Q6t:∀l:List (Int × Int),Q2m l=l.flatMap Q1R.cs
 |[]=>rfl
 |a::l=>by
  have:=Q6t l;unfold Q2m at this ⊢;simp only[Q3Z,List.map_cons,List.flatMap_cons,this]
  rfl
theorem Q69 {w:World} {base:Nat} {v:Value} {l:List (Int × Int)}:ownG w base v l↔ownL Q1R 136 w base v l:=by
 unfold ownG ownL;rw[Q6t];exact Iff.rfl
theorem RdG.lay {w:World} {o:Option Addr} {l:List (Int × Int)} (h:RdG w o l):RdL Q1R w.heap.size w o l:=by
 rcases h with h|⟨b,c,g,d,r⟩
 ·exact .inl h
 ·refine .inr ⟨b,c,g,d,fun i hi j f=>?_⟩
  have a:j=0\/j=1:=by have:j < 2:=f;omega
  rcases a with rfl|rfl
  ·exact(r i hi).1
  ·exact(r i hi).2
theorem QhL:AppOk Q1R 109 136:=⟨Tryz.underlying109,⟨_,_,QdV,rfl,by decide⟩,by decide,fun a u hu=>by
 simp[Q1R]at hu;rcases hu with rfl|rfl <;> rfl⟩
def Q8N (k:Int):=((k,k+1):_)
theorem Q9P (base:Nat) (v:Value) (l:List _) (k:Int) (w:World) (hv:ownL Q1R 136 w base v l) (C:0<=k) (D:k<=1073741824) (n:l.length<=1048576):
  Calls Tryz.prog 90 #[v,.int .i64 k] w fun e p=>e=.returned (.int .i64 (k+2 * l.length))/\ownL Q1R 136 p base v (mkL Q8N 2 k l.length)/\w.grownBy p v.ownBlock:=by
 rcases hv.2 with⟨rfl,h2⟩|⟨g,cap,t,rfl,F,_⟩
 ·have e:l=[]:=List.eq_nil_of_length_eq_zero h2
  subst e;go_enter Tryz.func90,Tryz.ntmps90;go_wp2;refine wp_loop_rounds 1 ?_;rw[rounds_succ];go_wp2;go_ret;exact⟨by simp,by simpa[mkL]using hv,World.grownBy.refl _ _⟩
 ·have d:w.ownsRow base 136 2 (.slice (some ⟨g,0,none⟩) l.length cap) l.length ((Q3K Q8N 2 l k 0).flatMap Q1R.cs):=by rw[Q3B];exact hv
  go_enter Tryz.func90,Tryz.ntmps90;go_wp2
  go_loopw [1,5] (fun q j wr=> ∃i:Nat,i<=l.length/\j=.int .i64 i/\q=.int .i64 (k+2 * (i:Int))/\wr.ownsRow base 136 2 (.slice (some ⟨g,0,none⟩) l.length cap) l.length ((Q3K Q8N 2 l k i).flatMap Q1R.cs)/\w.grownBy wr (some g))
   (fun _ j _=>l.length - (intOf j).toNat)
  case atStart=>exact⟨0,Kcq _,rfl,by simp,d,World.grownBy.refl _ _⟩
  case round=>
   obtain⟨i,hi,rfl,rfl,b,c⟩:=hrel
   by_cases hlt:i < l.length
   ·have f:((Q3K Q8N 2 l k i).flatMap Q1R.cs).length=l.length * 2:=by rw[Q0f,Q2q _ _ _ _ _ hi];rfl
    have E:=Qa9 Q1R rfl (a:=Q8N (k+2 * (i:Int))) rfl (Q3K Q8N 2 l k i) i;have m:=Q4F Q8N 2 l k i hlt;generalize hxs:(Q3K Q8N 2 l k i).flatMap Q1R.cs=xs at *;have s1:=Q0y (j:=i * 2) (u:=.int .i64 (k+2 * (i:Int))) b c;have s2:=Q0y (j:=i * 2+1) (u:=.int .i64 (k+2 * (i:Int)+1)) s1.1 s1.2;have A:=b.frozenAt (i * 2);obtain⟨G,x⟩:∃z,wr.cell? ⟨g,i * 2,none⟩=some z:=⟨_,(b.cellAt (i * 2) (by omega)).trans (KGq (by(try simp) <;> omega))⟩;have B:=s1.1.frozenAt (i * 2+1)
    obtain⟨H,y⟩:∃z,(wr.setCell ⟨g,i * 2,none⟩ (.int .i64 (k+2 * (i:Int)))).cell? ⟨g,i * 2+1,none⟩=some z:=⟨_,(s1.1.cellAt (i * 2+1) (by omega)).trans (KGq (by(try simp) <;> omega))⟩;have S:=Q00 s2;have r:=Q00 (E.trans (congrArg (fun z=>List.flatMap Q1R.cs z) m))
    have I:(i:Int) < (l.length:Int):=by omega
    clear s1 s2 b c hv d E m f;go_wp2;go_roundw
    case rel=>
     refine⟨i+1,by omega,by go_num,by go_num, ?_,S.out.2⟩;have h:=S.out.1;rw[<-r.out];exact h
    case measure=>simp[intOf];omega
   ·have e:i=l.length:=by omega
    subst e;rw[Q4s]at b;have s:=Q00 b;clear b;go_wp2;go_ret;exact⟨rfl,(by have:=s.out;unfold ownL;rw[Q1z];exact this),c⟩
end Go.Proofs.YteffhdcankkfkaaGreat
