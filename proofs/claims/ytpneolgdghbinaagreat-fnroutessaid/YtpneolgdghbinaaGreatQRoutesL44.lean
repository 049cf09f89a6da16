/- A route's two parts: who is asked, each once, the hint first; then the pair, if it opens. -/
import Derived.Maps.OwnOps
import Derived.Maps.Views
import Derived.Test.YtpneolgdghbinaaGreatQRoutesL43
import Derived.Test.YtpneolgdghbinaaGreatQRoutesL35
namespace Go.Proofs.YtpneolgdghbinaaGreat
open Go.ChangeShapes Go.WideShapes Go.ChangeAt Go.RowKit Go.Joins
set_option linter.unusedVariables false
set_option linter.unusedSimpArgs false
set_option maxRecDepth 100000
set_option maxHeartbeats 40000000
def Qfm (ok:Bool) (h:Int) (c:List Int):List Int:=(if ok=true then [h] else [])++c.filter (fun x=> !ok||x !=h)
theorem QbY (ok:Bool) (h:Int) (c:List Int):Q1B ok h c c.length=(Qfm ok h c).map (fun x=> (x,0)):=by
 unfold Q1B Qfm;rw [List.take_length,List.map_append]
 cases ok <;> simp
theorem Qe0 {ok:Bool} {h:Int} {c:List Int} (a:c.Nodup):(Qfm ok h c).Nodup:=by
 unfold Qfm
 cases ok with
 |false=> show ([]++c.filter (fun x=> !false||x !=h)).Nodup;rw [List.nil_append];exact a.filter _
 |true=>
  simp only [if_true,List.singleton_append,List.nodup_cons];exact ⟨by simp,a.filter _⟩
theorem Qhn {ok:Bool} {h:Int} {c:List Int} {x:Int} (hx:x∈c):x∈Qfm ok h c:=by
 unfold Qfm
 cases ok with
 |false=> simp [hx]
 |true=>
  by_cases e:x=h
  ·simp [e]
  ·simp [hx,e]
theorem QgX (ok:Bool) (h:Int) (c:List Int):(Qfm ok h c).length≤c.length+1:=by
 unfold Qfm;rw [List.length_append];have a:=List.length_filter_le (fun x=> !ok||x !=h) c
 have h2:(if ok=true then [h] else ([]:List Int)).length≤1:=by split <;> simp
 omega
theorem QdW (l:List (Int × Int)) (r:List Int):Q3h l r r.length=l++r.map (fun x=> (x,1)):=by unfold Q3h;rw [List.take_length]
theorem Qbf {m:Bm} {a b f s:Int} {n:Nat} (h:Q2g m=true) (u:Q0p a b f s n=true):∃q:Nat,Q0S m.p.key a b=(q:Int)∧q < 8∧∃A B:List Int,Q5N m a b f s n=A.map (fun x=> (x,0))++B.map (fun x=> (x,1))∧A.Nodup∧A.length≤7∧B.length≤2∧(∀x∈Q6L m.p (q:Int),x∈A)∧(Q6L m.p (q:Int)).length≤6∧B=(if Q50 f=true then (m.p.ring.getD 0 []).getD q [] else [])∧(Q8b m a b < 0∨(0 < A.length∧A.getD 0 0=Q8b m a b))∧0 < m.p.ring.length∧(m.p.ring.getD 0 []).length=8:=by
 have d:=Q4t h;have j:=Ring.of d;have g:=Q3X u;obtain ⟨c,w,i⟩:=Q5f (Q1e d).1 g;have y:=j.six i;have h2:=j.two 0 j.pos c i
 have k:Q6L m.p (c:Int)=Q1R m.p.ring c:=by
  unfold Q6L;rw [if_pos (by rw [d];simp;omega)]
  rfl
 have r:(Q1R m.p.ring c).Nodup:=by
  unfold Q1R;exact Q51 _ _ List.nodup_nil
 refine ⟨c, ?_,i,Qfm (Q1w m.t a b).2 (QaC m.t a b).v (Q1R m.p.ring c),if Q50 f=true then (m.p.ring.getD 0 []).getD c [] else [], ?_,Qe0 r, ?_, ?_, ?_, ?_,rfl, ?_,j.pos,j.len 0 j.pos⟩
 ·unfold Q0S
  have l:=(Q1e d).1;unfold Q1A at l;simp only [Bool.and_eq_true,decide_eq_true_eq] at l;rw [if_pos ⟨l.1,l.2,g⟩];exact w
 ·unfold Q5N
  rw [if_pos (by rw [h,u];rfl)];unfold Q2z;rw [w,show ((c:Int)).toNat=c from rfl];unfold Q6s
  split
  ·rw [QbY,QdW]
  ·rw [QbY];simp
 ·have:=QgX (Q1w m.t a b).2 (QaC m.t a b).v (Q1R m.p.ring c);omega
 ·split
  ·exact h2
  ·simp
 ·rw [k];exact fun x C=> Qhn C
 ·rw [k];exact y
 ·have z:Q8b m a b=Q8V m.t a b:=by unfold Q8b;rw [if_pos (by rw [h,g];rfl)]
  rw [z];unfold Q8V
  by_cases he:(Q1w m.t a b).2=true
  ·rw [if_pos he]
   right
   unfold Qfm;rw [if_pos he];exact ⟨by simp,by simp⟩
  ·rw [if_neg he]
   left
   decide
theorem Qcy {m:Bm} {a b f s:Int} {n:Nat} (h:Q2g m=false∨Q0p a b f s n=false):Q5N m a b f s n=[]:=by
 unfold Q5N;rw [if_neg]
 rcases h with h|h <;> simp [h]
end Go.Proofs.YtpneolgdghbinaaGreat
