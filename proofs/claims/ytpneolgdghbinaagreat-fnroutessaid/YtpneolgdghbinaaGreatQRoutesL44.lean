/- A route's two parts: who is asked, each once, the hint first; then the pair, if it opens. -/
import Derived.Maps.OwnOps
import Derived.Maps.Views
import Derived.Test.YtpneolgdghbinaaGreatQRoutesL43
import Derived.Test.YtpneolgdghbinaaGreatQRoutesL35
namespace Go.Proofs.YtpneolgdghbinaaGreat
open Go.ChangeShapes Go.WideShapes Go.ChangeAt Go.RowKit Go.Joins
set_option linter.unusedVariables false
set_option linter.unusedSimpArgs false
set_option maxRecDepth 100000
set_option maxHeartbeats 40000000
def Qfo (ok:Bool) (h:Int) (c:List Int):List Int:=(if ok=true then [h] else [])++c.filter (fun x=> !ok||x !=h)
theorem QbX (ok:Bool) (h:Int) (c:List Int):Q1B ok h c c.length=(Qfo ok h c).map (fun x=> (x,0)):=by
 unfold Q1B Qfo;rw [List.take_length,List.map_append]
 cases ok <;> simp
theorem Qec {ok:Bool} {h:Int} {c:List Int} (a:c.Nodup):(Qfo ok h c).Nodup:=by
 unfold Qfo
 cases ok with
 |false=> show ([]++c.filter (fun x=> !false||x !=h)).Nodup;rw [List.nil_append];exact a.filter _
 |true=>
  simp only [if_true,List.singleton_append,List.nodup_cons];exact ⟨by simp,a.filter _⟩
theorem Qhv {ok:Bool} {h:Int} {c:List Int} {x:Int} (hx:x∈c):x∈Qfo ok h c:=by
 unfold Qfo
 cases ok with
 |false=> simp [hx]
 |true=>
  by_cases e:x=h
  ·simp [e]
  ·simp [hx,e]
theorem Qh7 (ok:Bool) (h:Int) (c:List Int):(Qfo ok h c).length≤c.length+1:=by
 unfold Qfo;rw [List.length_append];have a:=List.length_filter_le (fun x=> !ok||x !=h) c
 have h2:(if ok=true then [h] else ([]:List Int)).length≤1:=by split <;> simp
 omega
theorem Qe0 (l:List (Int × Int)) (r:List Int):Q3f l r r.length=l++r.map (fun x=> (x,1)):=by unfold Q3f;rw [List.take_length]
theorem Qb1 {m:Bm} {a b f s:Int} {n:Nat} (h:Q2j m=true) (u:Q0p a b f s n=true):∃q:Nat,Q0U m.p.key a b=(q:Int)∧q < 8∧∃A B:List Int,Q5A m a b f s n=A.map (fun x=> (x,0))++B.map (fun x=> (x,1))∧A.Nodup∧A.length≤7∧B.length≤2∧(∀x∈Q6S m.p (q:Int),x∈A)∧(Q6S m.p (q:Int)).length≤6∧B=(if Q53 f=true then (m.p.ring.getD 0 []).getD q [] else [])∧(Q8d m a b < 0∨(0 < A.length∧A.getD 0 0=Q8d m a b))∧0 < m.p.ring.length∧(m.p.ring.getD 0 []).length=8:=by
 have d:=Q4x h;have j:=Ring.of d;have g:=Q3V u;obtain ⟨c,w,i⟩:=Q5h (Q1f d).1 g;have y:=j.six i;have h2:=j.two 0 j.pos c i
 have k:Q6S m.p (c:Int)=Q1R m.p.ring c:=by
  unfold Q6S;rw [if_pos (by rw [d];simp;omega)]
  rfl
 have r:(Q1R m.p.ring c).Nodup:=by
  unfold Q1R;exact Q50 _ _ List.nodup_nil
 refine ⟨c, ?_,i,Qfo (Q1y m.t a b).2 (Q9Y m.t a b).v (Q1R m.p.ring c),if Q53 f=true then (m.p.ring.getD 0 []).getD c [] else [], ?_,Qec r, ?_, ?_, ?_, ?_,rfl, ?_,j.pos,j.len 0 j.pos⟩
 ·unfold Q0U
  have l:=(Q1f d).1;unfold Q1u at l;simp only [Bool.and_eq_true,decide_eq_true_eq] at l;rw [if_pos ⟨l.1,l.2,g⟩];exact w
 ·unfold Q5A
  rw [if_pos (by rw [h,u];rfl)];unfold Q2F;rw [w,show ((c:Int)).toNat=c from rfl];unfold Q6D
  split
  ·rw [QbX,Qe0]
  ·rw [QbX];simp
 ·have:=Qh7 (Q1y m.t a b).2 (Q9Y m.t a b).v (Q1R m.p.ring c);omega
 ·split
  ·exact h2
  ·simp
 ·rw [k];exact fun x C=> Qhv C
 ·rw [k];exact y
 ·have z:Q8d m a b=Q9C m.t a b:=by unfold Q8d;rw [if_pos (by rw [h,g];rfl)]
  rw [z];unfold Q9C
  by_cases he:(Q1y m.t a b).2=true
  ·rw [if_pos he]
   right
   unfold Qfo;rw [if_pos he];exact ⟨by simp,by simp⟩
  ·rw [if_neg he]
   left
   decide
theorem Qd2 {m:Bm} {a b f s:Int} {n:Nat} (h:Q2j m=false∨Q0p a b f s n=false):Q5A m a b f s n=[]:=by
 unfold Q5A;rw [if_neg]
 rcases h with h|h <;> simp [h]
end Go.Proofs.YtpneolgdghbinaaGreat
