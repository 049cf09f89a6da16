/- What is learnt is the hint; no more than one other flow's goes for it. -/
import Derived.Test.YtpneolgdghbinaaGreatQLearnsL37
import Derived.Test.YtpneolgdghbinaaGreatQLearnsL51
namespace Go.Proofs.YtpneolgdghbinaaGreat
open Go.ChangeShapes Go.WideShapes Go.ChangeAt Go.RowKit Go.Joins
set_option linter.unusedVariables false
set_option linter.unusedSimpArgs false
set_option maxRecDepth 100000
set_option maxHeartbeats 40000000
theorem Q75 {l:List Sl} {a p:Int}:∀(f i:Nat),i < l.length→Q4X l a p f i=(-1,false)→∀d,d < f→(l.getD ((i+d) % l.length) sl0).u=true
 |0,i,hi,h,d,hd=> absurd hd (Nat.not_lt_zero d)
 |f+1,i,hi,h,d,hd=> by
  cases hu:(l.getD i sl0).u with
  |false=>
   rw [Q2J hu] at h;injection h with h _;omega
  |true=>
   by_cases ho:(l.getD i sl0).a=a∧(l.getD i sl0).p=p
   ·rw [Q5R hu ho.1 ho.2] at h
    injection h with _ h
    cases h
   ·rw [Q4T hu ho] at h
    cases d with
    |zero=> rw [Nat.add_zero,Nat.mod_eq_of_lt hi];exact hu
    |succ d=>
     have:=Q75 f ((i+1) % l.length) (Nat.mod_lt _ (by omega)) h d (by omega)
     rwa [Nat.mod_add_mod,show i+1+d=i+(d+1) by omega] at this
theorem QaM {l:List Sl} (h:Q0c l=true):(Q1G l l.length).Nodup:=by
 unfold Q1G List.Nodup;rw [List.take_length,List.pairwise_map,List.pairwise_filter,List.pairwise_iff_getElem];intro i j hi k n f g e
 have b:at' l i=l[i]:=by unfold at';rw [List.getD_eq_getElem?_getD,List.getElem?_eq_getElem hi];rfl
 have c:at' l j=l[j]:=by unfold at';rw [List.getD_eq_getElem?_getD,List.getElem?_eq_getElem k];rfl
 have m:=(Q5s h (a:=l[i].a) (p:=l[i].p) (j:=i)).2 ⟨hi,by rw [b];exact f,by rw [b],by rw [b]⟩;have d:=(Q5s h (a:=l[i].a) (p:=l[i].p) (j:=j)).2 ⟨k,by rw [c];exact g,by rw [c];exact (congrArg Prod.fst e).symm,by rw [c];exact (congrArg Prod.snd e).symm⟩;rw [m] at d;injection d with d _;omega
theorem Q6q {n:Nat} {R:List Sl}:∀(g:Nat) (m:List Sl) (i k:Nat),DropInv n R g m i k→∃j,j < n∧(R.getD j sl0).u=false
 |g,m,i,k,hD=> by
  cases hu:(m.getD k sl0).u with
  |false=> exact ⟨i,hD.hi,by rw [←hD.done hu];exact hD.free⟩
  |true=>
   cases hm':Q4Z n m i k with
   |true=>
    obtain ⟨c,b⟩:=hD.move hu hm';obtain ⟨a,rfl⟩:∃a,g=a+1:=⟨g - 1,by omega⟩;exact Q6q a _ _ _ b
   |false=>
    obtain ⟨c,b⟩:=hD.stay hu hm';obtain ⟨a,rfl⟩:∃a,g=a+1:=⟨g - 1,by omega⟩;exact Q6q a _ _ _ b
theorem QaV {l:List Sl} {j:Nat} (c:j < l.length) (g:(l.getD j sl0).u=false) (a p:Int):0≤(Q0Z l a p).1:=by
 have d:0 < l.length:=by omega
 rcases Q1f l d a p with e|⟨k,h,⟨e,_⟩|⟨e,_⟩⟩
 ·exfalso
  have f:=Q1q d a p;have b:=Q75 l.length (Q0S l.length a p) f e
  have:(l.getD j sl0).u=true:=by
   by_cases hle:Q0S l.length a p≤j
   ·have:=b (j - Q0S l.length a p) (by omega)
    rwa [show Q0S l.length a p+(j - Q0S l.length a p)=j by omega,Nat.mod_eq_of_lt c] at this
   ·have:=b (j+l.length - Q0S l.length a p) (by omega)
    rwa [show Q0S l.length a p+(j+l.length - Q0S l.length a p)=j+l.length by omega,Nat.add_mod_right,Nat.mod_eq_of_lt c] at this
  rw [g] at this
  cases this
 ·rw [e];exact Int.natCast_nonneg k
 ·rw [e];exact Int.natCast_nonneg k
theorem Q9p {l:List Sl} {a p v t:Int} {k:Nat} (c:(at' l k).u=false∨((at' l k).a=a∧(at' l k).p=p)) {s:Sl} (hs:s.u=true) (f:¬(s.a=a∧s.p=p)):Qhh (l.set k ⟨true,a,p,v,t⟩) s↔Qhh l s:=by
 constructor
 ·rintro ⟨j,d,e⟩
  rw [List.length_set] at d
  by_cases b:k=j
  ·subst b
   unfold at' at e;rw [Q0Y _ _ _ d] at e;subst e;exact absurd ⟨rfl,rfl⟩ f
  ·unfold at' at e
   rw [Q1L _ _ _ _ b] at e;exact ⟨j,d,e⟩
 ·rintro ⟨j,d,e⟩
  have b:k≠j:=by
   rintro rfl;rw [e] at c
   rcases c with h|h
   ·rw [hs] at h;cases h
   ·exact f h
  refine ⟨j,by rw [List.length_set];exact d, ?_⟩;unfold at' at e ⊢;rw [Q1L _ _ _ _ b];exact e
theorem QaH {l:List Sl} {a p v t g i:Int} (h:Q0c l=true) (h2:Q0c (Q4d l a p v t)=true) (d:¬(g=a∧i=p)) (s:Sl):((Q0Z (Q4d l a p v t) g i).2=true∧Q6a (Q4d l a p v t) g i=s)↔((Q0Z l g i).2=true∧Q6a l g i=s):=by
 rw [Q64 h2,Q64 h];have r:=(Q07.1 h).1
 rcases Q1f l (by omega) a p with e|⟨k,q,⟨e,j⟩|⟨e,j,m,n⟩⟩
 ·rw [QbJ (by rw [e];decide)]
 ·rw [Q5w (k:=k) (by rw [e])]
  constructor
  ·rintro ⟨f,h2,b,c⟩;exact ⟨(Q9p (.inl j) h2 (by rw [b,c];exact d)).1 f,h2,b,c⟩
  ·rintro ⟨f,h2,b,c⟩;exact ⟨(Q9p (.inl j) h2 (by rw [b,c];exact d)).2 f,h2,b,c⟩
 ·rw [Q5w (k:=k) (by rw [e])]
  constructor
  ·rintro ⟨f,h2,b,c⟩;exact ⟨(Q9p (.inr ⟨m,n⟩) h2 (by rw [b,c];exact d)).1 f,h2,b,c⟩
  ·rintro ⟨f,h2,b,c⟩;exact ⟨(Q9p (.inr ⟨m,n⟩) h2 (by rw [b,c];exact d)).2 f,h2,b,c⟩
theorem Qcl {l:List Sl} {a p v t:Int} (h2:Q0c (Q4d l a p v t)=true) (f:0≤(Q0Z l a p).1) (d:0 < l.length):Q4v (Q4d l a p v t) a p=v:=by
 have b:(Q0Z (Q4d l a p v t) a p).2=true∧Q6a (Q4d l a p v t) a p=⟨true,a,p,v,t⟩:=by
  rw [Q64 h2]
  obtain ⟨k,c,e⟩:∃k,k < l.length∧(Q0Z l a p).1=(k:Int):=by
   rcases Q6e l d a p with e|e
   ·omega
   ·exact e
  refine ⟨⟨k,by rw [Q7Q];exact c, ?_⟩,rfl,rfl,rfl⟩;rw [Q5w e];unfold at';exact Q0Y _ _ _ c
 unfold Q4v;rw [if_pos b.1,b.2]
theorem Q9M {b l2:List Sl} {a p:Int} (h:∀s:Sl,((Q0Z b a p).2=true∧Q6a b a p=s)↔((Q0Z l2 a p).2=true∧Q6a l2 a p=s)):Q4v b a p=Q4v l2 a p:=by
 unfold Q4v
 by_cases h1:(Q0Z b a p).2=true
 ·have:=(h (Q6a b a p)).1 ⟨h1,rfl⟩
  rw [if_pos h1,if_pos this.1,this.2]
 ·have h2:¬(Q0Z l2 a p).2=true:=fun h2=> h1 ((h (Q6a l2 a p)).2 ⟨h2,rfl⟩).1
  rw [if_neg h1,if_neg h2]
theorem QgF {l:List Sl} {a p:Int} (c:Q0c l=true) (h:(Q0Z l a p).1 < 0):Qhh l (Q26 l)∧(Q26 l).u=true:=by
 have g:=(Q07.1 c).1
 have b:(l.getD 0 sl0).u=true:=by
  cases b:(l.getD 0 sl0).u with
  |true=> rfl
  |false=> have:=QaV (show 0 < l.length by omega) b a p;omega
 rcases Q7U l l.length (Kaq _) with ⟨_,h2⟩|⟨j,d,h2,f⟩
 ·rw [h2 0 (by omega)] at b;cases b
 ·have e:Q26 l=l.getD j sl0:=h2
  exact ⟨⟨j,d,e.symm⟩,by rw [e];exact f⟩
theorem Qbr {l:List Sl} {now a p v:Int} (h:Q0c l=true) (s:Q0h a p=true) (x:0≤now) (y:now≤100000) (hv:0≤v∧v < 6):Q4v (Q1I l now a p v) a p=v∧∃s0:Int × Int,∀d f,¬(d=a∧f=p)→(d,f)≠s0→Q4v (Q1I l now a p v) d f=Q4v l d f:=by
 have A:=(Q07.1 h).1;unfold Q1I
 by_cases hr:0≤(Q0Z l a p).1
 ·rw [if_pos hr]
  have h2:Q0c (Q4d l a p v (now+50))=true:=Q7p h s (by omega) (by omega);exact ⟨Qcl h2 hr (by omega),(0,0),fun d f c _=> Q9M (QaH h h2 c)⟩
 ·rw [if_neg hr]
  have hs:=QgF h (show (Q0Z l a p).1 < 0 by omega);have g:=(Q64 h (a:=(Q26 l).a) (p:=(Q26 l).p)).2 ⟨hs.1,hs.2,rfl,rfl⟩
  obtain ⟨i,hi,e⟩:∃i,i < l.length∧Q0Z l (Q26 l).a (Q26 l).p=((i:Int),true):=by
   rcases Q1f l (by omega) (Q26 l).a (Q26 l).p with e|⟨k,w,⟨e,_⟩|⟨e,_⟩⟩
   ·rw [e] at g;exact absurd g.1 (by simp)
   ·rw [e] at g;exact absurd g.1 (by simp)
   ·exact ⟨k,w,e⟩
  have h2:=Q97 (a:=(Q26 l).a) (p:=(Q26 l).p) h;rw [Q5P e] at h2 ⊢;have t:=(Q07.1 h).2.1;obtain ⟨j,u,z⟩:=Q6q _ _ _ _ (DropInv.start (i:=i) (by omega) hi (Q2l h));have b:=Q2s l i;have n:=QaV (l:=Q1M l i) (by rw [b];exact u) z a p;have r:Q0c (Q4d (Q1M l i) a p v (now+50))=true:=Q7p h2 s (by omega) (by omega);refine ⟨Qcl r n (by rw [b];omega),((Q26 l).a,(Q26 l).p),fun d f c m=> ?_⟩;rw [Q9M (QaH h2 r c)];exact Q9M (Qg0 h e (fun q=> m (by rw [q.1,q.2])))
def Q3a (P:Nat→Bool):Nat→Nat
 |0=> 0
 |k+1=> Q3a P k+if P k=true then 1 else 0
theorem Q8n {P:Nat→Bool}:∀k,(∀j,j < k→P j=false)→Q3a P k=0
 |0,_=> rfl
 |k+1,h=> by show Q3a P k+_=0;rw [Q8n k (fun j hj=> h j (by omega)),h k (by omega)];rfl
theorem Qa8 {P:Nat→Bool}:∀k,(∀i j,i < j→j < k→P i=true→P j=true→False)→Q3a P k≤1
 |0,_=> Kcq _
 |k+1,h=> by
  show Q3a P k+_≤1
  cases hp:P k with
  |false=> have:=Qa8 k (fun i j a h2=> h i j a (by omega));simpa using this
  |true=>
   rw [Q8n k (fun j b=> by
    cases hq:P j with
    |false=> rfl
    |true=> exact (h j k b (by omega) hq hp).elim)]
   simp
theorem Qez {l:List Sl} (h:Q0c l=true) {i j:Nat} (a:i < j) (b:j < (Q1j l).length):(Q1j l).getD i (0,0)≠(Q1j l).getD j (0,0):=by
 have c:(Q1j l).Nodup:=by
  unfold Q1j;rw [if_pos h];exact (Qde _).nodup_iff.2 (QaM h)
 rw [List.getD_eq_getElem?_getD,List.getD_eq_getElem?_getD,List.getElem?_eq_getElem b,List.getElem?_eq_getElem (by omega)];exact List.pairwise_iff_getElem.1 c i j (by omega) b a
def Qfw (m mr:Bm) (a b:Int) (L:List (Int × Int)) (k:Nat):Bool:= !(decide ((L.getD k (0,0)).1=a) && decide ((L.getD k (0,0)).2=b)) && !(decide (Q59 mr (L.getD k (0,0)).1 (L.getD k (0,0)).2=Q59 m (L.getD k (0,0)).1 (L.getD k (0,0)).2))
theorem QdO {m:Bm} {now a b v:Int} (h:Q5D m now a b v=true):Q59 (Q2q m now a b v) a b=v∧Q2g (Q2q m now a b v)=true∧(Q2q m now a b v).p=m.p∧Q3a (Qfw m (Q2q m now a b v) a b (Q1j m.t)) (Q1j m.t).length≤1∧Q2g m=true:=by
 have B:=h;unfold Q5D at h;simp only [Bool.and_eq_true,decide_eq_true_eq] at h;obtain ⟨f,⟨l,n⟩,w,r,s⟩:=h;have g:=Q8v f l n w ⟨r,s⟩;have A:=Qbr (Q1N f) w l n ⟨r,s⟩
 have e:Q2q m now a b v=Q4q m now a b v:=by unfold Q2q;rw [if_pos B]
 rw [e]
 have hi:∀c d,Q59 (Q4q m now a b v) c d=if Q0h c d=true then Q4v (Q1I m.t now a b v) c d else -1:=fun c d=> by unfold Q59;rw [g,Bool.true_and];rfl
 have C:∀c d,Q59 m c d=if Q0h c d=true then Q4v m.t c d else -1:=fun c d=> by unfold Q59;rw [f,Bool.true_and]
 refine ⟨by rw [hi,if_pos w];exact A.1,g,rfl, ?_,f⟩;obtain ⟨s0,hs⟩:=A.2;refine Qa8 _ (fun i j x y D E=> ?_)
 have key:∀k,Qfw m (Q4q m now a b v) a b (Q1j m.t) k=true→(Q1j m.t).getD k (0,0)=s0:=by
  intro k z;unfold Qfw at z;simp only [Bool.and_eq_true,Bool.not_eq_true',decide_eq_false_iff_not,Bool.and_eq_false_iff] at z;obtain ⟨u,h2⟩:=z
  by_cases hne:(Q1j m.t).getD k (0,0)=s0
  ·exact hne
  ·exfalso
   refine h2 ?_;rw [hi,C];have q:=hs ((Q1j m.t).getD k (0,0)).1 ((Q1j m.t).getD k (0,0)).2 (by rintro ⟨F,G⟩;rcases u with u|u <;> contradiction) hne;rw [q]
 exact Qez (Q1N f) x y ((key i D).trans (key j E).symm)
end Go.Proofs.YtpneolgdghbinaaGreat
