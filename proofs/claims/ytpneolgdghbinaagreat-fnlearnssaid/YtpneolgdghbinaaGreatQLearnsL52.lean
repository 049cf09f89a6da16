/- What is learnt is the hint; no more than one other flow's goes for it. -/
import Derived.Test.YtpneolgdghbinaaGreatQLearnsL37
import Derived.Test.YtpneolgdghbinaaGreatQLearnsL51
namespace Go.Proofs.YtpneolgdghbinaaGreat
open Go.ChangeShapes Go.WideShapes Go.ChangeAt Go.RowKit Go.Joins
set_option linter.unusedVariables false
set_option linter.unusedSimpArgs false
set_option maxRecDepth 100000
set_option maxHeartbeats 40000000
theorem Q7q {l:List Sl} {a p:Int}:∀(f i:Nat),i < l.length→Q4Y l a p f i=(-1,false)→∀d,d < f→(l.getD ((i+d) % l.length) sl0).u=true
 |0,i,hi,h,d,hd=> absurd hd (Nat.not_lt_zero d)
 |f+1,i,hi,h,d,hd=> by
  cases hu:(l.getD i sl0).u with
  |false=>
   rw [Q2I hu] at h;injection h with h _;omega
  |true=>
   by_cases ho:(l.getD i sl0).a=a∧(l.getD i sl0).p=p
   ·rw [Q5M hu ho.1 ho.2] at h
    injection h with _ h
    cases h
   ·rw [Q4W hu ho] at h
    cases d with
    |zero=> rw [Nat.add_zero,Nat.mod_eq_of_lt hi];exact hu
    |succ d=>
     have:=Q7q f ((i+1) % l.length) (Nat.mod_lt _ (by omega)) h d (by omega)
     rwa [Nat.mod_add_mod,show i+1+d=i+(d+1) by omega] at this
theorem Qaj {l:List Sl} (h:Q0c l=true):(Q1D l l.length).Nodup:=by
 unfold Q1D List.Nodup;rw [List.take_length,List.pairwise_map,List.pairwise_filter,List.pairwise_iff_getElem];intro i j hi k m d c e
 have f:at' l i=l[i]:=by unfold at';rw [List.getD_eq_getElem?_getD,List.getElem?_eq_getElem hi];rfl
 have b:at' l j=l[j]:=by unfold at';rw [List.getD_eq_getElem?_getD,List.getElem?_eq_getElem k];rfl
 have n:=(Q5A h (a:=l[i].a) (p:=l[i].p) (j:=i)).2 ⟨hi,by rw [f];exact d,by rw [f],by rw [f]⟩;have g:=(Q5A h (a:=l[i].a) (p:=l[i].p) (j:=j)).2 ⟨k,by rw [b];exact c,by rw [b];exact (congrArg Prod.fst e).symm,by rw [b];exact (congrArg Prod.snd e).symm⟩;rw [n] at g;injection g with g _;omega
theorem Q68 {n:Nat} {R:List Sl}:∀(g:Nat) (m:List Sl) (i k:Nat),DropInv n R g m i k→∃j,j < n∧(R.getD j sl0).u=false
 |g,m,i,k,hD=> by
  cases hu:(m.getD k sl0).u with
  |false=> exact ⟨i,hD.hi,by rw [←hD.done hu];exact hD.free⟩
  |true=>
   cases hm':Q4X n m i k with
   |true=>
    obtain ⟨c,b⟩:=hD.move hu hm';obtain ⟨a,rfl⟩:∃a,g=a+1:=⟨g - 1,by omega⟩;exact Q68 a _ _ _ b
   |false=>
    obtain ⟨c,b⟩:=hD.stay hu hm';obtain ⟨a,rfl⟩:∃a,g=a+1:=⟨g - 1,by omega⟩;exact Q68 a _ _ _ b
theorem Qb5 {l:List Sl} {j:Nat} (d:j < l.length) (f:(l.getD j sl0).u=false) (a p:Int):0≤(Q0Z l a p).1:=by
 have c:0 < l.length:=by omega
 rcases Q1f l c a p with e|⟨k,h,⟨e,_⟩|⟨e,_⟩⟩
 ·exfalso
  have g:=Q1o c a p;have b:=Q7q l.length (Q0S l.length a p) g e
  have:(l.getD j sl0).u=true:=by
   by_cases hle:Q0S l.length a p≤j
   ·have:=b (j - Q0S l.length a p) (by omega)
    rwa [show Q0S l.length a p+(j - Q0S l.length a p)=j by omega,Nat.mod_eq_of_lt d] at this
   ·have:=b (j+l.length - Q0S l.length a p) (by omega)
    rwa [show Q0S l.length a p+(j+l.length - Q0S l.length a p)=j+l.length by omega,Nat.add_mod_right,Nat.mod_eq_of_lt d] at this
  rw [f] at this
  cases this
 ·rw [e];exact Int.natCast_nonneg k
 ·rw [e];exact Int.natCast_nonneg k
theorem Q9a {l:List Sl} {a p v t:Int} {k:Nat} (c:(at' l k).u=false∨((at' l k).a=a∧(at' l k).p=p)) {s:Sl} (hs:s.u=true) (f:¬(s.a=a∧s.p=p)):Qg9 (l.set k ⟨true,a,p,v,t⟩) s↔Qg9 l s:=by
 constructor
 ·rintro ⟨j,d,e⟩
  rw [List.length_set] at d
  by_cases b:k=j
  ·subst b
   unfold at' at e;rw [Q0Y _ _ _ d] at e;subst e;exact absurd ⟨rfl,rfl⟩ f
  ·unfold at' at e
   rw [Q1G _ _ _ _ b] at e;exact ⟨j,d,e⟩
 ·rintro ⟨j,d,e⟩
  have b:k≠j:=by
   rintro rfl;rw [e] at c
   rcases c with h|h
   ·rw [hs] at h;cases h
   ·exact f h
  refine ⟨j,by rw [List.length_set];exact d, ?_⟩;unfold at' at e ⊢;rw [Q1G _ _ _ _ b];exact e
theorem Qaa {l:List Sl} {a p v t g i:Int} (h:Q0c l=true) (h2:Q0c (Q4c l a p v t)=true) (d:¬(g=a∧i=p)) (s:Sl):((Q0Z (Q4c l a p v t) g i).2=true∧Q6j (Q4c l a p v t) g i=s)↔((Q0Z l g i).2=true∧Q6j l g i=s):=by
 rw [Q60 h2,Q60 h];have q:=(Q07.1 h).1
 rcases Q1f l (by omega) a p with e|⟨k,r,⟨e,j⟩|⟨e,j,m,n⟩⟩
 ·rw [QbY (by rw [e];decide)]
 ·rw [Q5o (k:=k) (by rw [e])]
  constructor
  ·rintro ⟨f,h2,b,c⟩;exact ⟨(Q9a (.inl j) h2 (by rw [b,c];exact d)).1 f,h2,b,c⟩
  ·rintro ⟨f,h2,b,c⟩;exact ⟨(Q9a (.inl j) h2 (by rw [b,c];exact d)).2 f,h2,b,c⟩
 ·rw [Q5o (k:=k) (by rw [e])]
  constructor
  ·rintro ⟨f,h2,b,c⟩;exact ⟨(Q9a (.inr ⟨m,n⟩) h2 (by rw [b,c];exact d)).1 f,h2,b,c⟩
  ·rintro ⟨f,h2,b,c⟩;exact ⟨(Q9a (.inr ⟨m,n⟩) h2 (by rw [b,c];exact d)).2 f,h2,b,c⟩
theorem Qca {l:List Sl} {a p v t:Int} (h2:Q0c (Q4c l a p v t)=true) (f:0≤(Q0Z l a p).1) (d:0 < l.length):Q4z (Q4c l a p v t) a p=v:=by
 have c:(Q0Z (Q4c l a p v t) a p).2=true∧Q6j (Q4c l a p v t) a p=⟨true,a,p,v,t⟩:=by
  rw [Q60 h2]
  obtain ⟨k,b,e⟩:∃k,k < l.length∧(Q0Z l a p).1=(k:Int):=by
   rcases Q69 l d a p with e|e
   ·omega
   ·exact e
  refine ⟨⟨k,by rw [Q82];exact b, ?_⟩,rfl,rfl,rfl⟩;rw [Q5o e];unfold at';exact Q0Y _ _ _ b
 unfold Q4z;rw [if_pos c.1,c.2]
theorem Q9f {b l2:List Sl} {a p:Int} (h:∀s:Sl,((Q0Z b a p).2=true∧Q6j b a p=s)↔((Q0Z l2 a p).2=true∧Q6j l2 a p=s)):Q4z b a p=Q4z l2 a p:=by
 unfold Q4z
 by_cases h1:(Q0Z b a p).2=true
 ·have:=(h (Q6j b a p)).1 ⟨h1,rfl⟩
  rw [if_pos h1,if_pos this.1,this.2]
 ·have h2:¬(Q0Z l2 a p).2=true:=fun h2=> h1 ((h (Q6j l2 a p)).2 ⟨h2,rfl⟩).1
  rw [if_neg h1,if_neg h2]
theorem Qg7 {l:List Sl} {a p:Int} (c:Q0c l=true) (h:(Q0Z l a p).1 < 0):Qg9 l (Q2d l)∧(Q2d l).u=true:=by
 have g:=(Q07.1 c).1
 have b:(l.getD 0 sl0).u=true:=by
  cases b:(l.getD 0 sl0).u with
  |true=> rfl
  |false=> have:=Qb5 (show 0 < l.length by omega) b a p;omega
 rcases Q74 l l.length (Kaq _) with ⟨_,h2⟩|⟨j,f,h2,d⟩
 ·rw [h2 0 (by omega)] at b;cases b
 ·have e:Q2d l=l.getD j sl0:=h2
  exact ⟨⟨j,f,e.symm⟩,by rw [e];exact d⟩
theorem QbG {l:List Sl} {now a p v:Int} (h:Q0c l=true) (s:Q0h a p=true) (x:0≤now) (t:now≤100000) (hv:0≤v∧v < 6):Q4z (Q1K l now a p v) a p=v∧∃s0:Int × Int,∀d f,¬(d=a∧f=p)→(d,f)≠s0→Q4z (Q1K l now a p v) d f=Q4z l d f:=by
 have A:=(Q07.1 h).1;unfold Q1K
 by_cases hr:0≤(Q0Z l a p).1
 ·rw [if_pos hr]
  have h2:Q0c (Q4c l a p v (now+50))=true:=Q7Z h s (by omega) (by omega);exact ⟨Qca h2 hr (by omega),(0,0),fun d f c _=> Q9f (Qaa h h2 c)⟩
 ·rw [if_neg hr]
  have hs:=Qg7 h (show (Q0Z l a p).1 < 0 by omega);have g:=(Q60 h (a:=(Q2d l).a) (p:=(Q2d l).p)).2 ⟨hs.1,hs.2,rfl,rfl⟩
  obtain ⟨i,hi,e⟩:∃i,i < l.length∧Q0Z l (Q2d l).a (Q2d l).p=((i:Int),true):=by
   rcases Q1f l (by omega) (Q2d l).a (Q2d l).p with e|⟨k,w,⟨e,_⟩|⟨e,_⟩⟩
   ·rw [e] at g;exact absurd g.1 (by simp)
   ·rw [e] at g;exact absurd g.1 (by simp)
   ·exact ⟨k,w,e⟩
  have h2:=Q8U (a:=(Q2d l).a) (p:=(Q2d l).p) h;rw [Q5H e] at h2 ⊢;have z:=(Q07.1 h).2.1;obtain ⟨j,u,y⟩:=Q68 _ _ _ _ (DropInv.start (i:=i) (by omega) hi (Q2j h));have b:=Q2t l i;have n:=Qb5 (l:=Q1F l i) (by rw [b];exact u) y a p;have r:Q0c (Q4c (Q1F l i) a p v (now+50))=true:=Q7Z h2 s (by omega) (by omega);refine ⟨Qca r n (by rw [b];omega),((Q2d l).a,(Q2d l).p),fun d f c m=> ?_⟩;rw [Q9f (Qaa h2 r c)];exact Q9f (Qf3 h e (fun q=> m (by rw [q.1,q.2])))
def Q3a (P:Nat→Bool):Nat→Nat
 |0=> 0
 |k+1=> Q3a P k+if P k=true then 1 else 0
theorem Q8v {P:Nat→Bool}:∀k,(∀j,j < k→P j=false)→Q3a P k=0
 |0,_=> rfl
 |k+1,h=> by show Q3a P k+_=0;rw [Q8v k (fun j hj=> h j (by omega)),h k (by omega)];rfl
theorem QaE {P:Nat→Bool}:∀k,(∀i j,i < j→j < k→P i=true→P j=true→False)→Q3a P k≤1
 |0,_=> Kcq _
 |k+1,h=> by
  show Q3a P k+_≤1
  cases hp:P k with
  |false=> have:=QaE k (fun i j b h2=> h i j b (by omega));simpa using this
  |true=>
   rw [Q8v k (fun j a=> by
    cases hq:P j with
    |false=> rfl
    |true=> exact (h j k a (by omega) hq hp).elim)]
   simp
theorem Qef {l:List Sl} (h:Q0c l=true) {i j:Nat} (a:i < j) (b:j < (Q1k l).length):(Q1k l).getD i (0,0)≠(Q1k l).getD j (0,0):=by
 have c:(Q1k l).Nodup:=by
  unfold Q1k;rw [if_pos h];exact (QdA _).nodup_iff.2 (Qaj h)
 rw [List.getD_eq_getElem?_getD,List.getD_eq_getElem?_getD,List.getElem?_eq_getElem b,List.getElem?_eq_getElem (by omega)];exact List.pairwise_iff_getElem.1 c i j (by omega) b a
def QeV (m mr:Bm) (a b:Int) (L:List (Int × Int)) (k:Nat):Bool:= !(decide ((L.getD k (0,0)).1=a) && decide ((L.getD k (0,0)).2=b)) && !(decide (Q58 mr (L.getD k (0,0)).1 (L.getD k (0,0)).2=Q58 m (L.getD k (0,0)).1 (L.getD k (0,0)).2))
theorem QdG {m:Bm} {now a b v:Int} (h:Q5x m now a b v=true):Q58 (Q2p m now a b v) a b=v∧Q2h (Q2p m now a b v)=true∧(Q2p m now a b v).p=m.p∧Q3a (QeV m (Q2p m now a b v) a b (Q1k m.t)) (Q1k m.t).length≤1∧Q2h m=true:=by
 have B:=h;unfold Q5x at h;simp only [Bool.and_eq_true,decide_eq_true_eq] at h;obtain ⟨l,⟨n,g⟩,x,s,r⟩:=h;have f:=Q8C l n g x ⟨s,r⟩;have A:=QbG (Q1N l) x n g ⟨s,r⟩
 have e:Q2p m now a b v=Q4G m now a b v:=by unfold Q2p;rw [if_pos B]
 rw [e]
 have hi:∀c d,Q58 (Q4G m now a b v) c d=if Q0h c d=true then Q4z (Q1K m.t now a b v) c d else -1:=fun c d=> by unfold Q58;rw [f,Bool.true_and];rfl
 have C:∀c d,Q58 m c d=if Q0h c d=true then Q4z m.t c d else -1:=fun c d=> by unfold Q58;rw [l,Bool.true_and]
 refine ⟨by rw [hi,if_pos x];exact A.1,f,rfl, ?_,l⟩;obtain ⟨s0,hs⟩:=A.2;refine QaE _ (fun i j w y D E=> ?_)
 have key:∀k,QeV m (Q4G m now a b v) a b (Q1k m.t) k=true→(Q1k m.t).getD k (0,0)=s0:=by
  intro k u;unfold QeV at u;simp only [Bool.and_eq_true,Bool.not_eq_true',decide_eq_false_iff_not,Bool.and_eq_false_iff] at u;obtain ⟨z,h2⟩:=u
  by_cases hne:(Q1k m.t).getD k (0,0)=s0
  ·exact hne
  ·exfalso
   refine h2 ?_;rw [hi,C];have q:=hs ((Q1k m.t).getD k (0,0)).1 ((Q1k m.t).getD k (0,0)).2 (by rintro ⟨F,G⟩;rcases z with z|z <;> contradiction) hne;rw [q]
 exact Qef (Q1N l) w y ((key i D).trans (key j E).symm)
end Go.Proofs.YtpneolgdghbinaaGreat
