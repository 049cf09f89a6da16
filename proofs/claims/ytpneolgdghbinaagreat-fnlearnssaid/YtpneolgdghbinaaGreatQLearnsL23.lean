/- Several texts in one: SPlace, JMath, DoMath, STab3, SDelete, SDeed, SDraw2, SDraw3, SDraw4. -/
import Derived.Test.YtpneolgdghbinaaGreatQLearnsL22
import Derived.Test.YtpneolgdghbinaaGreatQLearnsL21
namespace Go.Proofs.YtpneolgdghbinaaGreat
open Go.ChangeShapes Go.WideShapes Go.ChangeAt Go.RowKit Go.Joins
set_option linter.unusedVariables false
set_option linter.unusedSimpArgs false
set_option maxRecDepth 100000
set_option maxHeartbeats 40000000
theorem Q47:AppOk Q1d 26 119:=⟨Tryz.underlying26,⟨_,_,Qc6,rfl,by decide⟩,by decide,fun a u hu=> by
 simp [Q1d] at hu;rcases hu with rfl|rfl|rfl <;> rfl⟩
theorem Qdk:AppOk Q4j 23 77:=⟨Tryz.underlying23,⟨_,_,QhS,rfl,by decide⟩,by decide,fun a u hu=> by
 simp [Q4j] at hu;rcases hu with rfl|rfl|rfl <;> rfl⟩
theorem Q1T (o:Option Addr) (cap:Nat) (l:List Bk) (w:World) (g:RdK w.heap.size w o l) (f:o=none→cap=0) (i:l.length≤1048576):
  Calls Tryz.prog 119 #[.slice o l.length cap] w fun e c=> ∃v,e=.returned v∧Q1w c w.heap.size v l∧Below w.heap.size w c:=by
 go_enter Tryz.func119,Tryz.ntmps119;go_wp2_with (at_builtin;refine Q08 Q47 rfl _ _ rfl w.heap.size (.slice none 0 0) [] rfl (World.ownsRow_nil _ _ _ _) o cap w.heap.size l l.length rfl rfl f g ?c1 (Kaq _) ?_)
 case c1=> simp;omega
 intro v b hv d _;have a:=Q01 (show Q1w b w.heap.size v l∧Below w.heap.size w b from ⟨hv,(Below.refl _ _).grown d (Kaq _) (fun k h=> by cases h)⟩);clear hv d;go_wp2;go_ret;exact ⟨_,rfl,a.out.1,a.out.2⟩
theorem Q9o (o:Option Addr) (cap:Nat) (l:List Cd) (w:World) (g:RdC w.heap.size w o l) (f:o=none→cap=0) (i:l.length≤1048576):
  Calls Tryz.prog 71 #[.slice o l.length cap] w fun e c=> ∃v,e=.returned v∧Qcu c w.heap.size v l∧Below w.heap.size w c:=by
 go_enter Tryz.func71,Tryz.ntmps71;go_wp2_with (at_builtin;refine Q08 Qdk rfl _ _ rfl w.heap.size (.slice none 0 0) [] rfl (World.ownsRow_nil _ _ _ _) o cap w.heap.size l l.length rfl rfl f g ?c1 (Kaq _) ?_)
 case c1=> simp;omega
 intro v b hv d _;have a:=Q01 (show Qcu b w.heap.size v l∧Below w.heap.size w b from ⟨hv,(Below.refl _ _).grown d (Kaq _) (fun k h=> by cases h)⟩);clear hv d;go_wp2;go_ret;exact ⟨_,rfl,a.out.1,a.out.2⟩
theorem Qh2 {l:List Bk} (h:Q0e l=true) {id:Int} {k:Nat} (a:k < l.length) (e:(l.getD k (0,0,false)).1=id):Q0j l id=k∧Q0z l id=true:=by
 have b:Q0j l id=k:=Q7y (Nat.le_of_lt a) (fun j c=> by rw [←e];exact Q5C h k a j c) (.inr (by rw [e];exact Int.lt_irrefl _));exact ⟨b,by unfold Q0z;rw [b,e];simp [a]⟩
theorem QgP {l:List Bk} {id:Int} (h:∀k,k < l.length→(l.getD k (0,0,false)).1≠id):Q0z l id=false:=by
 unfold Q0z
 by_cases hp:Q0j l id < l.length
 ·have:=h _ hp
  rw [show ((l.getD (Q0j l id) (0,0,false)).1==id)=false from beq_eq_false_iff_ne.2 this,Bool.and_false]
 ·simp [hp]
def Q7U (l:List Bk) (id:Int):Int:=if Q0z l id then (Q0j l id:Int) else -1
theorem Q6l (o:Option Addr) (cap:Nat) (l:List Bk) (id:Int) (w:World) (g:RdK w.heap.size w o l) (v:l.length≤1048576) (m:Q0e l=true):
  Calls Tryz.prog 146 #[.slice o l.length cap,.int .i64 id] w fun e u=> e=.returned (.int .i64 (Q7U l id))∧w=u:=by
 go_enter Tryz.func146,Tryz.ntmps146;go_wp2
 go_loop [5] (fun av=> ∃k:Nat,k≤l.length∧av=.int .i64 k∧Hid (∀j,j < k→(l.getD j (0,0,false)).1≠id))
  (fun av=> l.length - (intOf av).toNat)
 case atStart=> exact ⟨0,Kcq _,rfl,fun j p=> absurd p (Nat.not_lt_zero _)⟩
 case round=>
  obtain ⟨k,B,rfl,f⟩:=hrel
  by_cases hlt:k < l.length
  ·rcases g with g|⟨b,off,rfl,t,a⟩
   ·subst g;simp at hlt
   obtain ⟨x,y,z,c⟩:∃x y z,l.getD k (0,0,false)=(x,y,z):=⟨_,_,_,rfl⟩;have d:=(RdL.back (C:=w.heap.size) a k hlt).1;rw [c] at d;dsimp only at d
   have A:(k:Int) < (l.length:Int):=by omega
   by_cases hx:x=id
   ·have r:=Qh2 (id:=id) m hlt ((congrArg (fun q=> q.1) c).trans hx)
    have n:=Q01 (show Q7U l id=(k:Int) by unfold Q7U;rw [r.2,r.1];rfl)
    have s:(x==id)=true:=by simpa using hx
    clear c a r f hx;go_wp2;go_ret;exact ⟨by rw [n.out];rfl,rfl⟩
   ·have i:Hid (∀j,j < k+1→(l.getD j (0,0,false)).1≠id):=fun j p=> by
     rcases Nat.lt_succ_iff_lt_or_eq.1 p with h|h
     ·exact f.out j h
     ·rw [h,c];exact hx
    have s:(x==id)=false:=by simpa using hx
    clear c a hx;go_wp2
    go_round
    case rel=> exact ⟨k+1,by omega,by go_num,i⟩
    case measure=> simp [intOf];omega
  ·have e:k=l.length:=by omega
   have n:=Q01 (show Q7U l id= -1 by unfold Q7U;rw [QgP (e ▸ f.out)];rfl);subst e;clear f;go_wp2;go_ret;exact ⟨by rw [n.out];rfl,rfl⟩
theorem QgD {α:Type} {l:List α} {d b:α} (h:b∈l):∃k,k < l.length∧l.getD k d=b:=by
 obtain ⟨k,hk,e⟩:=List.getElem_of_mem h;exact ⟨k,hk,by simp [hk,e]⟩
theorem Q22 {l:List Bk}:Q0e l=true↔l.Pairwise (fun a b=> a.1 < b.1)∧∀b∈l,Q3X b.1 b.2.1=true:=by
 constructor
 ·intro h
  refine ⟨List.pairwise_iff_getElem.2 fun i j hi m f=> ?_,fun b n=> ?_⟩
  ·have:=Q5C h j m i f
   simpa [hi,m] using this
  ·obtain ⟨k,c,e⟩:=QgD (d:=(0,0,false)) n
   have:=Q1x.1 h k c;unfold QcI at this;rw [←e];simp only [Bool.and_eq_true] at this;exact this.1
 ·rintro ⟨p,h2⟩
  refine Q1x.2 fun k c=> ?_
  unfold QcI;simp only [Bool.and_eq_true];refine ⟨h2 _ (by simp [c]), ?_⟩
  rcases Nat.eq_zero_or_pos k with e|e
  ·subst e;simp
  ·have:=List.pairwise_iff_getElem.1 p (k - 1) k (by omega) c (by omega)
   have g:k - 1 < l.length:=by omega
   simp only [List.getD_eq_getElem?_getD,List.getElem?_eq_getElem c,List.getElem?_eq_getElem g,Option.getD_some];simp [this]
theorem Qbo (b:Bk) (l:List Bk) (id:Int):Q0j (b::l) id=if b.1 < id then Q0j l id+1 else 0:=by
 unfold Q0j;rw [List.takeWhile_cons]
 by_cases h:b.1 < id <;> simp [h]
theorem Q6g:∀(l:List Bk) (id:Int),∀a∈l.take (Q0j l id),a.1 < id
 |[],id,a,h=> by simp at h
 |b::l,id,a,h=> by
  rw [Qbo] at h
  by_cases hb:b.1 < id
  ·rw [if_pos hb,List.take_succ_cons] at h
   rcases List.mem_cons.1 h with e|e
   ·rw [e];exact hb
   ·exact Q6g l id a e
  ·rw [if_neg hb] at h;simp at h
theorem Q8z {l:List Bk} {id:Int} (h:l.Pairwise (fun a b=> a.1 < b.1)) (j:Q0z l id=false):∀b∈l.drop (Q0j l id),id < b.1:=by
 intro b d;have k:=Q4A l id
 rcases Nat.lt_or_ge (Q0j l id) l.length with c|f
 ·have m:=Q7k l id c
  unfold Q0z at j;simp only [c,decide_true,Bool.true_and,beq_eq_false_iff_ne] at j
  have h2:id < (l.getD (Q0j l id) (0,0,false)).1:=by omega
  rw [List.drop_eq_getElem_cons c] at d
  have e:l.getD (Q0j l id) (0,0,false)=l[Q0j l id]:=by simp [c]
  rw [e] at h2
  rcases List.mem_cons.1 d with g|g
  ·rw [g];exact h2
  ·have i:(l.drop (Q0j l id)).Pairwise (fun a b=> a.1 < b.1):=h.sublist (List.drop_sublist _ _)
   rw [List.drop_eq_getElem_cons c] at i;have:=(List.pairwise_cons.1 i).1 b g;omega
 ·rw [List.drop_eq_nil_of_le f] at d;simp at d
theorem QeE {l:List Bk} {id g:Int} (h:Q0e l=true) (n:Q0z l id=false) (f:Q3X id g=true):Q0e (l.take (Q0j l id)++(id,g,false)::l.drop (Q0j l id))=true:=by
 obtain ⟨i,h2⟩:=Q22.1 h;have k:=Q8z i n;refine Q22.2 ⟨?_, ?_⟩
 ·have e:l.take (Q0j l id)++l.drop (Q0j l id)=l:=List.take_append_drop _ _
  rw [←e] at i;obtain ⟨m,p,q⟩:=List.pairwise_append.1 i;refine List.pairwise_append.2 ⟨by simpa using m,List.pairwise_cons.2 ⟨by simpa using k,by simpa using p⟩, ?_⟩;intro a j b f
  rcases List.mem_cons.1 f with d|d
  ·rw [d];exact Q6g l id a j
  ·have:=Q6g l id a j;have:=k b d;omega
 ·intro b c
  rcases List.mem_append.1 c with e|e
  ·exact h2 b (List.mem_of_mem_take e)
  ·rcases List.mem_cons.1 e with e|e
   ·rw [e];exact f
   ·exact h2 b (List.mem_of_mem_drop e)
theorem Qer {l:List Bk} (n:Nat) (h:Q0e l=true):Q0e (l.take n++l.drop (n+1))=true:=by
 obtain ⟨c,h2⟩:=Q22.1 h
 have hs:(l.take n++l.drop (n+1)).Sublist l:=by
  have:=List.Sublist.append (List.Sublist.refl (l.take n)) (List.drop_sublist 1 (l.drop n));rw [List.drop_drop,List.take_append_drop] at this;exact this
 exact Q22.2 ⟨c.sublist hs,fun b a=> h2 b (hs.subset a)⟩
theorem Qhv {l:List Bk} {n:Nat} {a:Bk} (h:Q0e l=true) (j:n < l.length) (e:(l.getD n (0,0,false)).1=a.1) (f:Q3X a.1 a.2.1=true):Q0e (l.set n a)=true:=by
 obtain ⟨k,h2⟩:=Q22.1 h;refine Q22.2 ⟨?_, ?_⟩
 ·have g:(l.map (·.1)).Pairwise (fun a b=> a < b):=List.pairwise_map.2 k
  have d:(l.set n a).map (·.1)=l.map (·.1):=by
   apply List.ext_getElem
   ·simp
   ·intro i q p
    simp only [List.getElem_map,List.getElem_set]
    split
    ·next hi=> subst hi;rw [←e];simp [j]
    ·rfl
  have m:=d ▸ g;exact List.pairwise_map.1 m
 ·intro b c
  rcases List.mem_or_eq_of_mem_set c with c|c
  ·exact h2 b c
  ·rw [c];exact f
theorem Q5v {l m:List Bk} {k i g:Int} (h:doL l k i g=some m):(Q0z l i=false∧k=0∧m=l.take (Q0j l i)++(i,g,false)::l.drop (Q0j l i))∨(Q0z l i=true∧k=1∧m=l.set (Q0j l i) (i,g,(l.getD (Q0j l i) (0,0,false)).2.2))∨(Q0z l i=true∧k=2∧m=l.set (Q0j l i) (i,(l.getD (Q0j l i) (0,0,false)).2.1,true))∨(Q0z l i=true∧k≠0∧k≠1∧k≠2∧m=l.take (Q0j l i)++l.drop (Q0j l i+1)):=by
 unfold doL at h
 split at h
 ·cases h
 ·next a=>
  injection h with h
  by_cases h0:k=0
  ·subst h0
   simp only [beq_self_eq_true,Bool.not_eq_true] at a
   left;exact ⟨a,rfl,by rw [←h];simp⟩
  ·have c:(k==0)=false:=beq_eq_false_iff_ne.2 h0
   rw [c] at a
   have b:Q0z l i=true:=by cases h:Q0z l i <;> simp_all
   right
   by_cases h1:k=1
   ·left;exact ⟨b,h1,by rw [←h,if_neg h0,if_pos h1]⟩
   ·right
    by_cases h2:k=2
    ·left;exact ⟨b,h2,by rw [←h,if_neg h0,if_neg h1,if_pos h2]⟩
    ·right;exact ⟨b,h0,h1,h2,by rw [←h,if_neg h0,if_neg h1,if_neg h2]⟩
theorem Q96 {l m:List Bk} {k i g:Int} (h:doL l k i g=some m):m.length≤l.length+1:=by
 have hp:=Q4A l i
 rcases Q5v h with ⟨_,_,rfl⟩|⟨_,_,rfl⟩|⟨_,_,rfl⟩|⟨_,_,_,_,rfl⟩ <;> simp <;> omega
theorem Q5N {l:List Bk} {id:Int} (h:Q0z l id=true):Q0j l id < l.length:=by
 unfold Q0z at h;simp at h;exact h.1
theorem Q4E {l:List Bk} {id:Int} (h:Q0z l id=true):(l.getD (Q0j l id) (0,0,false)).1=id:=by
 unfold Q0z at h;simp only [Bool.and_eq_true,beq_iff_eq] at h;exact h.2
theorem QbJ {k i g:Int} (h:Q0J k i g=true):k=0∨k=1→Q3X i g=true:=by
 intro hk;unfold Q0J at h;unfold Q3X;simp at h ⊢;omega
theorem Q8I {l m:List Bk} {k i g:Int} (c:Q0e l=true) (j:Q0J k i g=true) (h:doL l k i g=some m):Q0e m=true:=by
 have b:=QbJ j
 rcases Q5v h with ⟨a,d,rfl⟩|⟨a,d,rfl⟩|⟨a,d,rfl⟩|⟨a,d,_,_,rfl⟩
 ·exact QeE c a (b (.inl d))
 ·exact Qhv c (Q5N a) (Q4E a) (b (.inr d))
 ·refine Qhv c (Q5N a) (Q4E a) ?_
  obtain ⟨n,h2⟩:=Q22.1 c;have f:=Q5N a;have:=h2 (l.getD (Q0j l i) (0,0,false)) (by simp [f]);rw [Q4E a] at this;exact this
 ·exact Qer _ c
def Q6M (s:Option (List Bk)) (c:Cd):Option (List Bk):=s.bind fun l=> if Q0J c.1 c.2.1 c.2.2=true then doL l c.1 c.2.1 c.2.2 else none
def Q1n (cs:List Cd) (q:Nat):Option (List Bk):=(cs.take q).foldl Q6M (some [])
theorem Qdc (cs:List Cd):Q1n cs 0=some []:=rfl
theorem Q3P {cs:List Cd} {q:Nat} (h:q < cs.length):Q1n cs (q+1)=Q6M (Q1n cs q) (cs.getD q (0,0,0)):=by
 unfold Q1n;rw [Q18 Q4j cs q h,List.foldl_append]
 rfl
theorem Qdv (cs:List Cd):cs.foldl Q6M none=none:=by
 induction cs with
 |nil=> rfl
 |cons c cs ih=> exact ih
theorem Q8G {cs:List Cd} {q r:Nat} (h:Q1n cs q=none) (a:q≤r):Q1n cs r=none:=by
 unfold Q1n at h ⊢
 have e:cs.take r=cs.take q++(cs.take r).drop q:=by
  have:=(List.take_append_drop q (cs.take r)).symm
  rwa [List.take_take,Nat.min_eq_left a] at this
 rw [e,List.foldl_append,h,Qdv]
theorem Q5t {cs:List Cd}:∀(q:Nat) (l:List Bk),q≤cs.length→Q1n cs q=some l→Q0e l=true∧l.length≤q
 |0,l,hq,h=> by rw [Qdc] at h;injection h with h;subst h;exact ⟨rfl,Kaq _⟩
 |q+1,l,hq,h=> by
  rw [Q3P (by omega)] at h
  cases hp:Q1n cs q with
  |none=> rw [hp] at h;cases h
  |some l0=>
   rw [hp] at h;obtain ⟨a,c⟩:=Q5t q l0 (by omega) hp;simp only [Q6M,Option.bind_some] at h
   split at h
   ·next b=>
    have:=Q96 h;exact ⟨Q8I a b h,by omega⟩
   ·cases h
def Q0s (key:Int) (cs:List Cd) (safe:Int):Bool:=Q1P key && decide (cs.length≤100) && decide (0≤safe) && decide (safe≤(cs.length:Int)) && (Q1n cs cs.length).isSome
def Q4Z (k i g fi:Int) (s:List Bk × Bool) (t:Nat) (b:Bk):List Bk × Bool:=
 if (t:Int)=fi then (if k=3 then (if s.2=false∧i < b.1 then (s.1++[(i,g,false)],true) else s) else if k=1 then ((if s.2=false∧i < b.1 then (s.1++[(i,g,false)],true) else s).1++[(b.1,g,b.2.2)],(if s.2=false∧i < b.1 then (s.1++[(i,g,false)],true) else s).2) else ((if s.2=false∧i < b.1 then (s.1++[(i,g,false)],true) else s).1++[(b.1,b.2.1,true)],(if s.2=false∧i < b.1 then (s.1++[(i,g,false)],true) else s).2))
 else ((if s.2=false∧i < b.1 then (s.1++[(i,g,false)],true) else s).1++[b],(if s.2=false∧i < b.1 then (s.1++[(i,g,false)],true) else s).2)
def Q5k (l:List Bk) (k i g fi:Int):Nat→List Bk × Bool
 |0=> ([], !(k==0))
 |t+1=> Q4Z k i g fi (Q5k l k i g fi t) t (l.getD t (0,0,false))
def Qir (s:List Bk × Bool) (i g:Int):List Bk:=if s.2=true then s.1 else s.1++[(i,g,false)]
theorem Q5p {l:List Bk} {t:Nat} (h:t < l.length):l.take (t+1)=l.take t++[l.getD t (0,0,false)]:=Q18 Q1d l t h
theorem Q3V {l:List Bk} {t n:Nat} (h:t < l.length) (hn:n≤t):(l.take (t+1)).drop n=(l.take t).drop n++[l.getD t (0,0,false)]:=by
 rw [Q5p h,List.drop_append_of_le_length (by simp;omega)]
theorem QdW {l:List Bk} {i g:Int} (k:Q0e l=true) (j:Q0z l i=false):∀t,t≤l.length→Q5k l 0 i g (-1) t=if t≤Q0j l i then (l.take t,false) else (l.take (Q0j l i)++(i,g,false)::(l.take t).drop (Q0j l i),true)
 |0,_=> by simp [Q5k]
 |t+1,ht=> by
  have n:=QdW (g:=g) k j t (by omega)
  have a:t < l.length:=by omega
  have b:¬((t:Int)= -1):=by omega
  have f:=Q8z (Q22.1 k).1 j;unfold Q5k;rw [n];unfold Q4Z;rw [if_neg b]
  rcases Nat.lt_trichotomy t (Q0j l i) with h|h|h
  ·have m:=Q7S l i t h
   have c:t≤Q0j l i:=by omega
   have d:t+1≤Q0j l i:=by omega
   have p:¬i < (l.getD t (0,0,false)).1:=by omega
   simp only [if_pos c,if_pos d,p,and_false,if_false];rw [Q5p a]
  ·have hm:l.getD t (0,0,false)∈l.drop (Q0j l i):=by
    have e:l.getD t (0,0,false)=l[t]:=by simp [a]
    rw [←h,List.drop_eq_getElem_cons a,e];exact List.mem_cons_self
   have m:=f _ hm
   have c:t≤Q0j l i:=by omega
   have d:¬t+1≤Q0j l i:=by omega
   simp only [if_pos c,if_neg d,m,and_self,if_true];rw [Q3V a (by omega),←h];simp
  ·have c:¬t≤Q0j l i:=by omega
   have d:¬t+1≤Q0j l i:=by omega
   simp only [if_neg c,if_neg d,Bool.true_eq_false,false_and,if_false];rw [Q3V a (by omega)];simp
theorem Qbu {l:List Bk} {k i g:Int} {pl:Nat} {a:Bk} (j:(k==0)=false) (n:k≠3) (m:∀b:Bk,b=l.getD pl (0,0,false)→(if k=1 then (b.1,g,b.2.2) else (b.1,b.2.1,true))=a):∀t,t≤l.length→Q5k l k i g (pl:Int) t=((l.set pl a).take t,true)
 |0,_=> by simp [Q5k,j]
 |t+1,ht=> by
  have p:=Qbu (g:=g) (i:=i) j n m t (by omega)
  have c:t < l.length:=by omega
  unfold Q5k;rw [p];unfold Q4Z
  have d:¬((true=false)∧i < (l.getD t (0,0,false)).1):=by rintro ⟨h,_⟩;cases h
  rw [Q5p (l:=l.set pl a) (by simpa using c)]
  by_cases h:t=pl
  ·subst h
   have e:=m _ rfl;rw [if_pos rfl,if_neg n];simp only [d,if_false]
   have f:(l.set t a).getD t (0,0,false)=a:=by simp [c]
   rw [f,←e]
   by_cases h1:k=1
   ·rw [if_pos h1,if_pos h1]
   ·rw [if_neg h1,if_neg h1]
  ·have q:¬((t:Int)=(pl:Int)):=by omega
   rw [if_neg q];simp only [d,if_false]
   have f:(l.set pl a).getD t (0,0,false)=l.getD t (0,0,false):=by
    simp only [List.getD_eq_getElem?_getD];rw [List.getElem?_set_ne (fun e=> h e.symm)]
   rw [f]
theorem Qg0 {l:List Bk} {i g:Int} {pl:Nat}:∀t,t≤l.length→Q5k l 3 i g (pl:Int) t=(if t≤pl then l.take t else l.take pl++(l.take t).drop (pl+1),true)
 |0,_=> by simp [Q5k]
 |t+1,ht=> by
  have j:=Qg0 (l:=l) (g:=g) (i:=i) (pl:=pl) t (by omega)
  have c:t < l.length:=by omega
  unfold Q5k;rw [j];unfold Q4Z
  have f:¬((true=false)∧i < (l.getD t (0,0,false)).1):=by rintro ⟨h,_⟩;cases h
  simp only [f,if_false,if_true]
  rcases Nat.lt_trichotomy t pl with h|h|h
  ·have a:t≤pl:=by omega
   have b:t+1≤pl:=by omega
   have d:¬((t:Int)=(pl:Int)):=by omega
   simp only [if_pos a,if_pos b,if_neg d];rw [Q5p c]
  ·have a:t≤pl:=by omega
   have b:¬t+1≤pl:=by omega
   have d:(t:Int)=(pl:Int):=by omega
   simp only [if_pos a,if_neg b,if_pos d];rw [h];simp
  ·have a:¬t≤pl:=by omega
   have b:¬t+1≤pl:=by omega
   have d:¬((t:Int)=(pl:Int)):=by omega
   simp only [if_neg a,if_neg b,if_neg d];rw [Q3V c (by omega)];simp
theorem QfO {l m:List Bk} {k i g:Int} (p:Q0e l=true) (t:Q0J k i g=true) (h:doL l k i g=some m):Qir (Q5k l k i g (Q7U l i) l.length) i g=m:=by
 have j:=Q4A l i;unfold Q7U
 rcases Q5v h with ⟨c,d,hm⟩|⟨c,d,hm⟩|⟨c,d,hm⟩|⟨c,d,r,s,hm⟩
 ·subst d
  rw [c];simp only [Bool.false_eq_true,if_false];rw [QdW p c l.length (Kaq _),hm];unfold Qir
  by_cases hle:l.length≤Q0j l i
  ·rw [if_pos hle]
   have e:Q0j l i=l.length:=by omega
   simp [e]
  ·rw [if_neg hle]
   simp
 ·subst d
  rw [c,if_pos rfl,Qbu (pl:=Q0j l i) (a:=(i,g,(l.getD (Q0j l i) (0,0,false)).2.2)) rfl (by decide) (fun b f=> by rw [f,if_pos rfl,Q4E c]) l.length (Kaq _),hm];unfold Qir;rw [if_pos rfl];exact List.take_of_length_le (by simp)
 ·subst d
  rw [c,if_pos rfl,Qbu (pl:=Q0j l i) (a:=(i,(l.getD (Q0j l i) (0,0,false)).2.1,true)) rfl (by decide) (fun b f=> by rw [f,if_neg (by decide),Q4E c]) l.length (Kaq _),hm];unfold Qir;rw [if_pos rfl];exact List.take_of_length_le (by simp)
 ·have n:k=3:=by have:=Q8A.1 t;unfold QfG at this;omega
  subst n;rw [c,if_pos rfl,Qg0 l.length (Kaq _),hm];have q:=Q5N c;rw [if_neg (by omega)];simp [Qir]
theorem Q5J (l:List Bk) (k i g fi:Int):∀t,(Q5k l k i g fi t).1.length≤2 * t
 |0=> by simp [Q5k]
 |t+1=> by
  have a:=Q5J l k i g fi t;unfold Q5k Q4Z
  split
  ·split
   ·split <;> simp <;> omega
   ·split
    ·split <;> simp <;> omega
    ·split <;> simp <;> omega
  ·split <;> simp <;> omega
theorem QeQ {k i g fi:Int} {s:List Bk × Bool} {t:Nat} {b:Bk} (h:(Q4Z k i g fi s t b).2=false):s.2=false:=by
 cases hs:s.2 with
 |false=> rfl
 |true=>
  exfalso
  unfold Q4Z at h;simp only [hs,Bool.true_eq_false,false_and,if_false] at h
  split at h
  ·split at h
   ·rw [hs] at h;cases h
   ·split at h <;> cases h
  ·cases h
theorem Q8S {l:List Bk} {k i g fi:Int}:∀t,(Q5k l k i g fi t).2=false→(k==0)=true
 |0,h=> by simpa [Q5k] using h
 |t+1,h=> Q8S (l:=l) (i:=i) (g:=g) (fi:=fi) t (QeQ h)
theorem Q5u {w:World} {f:Array Oper} {rest:List Oper} {o:Oper} {a:Act} {Q:Exit→Act→World→Prop} (k:o.guard=none) (s x:Operand)
  (C:o.op=.call { callee:=.builtin .append,args:=#[s,x],argTypes:=#[51,51] }) (base:Nat) (v:Value) (hs:List Hd) (A:a.eval s=v) (d:ownL Q0H 47 w base v hs)
  (n:Nat) (p:Option Addr) (m c:Nat) (B:a.eval x=.slice (some ⟨n,0,none⟩) 1 1) (z:w.cell? ⟨n,0,none⟩=some (.slice p m c)) (t:hs.length≤1000) (b:base≤w.heap.size)
  (h:∀v' g,ownL Q0H 47 g base v' (hs++[(p,m,c)])→w.grownBy g v.ownBlock→wpList Tryz.prog f Q rest (a.put o.dst v') g):wpList Tryz.prog f Q (o::rest) a w:=by
 obtain ⟨y,hi,q,l,r⟩:=info_parts Q6V;refine wpList_append_own _ k s x 51 C base 47 y (.slice none 0 0) 1 24 Tryz.underlying51 hi q l r rfl (by decide) v _ _ A d ⟨n,0,none⟩ 1 1 [.slice p m c] B rfl ?_ (by simp [Value.oneCell']) (by unfold maxLen;omega) (by omega) b ?_
 ·intro j u i
  match j,i with
  |0,i=> simp at i;subst i;exact z
 ·intro v' g D h2 _
  refine h v' g ?_ h2;unfold ownL
  simpa [Q0H] using D
theorem Qfl {key:Int} {l:List Bk} (c:Q1P key=true) (d:Q0e l=true) (b:Nat) (f:b < 8):Q8i (Q5T (scL key b l))=Q19 key b l:=by
 have a:(0:Int)≤(b:Int):=by omega
 have h2:(b:Int) < 8:=by omega
 rw [Q19,if_pos ⟨c,⟨a,h2⟩,d⟩]
theorem Q1L (key:Int) (o:Option Addr) (cap:Nat) (l:List Bk) (w:World) (U:RdK w.heap.size w o l) (j:l.length≤1000) (H:Q1P key=true) (N:Q0e l=true):
  Calls Tryz.prog 102 #[.int .i64 key,.slice o l.length cap] w fun e B=> ∃t u hs,e=.returned (.slice t 8 u)∧ownL Q0H 47 B w.heap.size (.slice t 8 u) hs∧Tab (fun b=> Q19 key b l) 8 B w.heap.size hs∧Below w.heap.size w B:=by
 have T:=Q01 (fun (b:Nat) (R:b < 8) W h=> (Qfl H N b R) ▸ Qdr key b o cap l W h j H ⟨by omega,by omega⟩ N);go_enter Tryz.func102,Tryz.ntmps102;go_wp2
 go_loopw [5,6] (fun out iv wr=> ∃(k:Nat) (hs:List Hd),k≤8∧iv=.int .i64 k∧ownL Q0H 47 wr w.heap.size out hs∧Tab (fun b=> Q19 key b l) k wr w.heap.size hs∧Below w.heap.size w wr)
  (fun _ iv _=> 8 - (intOf iv).toNat)
 case atStart=> exact ⟨0,[],Kcq _,rfl,World.ownsRow_nil _ _ _ _,Tab.nil _ _ _,Below.refl _ _⟩
 case round=>
  rename_i out _
  obtain ⟨k,hs,X,rfl,a,d,c⟩:=hrel
  by_cases hlt:k < 8
  ·have J:=T.out k hlt wr ((U.kept c (Kaq _)).le c.size)
   have P:=Q01 a;have E:=Q01 d;have s:=Q01 c
   have z1:(k:Int) < 8:=by omega
   clear a d c;go_wp2_with fail;refine J.mono ?_;rintro e V ⟨Y,rfl,f,g⟩;obtain ⟨I,G,F,_⟩:=ownL.open (L:=Q2w) f;rw [F] at f ⊢;have C:=Q01 ((E.out.kept g).snoc E.out.lt s.out.size f);have m:=Q01 (Q03 P.out g);have n:=Q01 (s.out.trans (g.mono s.out.size))
   have A:hs.length≤1000:=by rw [E.out.len];omega
   have z:=n.out.size;clear f g J F;generalize (Q19 key k l).length=q at *;go_wp2_with (at_builtin;refine Q5u rfl (.tmp 11) (.tmp 16) rfl w.heap.size _ hs rfl (m.out.alloc _) V.heap.size I q G rfl ?c1 A ?c2 ?_)
   case c1=> simp
   case c2=> simp;omega
   intro Z w5 r i;have O:=Q01 (World.ownsRow.alloc m.out (.cells #[.slice I q G] 47));have x:=Q01 (Tab.other (C.out.kept ((Below.refl _ _).alloc (Kaq _) _)) O.out QgQ i);have D:=Q01 ((n.out.alloc z _).grown i (by simp;omega) (fun k h=> (O.out.lt k h).1));have y:=Q01 r;clear i r;go_wp2;go_roundw
   case rel=> exact ⟨k+1,_,by omega,by go_num,y.out,x.out,D.out⟩
   case measure=> simp [intOf];omega
  ·have e:k=8:=by omega
   subst e;obtain ⟨t,u,v,_⟩:=ownL.open (L:=Q0H) a;have p:=d.len;rw [v,p] at a;rw [v,p];have M:=Q01 (And.intro a d);have s:=Q01 c;clear a d c v;go_wp2;go_ret;exact ⟨t,u,hs,rfl,M.out.1,M.out.2,s.out⟩
end Go.Proofs.YtpneolgdghbinaaGreat
namespace Go.Proofs.YtpneolgdghbinaaGreat
open Go.ChangeShapes Go.WideShapes Go.ChangeAt Go.RowKit Go.Joins
set_option linter.unusedVariables false
set_option linter.unusedSimpArgs false
set_option maxRecDepth 100000
set_option maxHeartbeats 40000000
variable {α:Type}
theorem RdL.drop0 {L:Lay α} {C:Nat} {w:World} {b off:Nat} {l:List α} (h:RdL L C w (some ⟨b,off,none⟩) l) (k q:Nat) (n:q=off+k * L.k):RdL L C w (some ⟨b,q,none⟩) (l.drop k):=by
 subst n
 rcases h with h|⟨g,a,f,d,r⟩
 ·left;rw [h];simp
 ·obtain ⟨rfl,rfl⟩:b=g∧off=a:=by simpa using f
  refine .inr ⟨b,off+k * L.k,rfl,d,fun i hi j m=> ?_⟩
  have c:k+i < l.length:=by simp at hi;omega
  have:=r (k+i) c j m;rw [Nat.add_mul,←Nat.add_assoc] at this;rw [this]
  congr 2
  simp [List.getD_eq_getElem?_getD,List.getElem?_drop]
theorem Q8K {L:Lay α} {e:TypeId} {w:World} {base g cap:Nat} {l:List α} (hv:ownL L e w base (.slice (some ⟨g,0,none⟩) l.length cap) l) (i:Nat) (hi:i≤l.length):ownL L e w base (.slice (some ⟨g,0,none⟩) i cap) (l.take i):=by
 have a:(l.take i).length=i:=by simp;omega
 rcases hv.2 with ⟨b,_⟩|⟨q,r,c,b,j,n,s,h,p,m⟩
 ·cases b
 ·injection b with b _ h3
  injection b with b;injection b with b _ _;subst b h3;refine ⟨by rw [Q0n],.inr ⟨g,cap,c,by rw [a],j,n,by omega,h,p, ?_⟩⟩;rw [a]
  have d:c.toList.take (i * L.k)=(c.toList.take (l.length * L.k)).take (i * L.k):=by
   rw [List.take_take,Nat.min_eq_left (Nat.mul_le_mul_right _ hi)]
  rw [d,m]
  have f:l.flatMap L.cs=(l.take i).flatMap L.cs++(l.drop i).flatMap L.cs:=by rw [←List.flatMap_append,List.take_append_drop]
  rw [f];exact List.take_left' (by rw [Q0n,a])
theorem Q6O {L:Lay α} {t e:TypeId} (ok:AppOk L t e) {i:Array Oper} {o:Oper} {a:Act} {w:World} {K:Act→World→Prop} {Q:Exit→Act→World→Prop} {E:Prop} (p:o.guard=none) (s x:Operand)
  (N:o.op=.call { callee:=.builtin .append,args:=#[s,x],argTypes:=#[t,t] }) (base g n cap:Nat) (u:List α) (v:n=u.length) (hs:a.eval s=.slice (some ⟨g,0,none⟩) n cap) (f:ownL L e w base (.slice (some ⟨g,0,none⟩) n cap) u)
  (r:Addr) (c C:Nat) (l:List α) (m:Nat) (hm:m=l.length) (G:a.eval x=.slice (some r) m c) (H:RdL L C w (some r) l) (d:n+m≤cap)
  (h:∀j,ownL L e j base (.slice (some ⟨g,0,none⟩) (n+m) cap) (u++l)→w.grownBy j (some g)→K (a.put o.dst (.slice (some ⟨g,0,none⟩) (n+m) cap)) j):if Region.wanted o (yielded i a.tmps)=true then Oper.wp Tryz.prog o a w K Q else E:=by
 subst hm v
 have A:Region.wanted o (yielded i a.tmps)=true:=by simp [Region.wanted,p]
 rw [if_pos A];obtain ⟨z,y,b,D,I⟩:=ok.info;obtain ⟨B,hi,J,q,M⟩:=info_parts b;obtain ⟨j,F,O,h2⟩:=run_append_fits (P:=Tryz.prog) w base t o.type e B L.k ok.under hi q g _ cap _ f r l.length c (l.flatMap L.cs) (Q0n L l) (H.news ok.pos) (Q5n ok.one l) d;unfold Oper.wp execOp;simp only [N,resolve,invoke,builtin,Sem.run_bind,Sem.run_pure,Result.andThen_ok,List.map_toArray,List.map_cons,List.map_nil,hs,G,F];exact h j (by unfold ownL;simpa using O) h2
theorem Qh0 (w:World):(zeroValue 119).run Tryz.prog w=.ok (.agg #[.int .i64 0,.int .i64 0,.bool false]) w:=by kernel_rfl
theorem QaV {w:World} {base g cap n:Nat} {j:List Value} (hv:w.ownsRow base 119 3 (.slice (some ⟨g,0,none⟩) n cap) n j) (i:n+1≤cap) (m:TypeId) (c:Nat):
  ∃h,Sem.run Tryz.prog (Builtin.clear_ #[26] m #[.slice (some ⟨g,n * 3,none⟩) 1 c]) w=.ok (.tuple #[]) h∧h.ownsRow base 119 3 (.slice (some ⟨g,0,none⟩) n cap) n j∧w.grownBy h (some g):=by
 rcases hv.2 with ⟨a,_⟩|⟨u,x,b,a,r,l,q,p,y,s⟩
 ·cases a
 ·injection a with a _ h3
  injection a with a;injection a with a _ _;subst a h3
  have f:(Builtin.zeroCells (Value.agg #[.int .i64 0,.int .i64 0,.bool false]).cells 1).toList=[.int .i64 0,.int .i64 0,.bool false]:=by first|kernel_rfl|(simp [Builtin.zeroCells,Value.cells];done)|decide
  have d:=run_storeCells_at (P:=Tryz.prog) g (n * 3) 119 [.int .i64 0,.int .i64 0,.bool false] 0 b w l (by simp;omega) (by intro v hv;simp at hv;rcases hv with rfl|rfl|rfl <;> rfl);refine ⟨_,by simp [Builtin.clear_,run_underlying Tryz.underlying26,Qh0,f,d];rfl,⟨hv.1,.inr ⟨g,cap,_,rfl,r,setRow_heap w g b _ 119 _ l,q,p, ?_, ?_⟩⟩,⟨rfl,rfl,rfl,by simp,fun k _ t=> setRow_other w g k _ (fun e=> t (by simp [e]))⟩⟩
  ·simp;omega
  ·simp only [Nat.add_zero,List.append_assoc]
   rw [List.take_append_of_le_length (by simp;omega),List.take_take,Nat.min_self];exact s
theorem Q6F (base g cap i:Nat) (l:List Bk) (w:World) (hv:Q1w w base (.slice (some ⟨g,0,none⟩) l.length cap) l) (hi:i < l.length) (T:l.length≤1000):
  Calls Tryz.prog 161 #[.slice (some ⟨g,0,none⟩) l.length cap,.int .i64 i,.int .i64 ((i:Int)+1)] w fun e x=> ∃v,e=.returned v∧Q1w x base v (l.take i++l.drop (i+1))∧w.grownBy x (some g):=by
 have u:l.length≤cap:=by
  rcases hv.2 with ⟨h1,_⟩|⟨J,P,D,h1,_,_,V,_⟩
  ·cases h1
  ·injection h1 with _ _ h3;omega
 have G:(i:Int) < (l.length:Int):=by omega
 have U:(i:Int)+1≤(l.length:Int):=by omega
 have N:0≤(i:Int)+1:=by omega
 have O:i+1≤l.length:=by omega
 have E:i≤l.length:=by omega
 have H:i≤cap:=by omega
 have M:i+1≤cap:=by omega
 have R:((i:Int)==(i:Int)+1)=false:=by simp;omega
 have y:=Q01 hv;have FA:Q1w w.drew base (.slice (some ⟨g,0,none⟩) i cap) (l.take i):=Q8K hv i E
 have FR:RdK w.heap.size w.drew (if cap=i+1 then some ⟨g,0,none⟩ else some ⟨g,(i+1) * 3,none⟩) (l.drop (i+1)):=by
  have A:RdK w.heap.size w (some ⟨g,0,none⟩) l:=ownL.rd (L:=Q1d) hv
  split
  ·left;exact List.drop_eq_nil_of_le (by omega)
  ·have h:=A.drop0 (i+1) ((i+1) * 3) (by simp [Q1d])
   exact h
 have n:=Q01 FA;have j:=Q01 FR;clear FA FR hv;go_enter Tryz.func161,Tryz.ntmps161;go_wp2
 obtain ⟨q,k⟩:∃q,(if cap=i+1 then some (⟨g,0,none⟩:Addr) else some ⟨g,(i+1) * 3,none⟩)=some q:=by split <;> exact ⟨_,rfl⟩
 rw [k] at j
 go_region_law (first|(refine Q6O Q47 rfl _ _ rfl base g i cap (l.take i) ?h0 rfl n.out q (cap - (i+1)) w.heap.size (l.drop (i+1)) (l.length - (i+1)) ?h1 rfl j.out ?h2 ?_;(case h0=> (simp;omega));(case h1=> simp);(case h2=> omega);intro C a d;have a:=Q01 a;have d:=Q01 d))
 all_goals (
  have r:l.length=(i+(l.length - (i+1)))+1:=by omega
  generalize i+(l.length - (i+1))=n' at *
  have f:C.ownsRow base 119 3 (.slice (some ⟨g,0,none⟩) n' cap) n' ((l.take i++l.drop (i+1)).flatMap Q1d.cs):=by
   have h:=a.out;unfold ownL at h
   rwa [show (l.take i++l.drop (i+1)).length=n' by simp;omega] at h
  have s:=Q01 f
  have F:n'+1≤cap:=by omega
  have I:¬(cap=n'):=by omega
  obtain ⟨B,z,b,c⟩:=QaV f F 0 (cap - n');have m:=Q01 b;have p:=Q01 c;have t:=Q01 r;clear n j k y s f a b c;go_wp2;go_ret;refine ⟨_,rfl, ?_, ?_⟩
  ·have h:=m.out
   unfold Q1w ownL;rw [show (l.take i++l.drop (i+1)).length=n' by have:=t.out;simp;omega];exact h
  ·have h:=d.out
   exact World.grownBy.trans ⟨h.os,h.tape,h.output,h.size,h.block⟩ p.out)
end Go.Proofs.YtpneolgdghbinaaGreat
namespace Go.Proofs.YtpneolgdghbinaaGreat
open Go.ChangeShapes Go.WideShapes Go.ChangeAt Go.RowKit Go.Joins
set_option linter.unusedVariables false
set_option linter.unusedSimpArgs false
set_option maxRecDepth 100000
set_option maxHeartbeats 40000000
theorem Qi0 {w a:World} {k i g:Int} {t:TypeId} (h:Below (w.alloc (.cells #[.int .i64 k,.int .i64 i,.int .i64 g] t)).heap.size (w.alloc (.cells #[.int .i64 k,.int .i64 i,.int .i64 g] t)) a) (o:Obj):
  a.cell? ⟨w.heap.size,0,none⟩=some (.int .i64 k)∧a.cell? ⟨w.heap.size,1,none⟩=some (.int .i64 i)∧a.cell? ⟨w.heap.size,2,none⟩=some (.int .i64 g)∧
  (a.alloc o).cell? ⟨w.heap.size,0,none⟩=some (.int .i64 k)∧(a.alloc o).cell? ⟨w.heap.size,2,none⟩=some (.int .i64 g)∧Below w.heap.size w a∧Below w.heap.size w (a.alloc o):=by
 have hs:w.heap.size < (w.alloc (.cells #[.int .i64 k,.int .i64 i,.int .i64 g] t)).heap.size:=by simp
 have b:w.heap.size < a.heap.size:=Kbq hs h.size;have c:Below w.heap.size w a:=((Below.refl _ _).alloc (Kaq _) _).trans (h.mono (by omega))
 have e:∀q,a.cell? ⟨w.heap.size,q,none⟩=(w.alloc (.cells #[.int .i64 k,.int .i64 i,.int .i64 g] t)).cell? ⟨w.heap.size,q,none⟩:=fun q=> h.cell hs
 have d:∀q,(a.alloc o).cell? ⟨w.heap.size,q,none⟩=a.cell? ⟨w.heap.size,q,none⟩:=fun q=> ((Below.refl a.heap.size a).alloc (Kaq _) o).cell b
 refine ⟨?_, ?_, ?_, ?_, ?_,c,c.alloc (by omega) o⟩
 all_goals (simp only [d,e];unfold World.cell?;simp only [heap_alloc_new];rfl)
def Q9s (k i g:Int):Value:=
 if k=0 then .iface 221 (.agg #[.int .i64 i,.int .i64 g]) else
 if k=1 then .iface 222 (.agg #[.int .i64 i,.int .i64 g]) else
 if k=2 then .iface 224 (.agg #[.int .i64 i]) else .iface 225 (.agg #[.int .i64 i])
theorem Q4S (k i g:Int) (w:World):
  Calls Tryz.prog 116 #[cmd k i g] w fun e h=> e=.returned (.tuple #[if Q0J k i g then Q9s k i g else .nilIface,.bool (Q0J k i g)])∧Below w.heap.size w h:=by
 have d:=fun w=> Q3O k i g w
 generalize Q0J k i g=t at d ⊢
 cases t
 all_goals (
  go_enter Tryz.func116,Tryz.ntmps116;go_wp2_with (first|(go_at_call 73;refine (d _).mono ?_;rintro e m ⟨rfl,a⟩;obtain ⟨p,j,c2,l,n,c,b⟩:=Qi0 a (.cells #[.int .i64 i] 219);have f:=Q01 c;have HB':=Q01 b;clear a c b))
  all_goals go_ret2
  all_goals refine ⟨?_,by first|exact f.out|exact HB'.out⟩)
 all_goals (try simp only [beq_iff_eq,beq_eq_false_iff_ne,ne_eq] at *)
 all_goals simp_all [Q9s]
theorem Q3D {w w':World} {k g o:Nat} (h:w.grownBy w' (some k)) (hg:g < w.heap.size) (hne:g≠k):w'.cell? ⟨g,o,none⟩=w.cell? ⟨g,o,none⟩:=
 World.cell?_of_block (w:=w) (h.block g hg (by simp [hne]))
theorem Q0P (k g:Nat) (b:List Int) (w:World) (j:isCur k w) (r:g < w.heap.size) (h:g≠k) (v:0 < b.length) (A:b.length≤1000) (a:∀q,q < b.length→w.cell? ⟨g,q,none⟩=some (.int .i64 (b.getD q 0))):
  Calls Tryz.prog 55 #[.pointer (some ⟨k,0,none⟩),.slice (some ⟨g,0,none⟩) b.length b.length] w fun e l=> ∃q:Nat,q < b.length∧e=.returned (.int .i64 (b.getD q 0))∧isCur k l∧w.grownBy l (some k):=by
 generalize hn:b.length=n at *;go_enter Tryz.func55,Tryz.ntmps55;go_wp2_with fail;refine (Q0p k (n:Int) _ j (by omega) (by omega)).mono ?_;rintro e z ⟨x,rfl,i,t,f,d⟩;obtain ⟨q,rfl⟩:=Int.eq_ofNat_of_zero_le i
 have m:q < n:=by omega
 have c:=(Q3D d r h).trans (a q m);have s:=Q01 f;have p:=Q01 d;clear j f d a;generalize hy:b.getD q 0=y at *;have u:=Q01 hy;clear hy;go_wp2;go_ret;exact ⟨q,m,Q0L u.out.symm,s.out,p.out⟩
theorem Qi7 (w:World) (x:Int) (e:TypeId):Rd (w.alloc (.cells #[.int .u8 x] e)) (some ⟨w.heap.size,0,none⟩) [x]:=by
 right
 refine ⟨w.heap.size,0,rfl,by simp,fun i hi=> ?_⟩
 have:i=0:=by simpa using hi
 subst this;simp
theorem Q2Z {w a:World} {base k:Nat} {v:Value} {l:List Int} (h:ownB w base v l) (b:w.grownBy a (some k)) (c:k < base):ownB a base v l:=
 h.kept b (by
  cases hob:v.ownBlock with
  |none=> exact .inl rfl
  |some j=> right;have:=(h.lt j hob).1;intro e;simp at e;omega)
theorem isCur.below {k:Nat} {w b:World} (h:isCur k w) (a:Below (k+1) w b):isCur k b:=by
 obtain ⟨o,cap,l,i,d,c⟩:=h
 exact ⟨o,cap,l,i,d,⟨(a.cell (p:=⟨k,0,none⟩) (Nat.lt_succ_self _)).trans c.c0,(a.cell (p:=⟨k,1,none⟩) (Nat.lt_succ_self _)).trans c.c1,(a.cell (p:=⟨k,2,none⟩) (Nat.lt_succ_self _)).trans c.c2,
  (a.frozen (p:=⟨k,1,none⟩) (Nat.lt_succ_self _)).trans c.f1,(a.frozen (p:=⟨k,2,none⟩) (Nat.lt_succ_self _)).trans c.f2,c.ml,c.rd.kept a (Nat.le_succ _),c.b8,c.i0,c.i1⟩⟩
theorem isCur.alloc {k:Nat} {w:World} (h:isCur k w) (hk:k < w.heap.size) (o:Obj):isCur k (w.alloc o):=h.below ((Below.refl _ _).alloc hk o)
theorem Q0t (w:World) (o:Obj) (k:Nat):w.grownBy (w.alloc o) (some k):=World.grownBy_alloc w o (some k)
theorem Q1v (k:Nat) (n:Int) (w:World) (c:isCur k w) (g:0 < n) (i:n≤1073741824):
  Calls Tryz.prog 79 #[.pointer (some ⟨k,0,none⟩),.int .i64 n] w fun e d=> ∃x:Bool,e=.returned (.bool x)∧isCur k d∧w.grownBy d (some k):=by
 go_enter Tryz.func79,Tryz.ntmps79;go_wp2_with fail;refine (Q0p k n _ c g i).mono ?_;rintro e j ⟨x,rfl,_,_,b,a⟩;have h:=Q01 b;have f:=Q01 a;clear c b a;go_wp2;go_ret;exact ⟨_,rfl,h.out,f.out⟩
theorem Q1U (k:Nat) (w:World) (B:isCur k w) (q:k < w.heap.size):
  Calls Tryz.prog 130 #[.pointer (some ⟨k,0,none⟩)] w fun e t=> ∃a b:Int,e=.returned (.agg #[.int .i64 a,.int .i64 b])∧(1≤a∧a≤3)∧(80≤b∧b≤82)∧isCur k t∧w.grownBy t (some k):=by
 have i:=B.alloc q (.cells #[.int .i64 0,.int .i64 0] 36)
 have z:(w.alloc (.cells #[.int .i64 0,.int .i64 0] 36)).cell? ⟨w.heap.size,0,none⟩=some (.int .i64 0):=by simp
 have s:(w.alloc (.cells #[.int .i64 0,.int .i64 0] 36)).cell? ⟨w.heap.size,1,none⟩=some (.int .i64 0):=by simp
 have A:(w.alloc (.cells #[.int .i64 0,.int .i64 0] 36)).frozen? ⟨w.heap.size,0,none⟩=false:=by simp
 have u:(w.alloc (.cells #[.int .i64 0,.int .i64 0] 36)).frozen? ⟨w.heap.size,1,none⟩=false:=by simp
 have g:=Q0t w (.cells #[.int .i64 0,.int .i64 0] 36) k;go_enter Tryz.func130,Tryz.ntmps130;go_wp2_with fail;generalize hw0:w.alloc (.cells #[.int .i64 0,.int .i64 0] 36)=w0 at *
 have d:w.heap.size < w0.heap.size:=by rw [←hw0];simp
 clear hw0;refine (Q0p k 3 _ i (by omega) (by omega)).mono ?_;rintro e N ⟨x,rfl,L,G,f,l⟩;go_wp2_with fail;refine (Q0p k 3 _ f (by omega) (by omega)).mono ?_;rintro e p ⟨y,rfl,D,J,m,n⟩;have c:=Q05 l n;have I:p.cell? ⟨w.heap.size,0,none⟩=some (.int .i64 0):=(Q3D c d (by omega)).trans z;have H:p.cell? ⟨w.heap.size,1,none⟩=some (.int .i64 0):=(Q3D c d (by omega)).trans s;have M:p.frozen? ⟨w.heap.size,0,none⟩=false:=(World.frozen?_of_block (w:=w0) (c.block w.heap.size d (by simp;omega))).trans A
 have O:p.frozen? ⟨w.heap.size,1,none⟩=false:=(World.frozen?_of_block (w:=w0) (c.block w.heap.size d (by simp;omega))).trans u;have F:=Q01 m;have C:=Q01 (Q05 g c);clear B i f m l n c g z s A u;go_wp2;refine bodyPost_ret (v:=.agg #[.int .i64 (1+x),.int .i64 (80+y)]) (by simp [results,Tryz.results130,go_sem,I,H]) rfl ⟨_,_,rfl,by omega,by omega, ?_, ?_⟩
 ·exact F.out.below (Below.setCell (Below.setCell (Below.refl _ _) (by exact q) _) (by exact q) _)
 ·have h:=C.out
  refine ⟨h.os,h.tape,h.output,by simpa using h.size,fun j E r=> ?_⟩;rw [Below.heap_setCell _ _ _ _ (by simp;omega),Below.heap_setCell _ _ _ _ (by simp;omega)];exact h.block j E r
theorem boxed.other {k q:Nat} {a b f s:Int} {v:Value} {w d:World} (h:boxed q a b f s v w) (i:w.grownBy d (some k)) (g:q < w.heap.size) (c:q≠k):boxed q a b f s v d:=by
 have e:∀o,d.cell? ⟨q,o,none⟩=w.cell? ⟨q,o,none⟩:=fun o=> Q3D i g c
 exact ⟨(e 0).trans h.1,(e 1).trans h.2.1,(e 2).trans h.2.2.1,(e 3).trans h.2.2.2.1,(e 4).trans h.2.2.2.2⟩
theorem Q1g {k q o:Nat} {w b:World} (d:w.grownBy b (some k)) (c:q < w.heap.size) (a:q≠k):b.frozen? ⟨q,o,none⟩=w.frozen? ⟨q,o,none⟩:=
 World.frozen?_of_block (w:=w) (d.block q c (by simp [a]))
theorem empty5.other {k q:Nat} {w d:World} (h:empty5 q w) (c:w.grownBy d (some k)) (b:q < w.heap.size) (a:q≠k):empty5 q d:=
 ⟨h.1.other c b a,(Q1g c b a).trans h.2.1,(Q1g c b a).trans h.2.2.1,(Q1g c b a).trans h.2.2.2.1,(Q1g c b a).trans h.2.2.2.2.1,(Q1g c b a).trans h.2.2.2.2.2⟩
theorem boxed.put4 {k:Nat} {a b f s:Int} {v v':Value} {w:World} (h:boxed k a b f s v w):boxed k a b f s v' (w.setCell ⟨k,4,none⟩ v'):=by
 refine ⟨?_, ?_, ?_, ?_,World.cell?_setCell_same w _ _ h.2.2.2.2⟩
 ·exact (World.cell?_setCell_other w _ _ _ (by simp)).trans h.1
 ·exact (World.cell?_setCell_other w _ _ _ (by simp)).trans h.2.1
 ·exact (World.cell?_setCell_other w _ _ _ (by simp)).trans h.2.2.1
 ·exact (World.cell?_setCell_other w _ _ _ (by simp)).trans h.2.2.2.1
theorem isCur.drew {k:Nat} {w:World} (h:isCur k w):isCur k w.drew:=h.below (Below.drew (Below.refl _ _))
theorem Qi8 (n:Int) (h0:0≤n) (h1:n≤255):IntKind.u8.wrap n=n:=by
 simp [IntKind.wrap,IntKind.bits,IntKind.signed];omega
theorem Qgm {L:List Int} {x:Int} (h:isB L) (hx:0≤x∧x≤255):isB (L++[x]):=by
 intro z hz
 rcases List.mem_append.1 hz with h1|h1
 ·exact h z h1
 ·have:z=x:=by simpa using h1
  omega
theorem Q0F {w d c:World} {k B:Nat} (h:w.grownBy d (some k)) (a:Below B d c) (g:w.heap.size≤B):w.grownBy c (some k):=
 ⟨a.os.trans h.os,a.tape.trans h.tape,a.output.trans h.output,Kdq h.size a.size,fun j f b=> (a.block j (by omega)).trans (h.block j f b)⟩
theorem Q0l {P:Nat} {w w':World} (h:Below P w w') (o:Nat) (v:Value):Below P w (w'.setCell ⟨P,o,none⟩ v):=
 Below.setCell (p:=⟨P,o,none⟩) h (Kaq P) v
theorem QgE {B R P k:Nat} {i c:World} {a b f s:Int} {v v8:Value} {M:List Int} (g:boxed P a b f s v c) (h:c.frozen? ⟨P,4,none⟩=false) (n:ownB c B v8 M) (p:empty5 R c) (r:isCur k c) (t:i.grownBy c (some k)) (q:i.heap.size≤P) (l:P < B) (m:k < P) (j:R < P) (hs:B≤c.heap.size):
  boxed P a b f s v8 (c.setCell ⟨P,4,none⟩ v8)∧(c.setCell ⟨P,4,none⟩ v8).frozen? ⟨P,4,none⟩=false∧ownB (c.setCell ⟨P,4,none⟩ v8) B v8 M∧isCur k (c.setCell ⟨P,4,none⟩ v8)∧i.grownBy (c.setCell ⟨P,4,none⟩ v8) (some k)∧empty5 R (c.setCell ⟨P,4,none⟩ v8)∧B≤(c.setCell ⟨P,4,none⟩ v8).heap.size:=by
 have d:Below P c (c.setCell ⟨P,4,none⟩ v8):=Q0l (Below.refl P c) 4 v8;exact ⟨g.put4,(World.frozen?_setCell _ _ _ _).trans h,ownsRow_setCell_below n l _,r.below (d.mono m),Q0F t d q,p.kept d j,Kdq hs d.size⟩
def QiN (a b f s:Int):Prop:=(1≤a∧a≤3)∧(80≤b∧b≤82)∧f∈([0,1,2,6,10]:List Int)∧0≤s∧s≤65535
theorem QbE (k:Nat) (w:World) (hc:isCur k w) (hk:k < w.heap.size):
  Calls Tryz.prog 84 #[.pointer (some ⟨k,0,none⟩)] w fun e w'=> ∃(a b f s:Int) (v:Value) (L:List Int),e=.returned (pkt a b f s v)∧QiN a b f s∧ownB w' w.heap.size v L∧isB L∧L.length≤4∧isCur k w'∧w.grownBy w' (some k):=by
 have E5:=Q5W w 38;have aC:=hc.alloc hk (.cells #[.int .i64 0,.int .i64 0,.int .i64 0,.int .i64 0,.slice none 0 0] 38);have aK:=Q0t w (.cells #[.int .i64 0,.int .i64 0,.int .i64 0,.int .i64 0,.slice none 0 0] 38) k;go_enter Tryz.func84,Tryz.ntmps84;go_wp2_with fail;generalize hw0:w.alloc (.cells #[.int .i64 0,.int .i64 0,.int .i64 0,.int .i64 0,.slice none 0 0] 38)=w0 at *
 have u:w.heap.size < w0.heap.size:=by rw [←hw0];simp
 clear hw0
 have V:w.heap.size≠k:=by omega
 refine (Q1U k _ aC (by omega)).mono ?_;rintro e w1 ⟨a,b,rfl,ah,ag,ae,X⟩;have ar:=Q01 (And.intro ah ag);clear ah ag;have aU:w.heap.size < w1.heap.size:=Kbq u X.size;have P:=ae.alloc (by omega) (.cells #[.int .i64 1,.int .i64 1,.int .i64 2,.int .i64 2,.int .i64 2,.int .i64 6,.int .i64 10,.int .i64 0] 3);have I:=Q05 X (Q0t w1 (.cells #[.int .i64 1,.int .i64 1,.int .i64 2,.int .i64 2,.int .i64 2,.int .i64 6,.int .i64 10,.int .i64 0] 3) k);go_wp2_with fail;refine (Q0P k w1.heap.size [1,1,2,2,2,6,10,0] _ P (by simp) (by omega) (by simp) (by simp) ?hcl).mono ?_
 case hcl=>
  intro q hq
  have:q=0∨q=1∨q=2∨q=3∨q=4∨q=5∨q=6∨q=7:=by simp at hq;omega
  rcases this with h|h|h|h|h|h|h|h <;> subst h <;> simp
 rintro e w2 ⟨z,aw,rfl,aq,au⟩
 have aN:Hid (([1,1,2,2,2,6,10,0]:List Int).getD z 0∈([0,1,2,6,10]:List Int)):=by
  have:z=0∨z=1∨z=2∨z=3∨z=4∨z=5∨z=6∨z=7:=by simp at aw;omega
  unfold Hid
  rcases this with h|h|h|h|h|h|h|h <;> subst h <;> decide
 clear aw;generalize ([1,1,2,2,2,6,10,0]:List Int).getD z 0=f at *;have y:=Q05 I au;have aW:w.heap.size < w2.heap.size:=Kbq u y.size;go_wp2_with fail;refine (Q0p k 999 _ aq (by omega) (by omega)).mono ?_;rintro e w3 ⟨x3,rfl,F,G,ao,aD⟩;have an:=Q01 (And.intro F G);clear F G;have t:=Q05 y aD;have aV:w.heap.size < w3.heap.size:=Kbq u t.size;have E:=ao.alloc (by omega) (.cells #[.int .i64 0,.int .i64 1,.int .i64 65535,.int .i64 x3] 3);have H:=Q05 t (Q0t w3 (.cells #[.int .i64 0,.int .i64 1,.int .i64 65535,.int .i64 x3] 3) k)
 go_wp2_with fail;refine (Q0P k w3.heap.size [0,1,65535,x3] _ E (by simp) (by omega) (by simp) (by simp) ?hcm).mono ?_
 case hcm=>
  intro q hq
  have:q=0∨q=1∨q=2∨q=3:=by simp at hq;omega
  rcases this with h|h|h|h <;> subst h <;> simp
 rintro e l ⟨U,ak,rfl,aj,ad⟩
 have aR:Hid (0≤([0,1,65535,x3]:List Int).getD U 0∧([0,1,65535,x3]:List Int).getD U 0≤65535):=by
  have:U=0∨U=1∨U=2∨U=3:=by simp at ak;omega
  have h3:=an.out;unfold Hid
  rcases this with h|h|h|h <;> subst h <;> simp <;> omega
 clear ak an;generalize ([0,1,65535,x3]:List Int).getD U 0=s at *;have g:=Q05 H ad;have aB:w.heap.size < l.heap.size:=Kbq u g.size;have aO:w0.heap.size≤l.heap.size:=g.size;have ay:=E5.other g u V;have BP:=QaI l a b f s (.slice none 0 0) 38
 have FP:(l.alloc (.cells #[.int .i64 a,.int .i64 b,.int .i64 f,.int .i64 s,.slice none 0 0] 38)).frozen? ⟨l.heap.size,4,none⟩=false:=by simp
 have ab:=aj.alloc (by omega) (.cells #[.int .i64 a,.int .i64 b,.int .i64 f,.int .i64 s,.slice none 0 0] 38);have Y:=Q0t l (.cells #[.int .i64 a,.int .i64 b,.int .i64 f,.int .i64 s,.slice none 0 0] 38) k;clear hc aC ae P aq ao E X I au aD H y t ad E5;go_wp2_with fail;generalize hw5:l.alloc (.cells #[.int .i64 a,.int .i64 b,.int .i64 f,.int .i64 s,.slice none 0 0] 38)=w5 at *
 have r:l.heap.size < w5.heap.size:=by rw [←hw5];simp
 clear hw5;refine (Q0p k 5 _ ab (by omega) (by omega)).mono ?_;rintro e w6 ⟨n,rfl,aQ,aX,al,m⟩;have N:=Q05 g (Q05 Y m);have BP6:=BP.other m r (by omega);have FP6:=(Q1g (o:=4) m r (by omega:l.heap.size≠k)).trans FP;have az:=ay.other (Q05 Y m) aB V;have aL:w5.heap.size≤w6.heap.size:=m.size;have H6:=Q01 (show isCur k w6∧w0.grownBy w6 (some k)∧boxed l.heap.size a b f s (.slice none 0 0) w6∧w6.frozen? ⟨l.heap.size,4,none⟩=false∧empty5 w.heap.size w6 from ⟨al,N,BP6,FP6,az⟩);clear ab al Y m g N BP BP6 FP FP6 ay az aj;go_wp2
 go_loopw [5] (fun i wr=> ∃(j:Nat) (L:List Int) (v:Value),(j:Int)≤n∧i=.int .i64 j∧boxed l.heap.size a b f s v wr∧wr.frozen? ⟨l.heap.size,4,none⟩=false∧ownB wr w5.heap.size v L∧L.length=j∧isB L∧isCur k wr∧w0.grownBy wr (some k)∧empty5 w.heap.size wr∧w5.heap.size≤wr.heap.size)
  (fun i _=> n.toNat - (intOf i).toNat)
 case atStart=> exact ⟨0,[],_,aQ,rfl,H6.out.2.2.1,H6.out.2.2.2.1,World.ownsRow_nil _ _ _ _,rfl,fun x hx=> (by cases hx),H6.out.1,H6.out.2.1,H6.out.2.2.2.2,aL⟩
 case round=>
  obtain ⟨j,L,v,hj,rfl,A,aF,hv,hL,ac,T,aa,hE,aI⟩:=hrel;have HL:=Q01 hL
  have aP:L.length≤4:=by omega
  clear hL H6;obtain ⟨ov,cv,aJ,_⟩:=hv.open;subst aJ
  have aA:k < w5.heap.size:=by omega
  by_cases hlt:(j:Int) < n
  ·have y4:=A.2.2.2.2
   go_wp2
   go_region_law (first|(go_simp;go_at_call 132;refine (Q2H k _ ?_).mono ?_;exact T.drew;rintro e J ⟨x,rfl,ax,aE,aH,c⟩;replace c:wr.grownBy J (some k):=⟨c.os,c.tape,c.output,c.size,c.block⟩;have af:=Q2Z hv c aA;have C:=A.other c (by omega) (by omega);have z4:=C.2.2.2.2;have am:w5.heap.size≤J.heap.size:=Kdq aI c.size;have aS:=Qi8 x ax aE;have aT:∀O,(J.alloc O).cell? ⟨l.heap.size,4,none⟩=some (.slice ov L.length cv):=(fun O=> (C.kept ((Below.refl J.heap.size J).alloc (Kaq _) O) (by omega)).2.2.2.2);dsimp only)|(refine Q6o rfl (.tmp 25) (.tmp 29) rfl w5.heap.size (.slice ov L.length cv) L rfl (af.alloc _) (some ⟨J.heap.size,0,none⟩) 1 [x] 1 rfl rfl (by simp) (Qi7 J x _) (by simp;omega) (by simp;omega) ?_;intro v8 w8 B d;obtain ⟨o8,c8,e8,_⟩:=B.open;rw [e8] at B ⊢;replace d:Below w5.heap.size J w8:=((Below.refl _ _).alloc am _).trans d;have Z:=C.kept d r;have t4:=Z.2.2.2.2;have ap:=(d.frozen (p:=⟨l.heap.size,4,none⟩) r).trans ((Q1g (o:=4) c (by omega) (by omega:l.heap.size≠k)).trans aF)))
   all_goals (
    have aG:=aH.below (d.mono aA);have ai:w0.grownBy w8 (some k):=Q0F (Q05 aa c) d (by omega);have av:=(hE.other c (by omega) V).kept d (by omega:w.heap.size < w5.heap.size);have R:=Q01 (QgE (v8:=.slice o8 (L.length+1) c8) (M:=L++[x]) Z ap (by simpa using B) av aG ai aO r (by omega) aB (Kdq am d.size));have aM:=Q01 (Qgm ac ⟨ax,aE⟩);clear B d Z t4 ap aG ai av aH c af C z4 aT aS T aa hE A aF hv y4;go_wp2;go_roundw
    case rel=> exact ⟨j+1,L++[x],_,by omega,by go_num,R.out.1,R.out.2.1,R.out.2.2.1,by have:=HL.out;simp;omega,aM.out,R.out.2.2.2.1,R.out.2.2.2.2.1,R.out.2.2.2.2.2.1,R.out.2.2.2.2.2.2⟩
    case measure=> simp [intOf];omega)
  ·obtain ⟨y0,y1,y2,y3,y4⟩:=A
   obtain ⟨⟨d0,d1,d2,d3,d4⟩,g0,g1,g2,g3,g4⟩:=hE
   have D:w.heap.size < w5.heap.size:=by omega
   go_wp2;refine bodyPost_ret (v:=pkt a b f s (.slice ov L.length cv)) (by simp [results,Tryz.results84,go_sem,d0,d1,d2,d3,d4]) rfl ⟨a,b,f,s,_,rfl,⟨ar.out.1,ar.out.2,aN.out,aR.out⟩,L, ?_,ac,aP, ?_, ?_⟩
   ·refine Q04 (base:=w5.heap.size) ?_ (Nat.le_of_lt D)
    repeat (refine ownsRow_setCell_below ?_ D _)
    exact hv
   ·exact T.below ((Q0l (Q0l (Q0l (Q0l (Q0l (Below.refl w.heap.size wr) 0 _) 1 _) 2 _) 3 _) 4 _).mono hk)
   ·exact Q0F (Q05 aK aa) (Q0l (Q0l (Q0l (Q0l (Q0l (Below.refl w.heap.size wr) 0 _) 1 _) 2 _) 3 _) 4 _) (Kaq _)
theorem Qdm (k:Nat) (w:World) (g:isCur k w) (d:k < w.heap.size):
  Calls Tryz.prog 84 #[.pointer (some ⟨k,0,none⟩)] w fun e c=> ∃(a b f s:Int) (v:Value) (L:List Int),e=.returned (pkt a b f s v)∧ownB c w.heap.size v L∧isB L∧L.length≤4∧isCur k c∧w.grownBy c (some k):=
 (QbE k w g d).mono fun _ _ ⟨a,b,f,s,v,L,h,_,r⟩=> ⟨a,b,f,s,v,L,h,r⟩
end Go.Proofs.YtpneolgdghbinaaGreat
