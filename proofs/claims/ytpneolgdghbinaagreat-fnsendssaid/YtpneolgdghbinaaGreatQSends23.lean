/- Several texts in one: SPlace, JMath, DoMath, STab3, SDelete, SDeed, SDraw2, SDraw3. -/
import Derived.Test.YtpneolgdghbinaaGreatQSends22
import Derived.Test.YtpneolgdghbinaaGreatQSends21
namespace Go.Proofs.YtpneolgdghbinaaGreat
open Go.ChangeShapes Go.WideShapes Go.ChangeAt Go.RowKit Go.Joins
set_option linter.unusedVariables false
set_option linter.unusedSimpArgs false
set_option maxRecDepth 100000
set_option maxHeartbeats 40000000
theorem Q3v:AppOk Q12 26 119:=⟨Tryz.underlying26,⟨_,_,QaT,rfl,by decide⟩,by decide,fun a u hu=> by
 simp [Q12] at hu;rcases hu with rfl|rfl|rfl <;> rfl⟩
theorem Qc8:AppOk Q3N 23 77:=⟨Tryz.underlying23,⟨_,_,Qh7,rfl,by decide⟩,by decide,fun a u hu=> by
 simp [Q3N] at hu;rcases hu with rfl|rfl|rfl <;> rfl⟩
theorem Q1J (o:Option Addr) (cap:Nat) (l:List Bk) (w:World) (hR:RdK w.heap.size w o l) (hn:o=none→cap=0) (hl:l.length≤1048576):
  Calls Tryz.prog 119 #[.slice o l.length cap] w fun e w'=> ∃v,e=.returned v∧Q1i w' w.heap.size v l∧Below w.heap.size w w':=by
 go_enter Tryz.func119,Tryz.ntmps119
 go_wp2_with (at_builtin;refine Q07 Q3v rfl _ _ rfl w.heap.size (.slice none 0 0) [] rfl (World.ownsRow_nil _ _ _ _) o cap w.heap.size l l.length rfl rfl hn hR ?c1 (Kaq _) ?_)
 case c1=> simp;omega
 intro v w1 hv hg _
 have HR:=Q02 (show Q1i w1 w.heap.size v l∧Below w.heap.size w w1 from ⟨hv,(Below.refl _ _).grown hg (Kaq _) (fun k h=> by cases h)⟩)
 clear hv hg
 go_wp2
 go_ret
 exact ⟨_,rfl,HR.out.1,HR.out.2⟩
theorem Q8d (o:Option Addr) (cap:Nat) (l:List Cd) (w:World) (hR:RdC w.heap.size w o l) (hn:o=none→cap=0) (hl:l.length≤1048576):
  Calls Tryz.prog 71 #[.slice o l.length cap] w fun e w'=> ∃v,e=.returned v∧Qbr w' w.heap.size v l∧Below w.heap.size w w':=by
 go_enter Tryz.func71,Tryz.ntmps71
 go_wp2_with (at_builtin;refine Q07 Qc8 rfl _ _ rfl w.heap.size (.slice none 0 0) [] rfl (World.ownsRow_nil _ _ _ _) o cap w.heap.size l l.length rfl rfl hn hR ?c1 (Kaq _) ?_)
 case c1=> simp;omega
 intro v w1 hv hg _
 have HR:=Q02 (show Qbr w1 w.heap.size v l∧Below w.heap.size w w1 from ⟨hv,(Below.refl _ _).grown hg (Kaq _) (fun k h=> by cases h)⟩)
 clear hv hg
 go_wp2
 go_ret
 exact ⟨_,rfl,HR.out.1,HR.out.2⟩
theorem QeV {l:List Bk} (h:Q0a l=true) {id:Int} {k:Nat} (hk:k < l.length) (e:(l.getD k (0,0,false)).1=id):Q0d l id=k∧Q0x l id=true:=by
 have hp:Q0d l id=k:=Q76 (Nat.le_of_lt hk) (fun j hj=> by rw [←e];exact Q5i h k hk j hj) (.inr (by rw [e];exact Int.lt_irrefl _))
 exact ⟨hp,by unfold Q0x;rw [hp,e];simp [hk]⟩
theorem QeJ {l:List Bk} {id:Int} (h:∀k,k < l.length→(l.getD k (0,0,false)).1≠id):Q0x l id=false:=by
 unfold Q0x
 by_cases hp:Q0d l id < l.length
 ·have:=h _ hp
  rw [show ((l.getD (Q0d l id) (0,0,false)).1==id)=false from beq_eq_false_iff_ne.2 this,Bool.and_false]
 ·simp [hp]
def Q7d (l:List Bk) (id:Int):Int:=if Q0x l id then (Q0d l id:Int) else -1
theorem Q5R (o:Option Addr) (cap:Nat) (l:List Bk) (id:Int) (w:World) (hR:RdK w.heap.size w o l) (hl:l.length≤1048576) (hok:Q0a l=true):
  Calls Tryz.prog 146 #[.slice o l.length cap,.int .i64 id] w fun e w'=> e=.returned (.int .i64 (Q7d l id))∧w=w':=by
 go_enter Tryz.func146,Tryz.ntmps146
 go_wp2
 go_loop [5] (fun av=> ∃k:Nat,k≤l.length∧av=.int .i64 k∧Hid (∀j,j < k→(l.getD j (0,0,false)).1≠id))
  (fun av=> l.length - (intOf av).toNat)
 case atStart=> exact ⟨0,Kcq _,rfl,fun j hj=> absurd hj (Nat.not_lt_zero _)⟩
 case round=>
  obtain ⟨k,hk,rfl,HJ⟩:=hrel
  by_cases hlt:k < l.length
  ·rcases hR with hR|⟨b,off,rfl,hbl,hcell⟩
   ·subst hR;simp at hlt
   obtain ⟨x,y,z,hxy⟩:∃x y z,l.getD k (0,0,false)=(x,y,z):=⟨_,_,_,rfl⟩;have hcx:=(RdL.back (C:=w.heap.size) hcell k hlt).1
   rw [hxy] at hcx
   dsimp only at hcx
   have z1:(k:Int) < (l.length:Int):=by omega
   by_cases hx:x=id
   ·have ht:=QeV (id:=id) hok hlt ((congrArg (fun q=> q.1) hxy).trans hx)
    have HF:=Q02 (show Q7d l id=(k:Int) by unfold Q7d;rw [ht.2,ht.1];rfl)
    have hx':(x==id)=true:=by simpa using hx
    clear hxy hcell ht HJ hx
    go_wp2
    go_ret
    exact ⟨by rw [HF.out];rfl,rfl⟩
   ·have HJ2:Hid (∀j,j < k+1→(l.getD j (0,0,false)).1≠id):=fun j hj=> by
     rcases Nat.lt_succ_iff_lt_or_eq.1 hj with h|h
     ·exact HJ.out j h
     ·rw [h,hxy];exact hx
    have hx':(x==id)=false:=by simpa using hx
    clear hxy hcell hx
    go_wp2
    go_round
    case rel=> exact ⟨k+1,by omega,by go_num,HJ2⟩
    case measure=> simp [intOf];omega
  ·have e:k=l.length:=by omega
   have HF:=Q02 (show Q7d l id= -1 by unfold Q7d;rw [QeJ (e ▸ HJ.out)];rfl)
   subst e;clear HJ
   go_wp2
   go_ret
   exact ⟨by rw [HF.out];rfl,rfl⟩
theorem QfL {α:Type} {l:List α} {d b:α} (h:b∈l):∃k,k < l.length∧l.getD k d=b:=by
 obtain ⟨k,hk,e⟩:=List.getElem_of_mem h
 exact ⟨k,hk,by simp [hk,e]⟩
theorem Q1U {l:List Bk}:Q0a l=true↔l.Pairwise (fun a b=> a.1 < b.1)∧∀b∈l,Q3x b.1 b.2.1=true:=by
 constructor
 ·intro h
  refine ⟨List.pairwise_iff_getElem.2 fun i j hi hj hij=> ?_,fun b hb=> ?_⟩
  ·have:=Q5i h j hj i hij
   simpa [hi,hj] using this
  ·obtain ⟨k,hk,e⟩:=QfL (d:=(0,0,false)) hb
   have:=Q1k.1 h k hk
   unfold QbA at this
   rw [←e]
   simp only [Bool.and_eq_true] at this
   exact this.1
 ·rintro ⟨h1,h2⟩
  refine Q1k.2 fun k hk=> ?_
  unfold QbA
  simp only [Bool.and_eq_true]
  refine ⟨h2 _ (by simp [hk]), ?_⟩
  rcases Nat.eq_zero_or_pos k with e|e
  ·subst e;simp
  ·have:=List.pairwise_iff_getElem.1 h1 (k - 1) k (by omega) hk (by omega)
   have hk1:k - 1 < l.length:=by omega
   simp only [List.getD_eq_getElem?_getD,List.getElem?_eq_getElem hk,List.getElem?_eq_getElem hk1,Option.getD_some]
   simp [this]
theorem Q9Y (b:Bk) (l:List Bk) (id:Int):Q0d (b::l) id=if b.1 < id then Q0d l id+1 else 0:=by
 unfold Q0d
 rw [List.takeWhile_cons]
 by_cases h:b.1 < id <;> simp [h]
theorem Q5J:∀(l:List Bk) (id:Int),∀a∈l.take (Q0d l id),a.1 < id
 |[],id,a,h=> by simp at h
 |b::l,id,a,h=> by
  rw [Q9Y] at h
  by_cases hb:b.1 < id
  ·rw [if_pos hb,List.take_succ_cons] at h
   rcases List.mem_cons.1 h with e|e
   ·rw [e];exact hb
   ·exact Q5J l id a e
  ·rw [if_neg hb] at h;simp at h
theorem Q7U {l:List Bk} {id:Int} (h:l.Pairwise (fun a b=> a.1 < b.1)) (hn:Q0x l id=false):∀b∈l.drop (Q0d l id),id < b.1:=by
 intro b hb
 have hp:=Q3U l id
 rcases Nat.lt_or_ge (Q0d l id) l.length with hlt|hge
 ·have h1:=Q72 l id hlt
  unfold Q0x at hn
  simp only [hlt,decide_true,Bool.true_and,beq_eq_false_iff_ne] at hn
  have h2:id < (l.getD (Q0d l id) (0,0,false)).1:=by omega
  rw [List.drop_eq_getElem_cons hlt] at hb
  have e:l.getD (Q0d l id) (0,0,false)=l[Q0d l id]:=by simp [hlt]
  rw [e] at h2
  rcases List.mem_cons.1 hb with e1|e1
  ·rw [e1];exact h2
  ·have h3:(l.drop (Q0d l id)).Pairwise (fun a b=> a.1 < b.1):=h.sublist (List.drop_sublist _ _)
   rw [List.drop_eq_getElem_cons hlt] at h3
   have:=(List.pairwise_cons.1 h3).1 b e1
   omega
 ·rw [List.drop_eq_nil_of_le hge] at hb;simp at hb
theorem Qd5 {l:List Bk} {id g:Int} (h:Q0a l=true) (hn:Q0x l id=false) (hb:Q3x id g=true):Q0a (l.take (Q0d l id)++(id,g,false)::l.drop (Q0d l id))=true:=by
 obtain ⟨h1,h2⟩:=Q1U.1 h;have hd:=Q7U h1 hn
 refine Q1U.2 ⟨?_, ?_⟩
 ·have e:l.take (Q0d l id)++l.drop (Q0d l id)=l:=List.take_append_drop _ _
  rw [←e] at h1
  obtain ⟨p1,p2,p3⟩:=List.pairwise_append.1 h1
  refine List.pairwise_append.2 ⟨by simpa using p1,List.pairwise_cons.2 ⟨by simpa using hd,by simpa using p2⟩, ?_⟩
  intro a ha b hb
  rcases List.mem_cons.1 hb with e1|e1
  ·rw [e1];exact Q5J l id a ha
  ·have:=Q5J l id a ha;have:=hd b e1;omega
 ·intro b hb'
  rcases List.mem_append.1 hb' with e|e
  ·exact h2 b (List.mem_of_mem_take e)
  ·rcases List.mem_cons.1 e with e|e
   ·rw [e];exact hb
   ·exact h2 b (List.mem_of_mem_drop e)
theorem QdC {l:List Bk} (n:Nat) (h:Q0a l=true):Q0a (l.take n++l.drop (n+1))=true:=by
 obtain ⟨h1,h2⟩:=Q1U.1 h
 have hs:(l.take n++l.drop (n+1)).Sublist l:=by
  have:=List.Sublist.append (List.Sublist.refl (l.take n)) (List.drop_sublist 1 (l.drop n))
  rw [List.drop_drop,List.take_append_drop] at this
  exact this
 exact Q1U.2 ⟨h1.sublist hs,fun b hb=> h2 b (hs.subset hb)⟩
theorem Qg7 {l:List Bk} {n:Nat} {a:Bk} (h:Q0a l=true) (hn:n < l.length) (e:(l.getD n (0,0,false)).1=a.1) (ha:Q3x a.1 a.2.1=true):Q0a (l.set n a)=true:=by
 obtain ⟨h1,h2⟩:=Q1U.1 h
 refine Q1U.2 ⟨?_, ?_⟩
 ·have h3:(l.map (·.1)).Pairwise (fun a b=> a < b):=List.pairwise_map.2 h1
  have e2:(l.set n a).map (·.1)=l.map (·.1):=by
   apply List.ext_getElem
   ·simp
   ·intro i h4 h5
    simp only [List.getElem_map,List.getElem_set]
    split
    ·next hi=> subst hi;rw [←e];simp [hn]
    ·rfl
  have h6:=e2 ▸ h3
  exact List.pairwise_map.1 h6
 ·intro b hb
  rcases List.mem_or_eq_of_mem_set hb with hb|hb
  ·exact h2 b hb
  ·rw [hb];exact ha
theorem Q56 {l m:List Bk} {k i g:Int} (h:doL l k i g=some m):(Q0x l i=false∧k=0∧m=l.take (Q0d l i)++(i,g,false)::l.drop (Q0d l i))∨(Q0x l i=true∧k=1∧m=l.set (Q0d l i) (i,g,(l.getD (Q0d l i) (0,0,false)).2.2))∨(Q0x l i=true∧k=2∧m=l.set (Q0d l i) (i,(l.getD (Q0d l i) (0,0,false)).2.1,true))∨(Q0x l i=true∧k≠0∧k≠1∧k≠2∧m=l.take (Q0d l i)++l.drop (Q0d l i+1)):=by
 unfold doL at h
 split at h
 ·cases h
 ·next hne=>
  injection h with h
  by_cases h0:k=0
  ·subst h0
   simp only [beq_self_eq_true,Bool.not_eq_true] at hne
   left;exact ⟨hne,rfl,by rw [←h];simp⟩
  ·have hk:(k==0)=false:=beq_eq_false_iff_ne.2 h0
   rw [hk] at hne
   have ht:Q0x l i=true:=by cases h:Q0x l i <;> simp_all
   right
   by_cases h1:k=1
   ·left;exact ⟨ht,h1,by rw [←h,if_neg h0,if_pos h1]⟩
   ·right
    by_cases h2:k=2
    ·left;exact ⟨ht,h2,by rw [←h,if_neg h0,if_neg h1,if_pos h2]⟩
    ·right;exact ⟨ht,h0,h1,h2,by rw [←h,if_neg h0,if_neg h1,if_neg h2]⟩
theorem Q85 {l m:List Bk} {k i g:Int} (h:doL l k i g=some m):m.length≤l.length+1:=by
 have hp:=Q3U l i
 rcases Q56 h with ⟨_,_,rfl⟩|⟨_,_,rfl⟩|⟨_,_,rfl⟩|⟨_,_,_,_,rfl⟩ <;> simp <;> omega
theorem Q5c {l:List Bk} {id:Int} (h:Q0x l id=true):Q0d l id < l.length:=by
 unfold Q0x at h;simp at h;exact h.1
theorem Q3O {l:List Bk} {id:Int} (h:Q0x l id=true):(l.getD (Q0d l id) (0,0,false)).1=id:=by
 unfold Q0x at h;simp only [Bool.and_eq_true,beq_iff_eq] at h;exact h.2
theorem Qad {k i g:Int} (h:Q0E k i g=true):k=0∨k=1→Q3x i g=true:=by
 intro hk
 unfold Q0E at h
 unfold Q3x
 simp at h ⊢
 omega
theorem Q80 {l m:List Bk} {k i g:Int} (hl:Q0a l=true) (hc:Q0E k i g=true) (h:doL l k i g=some m):Q0a m=true:=by
 have hcb:=Qad hc
 rcases Q56 h with ⟨ht,hk,rfl⟩|⟨ht,hk,rfl⟩|⟨ht,hk,rfl⟩|⟨ht,hk,_,_,rfl⟩
 ·exact Qd5 hl ht (hcb (.inl hk))
 ·exact Qg7 hl (Q5c ht) (Q3O ht) (hcb (.inr hk))
 ·refine Qg7 hl (Q5c ht) (Q3O ht) ?_
  obtain ⟨h1,h2⟩:=Q1U.1 hl;have hlt:=Q5c ht
  have:=h2 (l.getD (Q0d l i) (0,0,false)) (by simp [hlt])
  rw [Q3O ht] at this
  exact this
 ·exact QdC _ hl
def Q6b (s:Option (List Bk)) (c:Cd):Option (List Bk):=s.bind fun l=> if Q0E c.1 c.2.1 c.2.2=true then doL l c.1 c.2.1 c.2.2 else none
def Q1c (cs:List Cd) (q:Nat):Option (List Bk):=(cs.take q).foldl Q6b (some [])
theorem QbO (cs:List Cd):Q1c cs 0=some []:=rfl
theorem Q37 {cs:List Cd} {q:Nat} (h:q < cs.length):Q1c cs (q+1)=Q6b (Q1c cs q) (cs.getD q (0,0,0)):=by
 unfold Q1c
 rw [Q1p Q3N cs q h,List.foldl_append]
 rfl
theorem QbW (cs:List Cd):cs.foldl Q6b none=none:=by
 induction cs with
 |nil=> rfl
 |cons c cs ih=> exact ih
theorem Q7Y {cs:List Cd} {q r:Nat} (h:Q1c cs q=none) (hr:q≤r):Q1c cs r=none:=by
 unfold Q1c at h ⊢
 have e:cs.take r=cs.take q++(cs.take r).drop q:=by
  have:=(List.take_append_drop q (cs.take r)).symm
  rwa [List.take_take,Nat.min_eq_left hr] at this
 rw [e,List.foldl_append,h,QbW]
theorem Q5g {cs:List Cd}:∀(q:Nat) (l:List Bk),q≤cs.length→Q1c cs q=some l→Q0a l=true∧l.length≤q
 |0,l,hq,h=> by rw [QbO] at h;injection h with h;subst h;exact ⟨rfl,Kaq _⟩
 |q+1,l,hq,h=> by
  rw [Q37 (by omega)] at h
  cases hp:Q1c cs q with
  |none=> rw [hp] at h;cases h
  |some l0=>
   rw [hp] at h
   obtain ⟨i1,i2⟩:=Q5g q l0 (by omega) hp
   simp only [Q6b,Option.bind_some] at h
   split at h
   ·next hc=>
    have:=Q85 h
    exact ⟨Q80 i1 hc h,by omega⟩
   ·cases h
def Q0p (key:Int) (cs:List Cd) (safe:Int):Bool:=Q1C key && decide (cs.length≤100) && decide (0≤safe) && decide (safe≤(cs.length:Int)) && (Q1c cs cs.length).isSome
def Q4k (k i g fi:Int) (s:List Bk × Bool) (t:Nat) (b:Bk):List Bk × Bool:=
 if (t:Int)=fi then (if k=3 then (if s.2=false∧i < b.1 then (s.1++[(i,g,false)],true) else s) else if k=1 then ((if s.2=false∧i < b.1 then (s.1++[(i,g,false)],true) else s).1++[(b.1,g,b.2.2)],(if s.2=false∧i < b.1 then (s.1++[(i,g,false)],true) else s).2) else ((if s.2=false∧i < b.1 then (s.1++[(i,g,false)],true) else s).1++[(b.1,b.2.1,true)],(if s.2=false∧i < b.1 then (s.1++[(i,g,false)],true) else s).2))
 else ((if s.2=false∧i < b.1 then (s.1++[(i,g,false)],true) else s).1++[b],(if s.2=false∧i < b.1 then (s.1++[(i,g,false)],true) else s).2)
def Q4N (l:List Bk) (k i g fi:Int):Nat→List Bk × Bool
 |0=> ([], !(k==0))
 |t+1=> Q4k k i g fi (Q4N l k i g fi t) t (l.getD t (0,0,false))
def QhH (s:List Bk × Bool) (i g:Int):List Bk:=if s.2=true then s.1 else s.1++[(i,g,false)]
theorem Q52 {l:List Bk} {t:Nat} (h:t < l.length):l.take (t+1)=l.take t++[l.getD t (0,0,false)]:=Q1p Q12 l t h
theorem Q3y {l:List Bk} {t n:Nat} (h:t < l.length) (hn:n≤t):(l.take (t+1)).drop n=(l.take t).drop n++[l.getD t (0,0,false)]:=by
 rw [Q52 h,List.drop_append_of_le_length (by simp;omega)]
theorem Qe9 {l:List Bk} {i g:Int} (hl:Q0a l=true) (hn:Q0x l i=false):∀t,t≤l.length→Q4N l 0 i g (-1) t=if t≤Q0d l i then (l.take t,false) else (l.take (Q0d l i)++(i,g,false)::(l.take t).drop (Q0d l i),true)
 |0,_=> by simp [Q4N]
 |t+1,ht=> by
  have ih:=Qe9 (g:=g) hl hn t (by omega)
  have hlt:t < l.length:=by omega
  have hneg:¬((t:Int)= -1):=by omega
  have hda:=Q7U (Q1U.1 hl).1 hn
  unfold Q4N
  rw [ih]
  unfold Q4k
  rw [if_neg hneg]
  rcases Nat.lt_trichotomy t (Q0d l i) with h|h|h
  ·have hb:=Q7j l i t h
   have hA:t≤Q0d l i:=by omega
   have hB:t+1≤Q0d l i:=by omega
   have hC:¬i < (l.getD t (0,0,false)).1:=by omega
   simp only [if_pos hA,if_pos hB,hC,and_false,if_false]
   rw [Q52 hlt]
  ·have hm:l.getD t (0,0,false)∈l.drop (Q0d l i):=by
    have e:l.getD t (0,0,false)=l[t]:=by simp [hlt]
    rw [←h,List.drop_eq_getElem_cons hlt,e]
    exact List.mem_cons_self
   have hb:=hda _ hm
   have hA:t≤Q0d l i:=by omega
   have hB:¬t+1≤Q0d l i:=by omega
   simp only [if_pos hA,if_neg hB,hb,and_self,if_true]
   rw [Q3y hlt (by omega),←h]
   simp
  ·have hA:¬t≤Q0d l i:=by omega
   have hB:¬t+1≤Q0d l i:=by omega
   simp only [if_neg hA,if_neg hB,Bool.true_eq_false,false_and,if_false]
   rw [Q3y hlt (by omega)]
   simp
theorem QaA {l:List Bk} {k i g:Int} {pl:Nat} {a:Bk} (h0:(k==0)=false) (h3:k≠3) (ha:∀b:Bk,b=l.getD pl (0,0,false)→(if k=1 then (b.1,g,b.2.2) else (b.1,b.2.1,true))=a):∀t,t≤l.length→Q4N l k i g (pl:Int) t=((l.set pl a).take t,true)
 |0,_=> by simp [Q4N,h0]
 |t+1,ht=> by
  have ih:=QaA (g:=g) (i:=i) h0 h3 ha t (by omega)
  have hlt:t < l.length:=by omega
  unfold Q4N
  rw [ih]
  unfold Q4k
  have hno:¬((true=false)∧i < (l.getD t (0,0,false)).1):=by rintro ⟨h,_⟩;cases h
  rw [Q52 (l:=l.set pl a) (by simpa using hlt)]
  by_cases h:t=pl
  ·subst h
   have e:=ha _ rfl
   rw [if_pos rfl,if_neg h3]
   simp only [hno,if_false]
   have e2:(l.set t a).getD t (0,0,false)=a:=by simp [hlt]
   rw [e2,←e]
   by_cases h1:k=1
   ·rw [if_pos h1,if_pos h1]
   ·rw [if_neg h1,if_neg h1]
  ·have hC:¬((t:Int)=(pl:Int)):=by omega
   rw [if_neg hC]
   simp only [hno,if_false]
   have e2:(l.set pl a).getD t (0,0,false)=l.getD t (0,0,false):=by
    simp only [List.getD_eq_getElem?_getD];rw [List.getElem?_set_ne (fun e=> h e.symm)]
   rw [e2]
theorem QdD {l:List Bk} {i g:Int} {pl:Nat}:∀t,t≤l.length→Q4N l 3 i g (pl:Int) t=(if t≤pl then l.take t else l.take pl++(l.take t).drop (pl+1),true)
 |0,_=> by simp [Q4N]
 |t+1,ht=> by
  have ih:=QdD (l:=l) (g:=g) (i:=i) (pl:=pl) t (by omega)
  have hlt:t < l.length:=by omega
  unfold Q4N
  rw [ih]
  unfold Q4k
  have hno:¬((true=false)∧i < (l.getD t (0,0,false)).1):=by rintro ⟨h,_⟩;cases h
  simp only [hno,if_false,if_true]
  rcases Nat.lt_trichotomy t pl with h|h|h
  ·have hA:t≤pl:=by omega
   have hB:t+1≤pl:=by omega
   have hC:¬((t:Int)=(pl:Int)):=by omega
   simp only [if_pos hA,if_pos hB,if_neg hC]
   rw [Q52 hlt]
  ·have hA:t≤pl:=by omega
   have hB:¬t+1≤pl:=by omega
   have hC:(t:Int)=(pl:Int):=by omega
   simp only [if_pos hA,if_neg hB,if_pos hC]
   rw [h]
   simp
  ·have hA:¬t≤pl:=by omega
   have hB:¬t+1≤pl:=by omega
   have hC:¬((t:Int)=(pl:Int)):=by omega
   simp only [if_neg hA,if_neg hB,if_neg hC]
   rw [Q3y hlt (by omega)]
   simp
theorem Qda {l m:List Bk} {k i g:Int} (hl:Q0a l=true) (hc:Q0E k i g=true) (h:doL l k i g=some m):QhH (Q4N l k i g (Q7d l i) l.length) i g=m:=by
 have hpl:=Q3U l i
 unfold Q7d
 rcases Q56 h with ⟨ht,hk,hm⟩|⟨ht,hk,hm⟩|⟨ht,hk,hm⟩|⟨ht,hk,hk1,hk2,hm⟩
 ·subst hk
  rw [ht]
  simp only [Bool.false_eq_true,if_false]
  rw [Qe9 hl ht l.length (Kaq _),hm]
  unfold QhH
  by_cases hle:l.length≤Q0d l i
  ·rw [if_pos hle]
   have e:Q0d l i=l.length:=by omega
   simp [e]
  ·rw [if_neg hle]
   simp
 ·subst hk
  rw [ht,if_pos rfl,QaA (pl:=Q0d l i) (a:=(i,g,(l.getD (Q0d l i) (0,0,false)).2.2)) rfl (by decide) (fun b hb=> by rw [hb,if_pos rfl,Q3O ht]) l.length (Kaq _),hm]
  unfold QhH;rw [if_pos rfl];exact List.take_of_length_le (by simp)
 ·subst hk
  rw [ht,if_pos rfl,QaA (pl:=Q0d l i) (a:=(i,(l.getD (Q0d l i) (0,0,false)).2.1,true)) rfl (by decide) (fun b hb=> by rw [hb,if_neg (by decide),Q3O ht]) l.length (Kaq _),hm]
  unfold QhH;rw [if_pos rfl];exact List.take_of_length_le (by simp)
 ·have h3:k=3:=by have:=Q7O.1 hc;unfold QdF at this;omega
  subst h3
  rw [ht,if_pos rfl,QdD l.length (Kaq _),hm]
  have hlt:=Q5c ht
  rw [if_neg (by omega)]
  simp [QhH]
theorem Q50 (l:List Bk) (k i g fi:Int):∀t,(Q4N l k i g fi t).1.length≤2 * t
 |0=> by simp [Q4N]
 |t+1=> by
  have ih:=Q50 l k i g fi t
  unfold Q4N Q4k
  split
  ·split
   ·split <;> simp <;> omega
   ·split
    ·split <;> simp <;> omega
    ·split <;> simp <;> omega
  ·split <;> simp <;> omega
theorem QcZ {k i g fi:Int} {s:List Bk × Bool} {t:Nat} {b:Bk} (h:(Q4k k i g fi s t b).2=false):s.2=false:=by
 cases hs:s.2 with
 |false=> rfl
 |true=>
  exfalso
  unfold Q4k at h
  simp only [hs,Bool.true_eq_false,false_and,if_false] at h
  split at h
  ·split at h
   ·rw [hs] at h;cases h
   ·split at h <;> cases h
  ·cases h
theorem Q8b {l:List Bk} {k i g fi:Int}:∀t,(Q4N l k i g fi t).2=false→(k==0)=true
 |0,h=> by simpa [Q4N] using h
 |t+1,h=> Q8b (l:=l) (i:=i) (g:=g) (fi:=fi) t (QcZ h)
theorem Q55 {w:World} {ops:Array Oper} {rest:List Oper} {o:Oper} {a:Act} {Q:Exit→Act→World→Prop} (hgd:o.guard=none) (s x:Operand)
  (ho:o.op=.call { callee:=.builtin .append,args:=#[s,x],argTypes:=#[51,51] }) (base:Nat) (v:Value) (hs:List Hd) (he:a.eval s=v) (hown:ownL Q0C 47 w base v hs)
  (n:Nat) (o4:Option Addr) (m c:Nat) (hx:a.eval x=.slice (some ⟨n,0,none⟩) 1 1) (h0:w.cell? ⟨n,0,none⟩=some (.slice o4 m c)) (hlen:hs.length≤1000) (hbase:base≤w.heap.size)
  (h:∀v' w',ownL Q0C 47 w' base v' (hs++[(o4,m,c)])→w.grownBy w' v.ownBlock→wpList Tryz.prog ops Q rest (a.put o.dst v') w'):wpList Tryz.prog ops Q (o::rest) a w:=by
 obtain ⟨i0,hi,hz0,hz1,hz2⟩:=info_parts Q6m
 refine wpList_append_own _ hgd s x 51 ho base 47 i0 (.slice none 0 0) 1 24 Tryz.underlying51 hi hz0 hz1 hz2 rfl (by decide) v _ _ he hown ⟨n,0,none⟩ 1 1 [.slice o4 m c] hx rfl ?_ (by simp [Value.oneCell']) (by unfold maxLen;omega) (by omega) hbase ?_
 ·intro j u hj
  match j,hj with
  |0,hj=> simp at hj;subst hj;exact h0
 ·intro v' w' h1 h2 _
  refine h v' w' ?_ h2
  unfold ownL
  simpa [Q0C] using h1
theorem Qdq {key:Int} {l:List Bk} (hk:Q1C key=true) (hl:Q0a l=true) (b:Nat) (hb:b < 8):Q7r (Q5p (scL key b l))=Q0Z key b l:=by
 have h1:(0:Int)≤(b:Int):=by omega
 have h2:(b:Int) < 8:=by omega
 rw [Q0Z,if_pos ⟨hk,⟨h1,h2⟩,hl⟩]
theorem Q1v (key:Int) (o:Option Addr) (cap:Nat) (l:List Bk) (w:World) (hR:RdK w.heap.size w o l) (hlen:l.length≤1000) (hk:Q1C key=true) (hl:Q0a l=true):
  Calls Tryz.prog 102 #[.int .i64 key,.slice o l.length cap] w fun e w'=> ∃o' c' hs,e=.returned (.slice o' 8 c')∧ownL Q0C 47 w' w.heap.size (.slice o' 8 c') hs∧Tab (fun b=> Q0Z key b l) 8 w' w.heap.size hs∧Below w.heap.size w w':=by
 have HP:=Q02 (fun (b:Nat) (hb:b < 8) W h=> (Qdq hk hl b hb) ▸ Qcf key b o cap l W h hlen hk ⟨by omega,by omega⟩ hl)
 go_enter Tryz.func102,Tryz.ntmps102
 go_wp2
 go_loopw [5,6] (fun out iv wr=> ∃(k:Nat) (hs:List Hd),k≤8∧iv=.int .i64 k∧ownL Q0C 47 wr w.heap.size out hs∧Tab (fun b=> Q0Z key b l) k wr w.heap.size hs∧Below w.heap.size w wr)
  (fun _ iv _=> 8 - (intOf iv).toNat)
 case atStart=> exact ⟨0,[],Kcq _,rfl,World.ownsRow_nil _ _ _ _,Tab.nil _ _ _,Below.refl _ _⟩
 case round=>
  rename_i out _
  obtain ⟨k,hs,hk8,rfl,hor,htr,hBr⟩:=hrel
  by_cases hlt:k < 8
  ·have hp:=HP.out k hlt wr ((hR.kept hBr (Kaq _)).le hBr.size)
   have HO:=Q02 hor;have HT:=Q02 htr;have HB:=Q02 hBr
   have z1:(k:Int) < 8:=by omega
   clear hor htr hBr
   go_wp2_with fail
   refine hp.mono ?_
   rintro e w4 ⟨v4,rfl,hv4,hb4⟩
   obtain ⟨o4,c4,e4,_⟩:=ownL.open (L:=Q2e) hv4
   rw [e4] at hv4 ⊢
   have HT4:=Q02 ((HT.out.kept hb4).snoc HT.out.lt HB.out.size hv4);have HO4:=Q02 (Q03 HO.out hb4);have HB4:=Q02 (HB.out.trans (hb4.mono HB.out.size))
   have hl4:hs.length≤1000:=by rw [HT.out.len];omega
   have hs4:=HB4.out.size;clear hv4 hb4 hp e4;generalize (Q0Z key k l).length=q at *
   go_wp2_with (at_builtin;refine Q55 rfl (.tmp 11) (.tmp 16) rfl w.heap.size _ hs rfl (HO4.out.alloc _) w4.heap.size o4 q c4 rfl ?c1 hl4 ?c2 ?_)
   case c1=> simp
   case c2=> simp;omega
   intro v5 w5 ho5 hg5
   have HA:=Q02 (World.ownsRow.alloc HO4.out (.cells #[.slice o4 q c4] 47));have HT5:=Q02 (Tab.other (HT4.out.kept ((Below.refl _ _).alloc (Kaq _) _)) HA.out Qf7 hg5)
   have HB5:=Q02 ((HB4.out.alloc hs4 _).grown hg5 (by simp;omega) (fun k h=> (HA.out.lt k h).1))
   have HO5:=Q02 ho5;clear hg5 ho5
   go_wp2
   go_roundw
   case rel=> exact ⟨k+1,_,by omega,by go_num,HO5.out,HT5.out,HB5.out⟩
   case measure=> simp [intOf];omega
  ·have e:k=8:=by omega
   subst e;obtain ⟨o',c',e',_⟩:=ownL.open (L:=Q0C) hor;have hll:=htr.len
   rw [e',hll] at hor
   rw [e',hll]
   have HX:=Q02 (And.intro hor htr);have HB:=Q02 hBr;clear hor htr hBr e'
   go_wp2
   go_ret
   exact ⟨o',c',hs,rfl,HX.out.1,HX.out.2,HB.out⟩
end Go.Proofs.YtpneolgdghbinaaGreat
namespace Go.Proofs.YtpneolgdghbinaaGreat
open Go.ChangeShapes Go.WideShapes Go.ChangeAt Go.RowKit Go.Joins
set_option linter.unusedVariables false
set_option linter.unusedSimpArgs false
set_option maxRecDepth 100000
set_option maxHeartbeats 40000000
variable {α:Type}
theorem RdL.drop0 {L:Lay α} {C:Nat} {w:World} {b off:Nat} {l:List α} (h:RdL L C w (some ⟨b,off,none⟩) l) (k q:Nat) (hq:q=off+k * L.k):RdL L C w (some ⟨b,q,none⟩) (l.drop k):=by
 subst hq
 rcases h with h|⟨b',off',ho,hlt,r⟩
 ·left;rw [h];simp
 ·obtain ⟨rfl,rfl⟩:b=b'∧off=off':=by simpa using ho
  refine .inr ⟨b,off+k * L.k,rfl,hlt,fun i hi j hj=> ?_⟩
  have hi':k+i < l.length:=by simp at hi;omega
  have:=r (k+i) hi' j hj
  rw [Nat.add_mul,←Nat.add_assoc] at this
  rw [this]
  congr 2
  simp [List.getD_eq_getElem?_getD,List.getElem?_drop]
theorem Q81 {L:Lay α} {e:TypeId} {w:World} {base g cap:Nat} {l:List α} (hv:ownL L e w base (.slice (some ⟨g,0,none⟩) l.length cap) l) (i:Nat) (hi:i≤l.length):ownL L e w base (.slice (some ⟨g,0,none⟩) i cap) (l.take i):=by
 have hlen:(l.take i).length=i:=by simp;omega
 rcases hv.2 with ⟨h1,_⟩|⟨g',c',cur,h1,hb,hc,h4,h5,h6,h7⟩
 ·cases h1
 ·injection h1 with h1 _ h3
  injection h1 with h1
  injection h1 with h1 _ _
  subst h1 h3
  refine ⟨by rw [Q0s],.inr ⟨g,cap,cur,by rw [hlen],hb,hc,by omega,h5,h6, ?_⟩⟩
  rw [hlen]
  have e1:cur.toList.take (i * L.k)=(cur.toList.take (l.length * L.k)).take (i * L.k):=by
   rw [List.take_take,Nat.min_eq_left (Nat.mul_le_mul_right _ hi)]
  rw [e1,h7]
  have e2:l.flatMap L.cs=(l.take i).flatMap L.cs++(l.drop i).flatMap L.cs:=by rw [←List.flatMap_append,List.take_append_drop]
  rw [e2]
  exact List.take_left' (by rw [Q0s,hlen])
theorem Q6i {L:Lay α} {t e:TypeId} (ok:AppOk L t e) {ops:Array Oper} {o:Oper} {a:Act} {w:World} {K:Act→World→Prop} {Q:Exit→Act→World→Prop} {E:Prop} (hgd:o.guard=none) (s x:Operand)
  (ho:o.op=.call { callee:=.builtin .append,args:=#[s,x],argTypes:=#[t,t] }) (base g n cap:Nat) (l0:List α) (hn0:n=l0.length) (hs:a.eval s=.slice (some ⟨g,0,none⟩) n cap) (hown:ownL L e w base (.slice (some ⟨g,0,none⟩) n cap) l0)
  (ad:Addr) (c C:Nat) (l:List α) (m:Nat) (hm:m=l.length) (hx:a.eval x=.slice (some ad) m c) (hR:RdL L C w (some ad) l) (hroom:n+m≤cap)
  (h:∀w',ownL L e w' base (.slice (some ⟨g,0,none⟩) (n+m) cap) (l0++l)→w.grownBy w' (some g)→K (a.put o.dst (.slice (some ⟨g,0,none⟩) (n+m) cap)) w'):if Region.wanted o (yielded ops a.tmps)=true then Oper.wp Tryz.prog o a w K Q else E:=by
 subst hm hn0
 have hw:Region.wanted o (yielded ops a.tmps)=true:=by simp [Region.wanted,hgd]
 rw [if_pos hw]
 obtain ⟨z,bytes,hinfo,hzs,hby⟩:=ok.info;obtain ⟨i0,hi,hz0,hz1,hz2⟩:=info_parts hinfo;obtain ⟨w',hr,h1,h2⟩:=run_append_fits (P:=Tryz.prog) w base t o.type e i0 L.k ok.under hi hz1 g _ cap _ hown ad l.length c (l.flatMap L.cs) (Q0s L l) (hR.news ok.pos) (Q5k ok.one l) hroom
 unfold Oper.wp execOp
 simp only [ho,resolve,invoke,builtin,Sem.run_bind,Sem.run_pure,Result.andThen_ok,List.map_toArray,List.map_cons,List.map_nil,hs,hx,hr]
 exact h w' (by unfold ownL;simpa using h1) h2
theorem QeN (w:World):(zeroValue 119).run Tryz.prog w=.ok (.agg #[.int .i64 0,.int .i64 0,.bool false]) w:=by kernel_rfl
theorem Q9e {w:World} {base g cap n:Nat} {xs:List Value} (hv:w.ownsRow base 119 3 (.slice (some ⟨g,0,none⟩) n cap) n xs) (hroom:n+1≤cap) (ty:TypeId) (c:Nat):
  ∃w',Sem.run Tryz.prog (Builtin.clear_ #[26] ty #[.slice (some ⟨g,n * 3,none⟩) 1 c]) w=.ok (.tuple #[]) w'∧w'.ownsRow base 119 3 (.slice (some ⟨g,0,none⟩) n cap) n xs∧w.grownBy w' (some g):=by
 rcases hv.2 with ⟨h1,_⟩|⟨g',c',cur,h1,hb,hc,h4,h5,h6,h7⟩
 ·cases h1
 ·injection h1 with h1 _ h3
  injection h1 with h1
  injection h1 with h1 _ _
  subst h1 h3
  have hzc:(Builtin.zeroCells (Value.agg #[.int .i64 0,.int .i64 0,.bool false]).cells 1).toList=[.int .i64 0,.int .i64 0,.bool false]:=by first|kernel_rfl|(simp [Builtin.zeroCells,Value.cells];done)|decide
  have hst:=run_storeCells_at (P:=Tryz.prog) g (n * 3) 119 [.int .i64 0,.int .i64 0,.bool false] 0 cur w hc (by simp;omega) (by intro v hv;simp at hv;rcases hv with rfl|rfl|rfl <;> rfl)
  refine ⟨_,by simp [Builtin.clear_,run_underlying Tryz.underlying26,QeN,hzc,hst];rfl,⟨hv.1,.inr ⟨g,cap,_,rfl,hb,setRow_heap w g cur _ 119 _ hc,h4,h5, ?_, ?_⟩⟩,⟨rfl,rfl,rfl,by simp,fun k _ hk=> setRow_other w g k _ (fun e=> hk (by simp [e]))⟩⟩
  ·simp;omega
  ·simp only [Nat.add_zero,List.append_assoc]
   rw [List.take_append_of_le_length (by simp;omega),List.take_take,Nat.min_self]
   exact h7
theorem Q6f (base g cap i:Nat) (l:List Bk) (w:World) (hv:Q1i w base (.slice (some ⟨g,0,none⟩) l.length cap) l) (hi:i < l.length) (hl:l.length≤1000):
  Calls Tryz.prog 161 #[.slice (some ⟨g,0,none⟩) l.length cap,.int .i64 i,.int .i64 ((i:Int)+1)] w fun e w'=> ∃v,e=.returned v∧Q1i w' base v (l.take i++l.drop (i+1))∧w.grownBy w' (some g):=by
 have hcap:l.length≤cap:=by
  rcases hv.2 with ⟨h1,_⟩|⟨g',c',cur,h1,_,_,h4,_⟩
  ·cases h1
  ·injection h1 with _ _ h3;omega
 have z0:(i:Int) < (l.length:Int):=by omega
 have z1:(i:Int)+1≤(l.length:Int):=by omega
 have z2:0≤(i:Int)+1:=by omega
 have n1:i+1≤l.length:=by omega
 have n2:i≤l.length:=by omega
 have n3:i≤cap:=by omega
 have n4:i+1≤cap:=by omega
 have n5:((i:Int)==(i:Int)+1)=false:=by simp;omega
 have HV:=Q02 hv;have FA:Q1i w.drew base (.slice (some ⟨g,0,none⟩) i cap) (l.take i):=Q81 hv i n2
 have FR:RdK w.heap.size w.drew (if cap=i+1 then some ⟨g,0,none⟩ else some ⟨g,(i+1) * 3,none⟩) (l.drop (i+1)):=by
  have hr:RdK w.heap.size w (some ⟨g,0,none⟩) l:=ownL.rd (L:=Q12) hv
  split
  ·left;exact List.drop_eq_nil_of_le (by omega)
  ·have h:=hr.drop0 (i+1) ((i+1) * 3) (by simp [Q12])
   exact h
 have HFA:=Q02 FA;have HFR:=Q02 FR;clear FA FR hv
 go_enter Tryz.func161,Tryz.ntmps161
 go_wp2
 obtain ⟨ad,had⟩:∃ad,(if cap=i+1 then some (⟨g,0,none⟩:Addr) else some ⟨g,(i+1) * 3,none⟩)=some ad:=by split <;> exact ⟨_,rfl⟩
 rw [had] at HFR
 go_region_law (first|(refine Q6i Q3v rfl _ _ rfl base g i cap (l.take i) ?h0 rfl HFA.out ad (cap - (i+1)) w.heap.size (l.drop (i+1)) (l.length - (i+1)) ?h1 rfl HFR.out ?h2 ?_;(case h0=> (simp;omega));(case h1=> simp);(case h2=> omega);intro w8 hv8 hg8;have hv8:=Q02 hv8;have hg8:=Q02 hg8))
 all_goals (
  have hln:l.length=(i+(l.length - (i+1)))+1:=by omega
  generalize i+(l.length - (i+1))=n' at *
  have hv9:w8.ownsRow base 119 3 (.slice (some ⟨g,0,none⟩) n' cap) n' ((l.take i++l.drop (i+1)).flatMap Q12.cs):=by
   have h:=hv8.out
   unfold ownL at h
   rwa [show (l.take i++l.drop (i+1)).length=n' by simp;omega] at h
  have HV9:=Q02 hv9
  have m1:n'+1≤cap:=by omega
  have m2:¬(cap=n'):=by omega
  obtain ⟨w10,hcl,hv10,hg10⟩:=Q9e hv9 m1 0 (cap - n');have HV10:=Q02 hv10;have HG10:=Q02 hg10;have HLN:=Q02 hln;clear HFA HFR had HV HV9 hv9 hv8 hv10 hg10
  go_wp2
  go_ret
  refine ⟨_,rfl, ?_, ?_⟩
  ·have h:=HV10.out
   unfold Q1i ownL
   rw [show (l.take i++l.drop (i+1)).length=n' by have:=HLN.out;simp;omega]
   exact h
  ·have h:=hg8.out
   exact World.grownBy.trans ⟨h.os,h.tape,h.output,h.size,h.block⟩ HG10.out)
end Go.Proofs.YtpneolgdghbinaaGreat
namespace Go.Proofs.YtpneolgdghbinaaGreat
open Go.ChangeShapes Go.WideShapes Go.ChangeAt Go.RowKit Go.Joins
set_option linter.unusedVariables false
set_option linter.unusedSimpArgs false
set_option maxRecDepth 100000
set_option maxHeartbeats 40000000
theorem Qgq {w w1:World} {k i g:Int} {t:TypeId} (h:Below (w.alloc (.cells #[.int .i64 k,.int .i64 i,.int .i64 g] t)).heap.size (w.alloc (.cells #[.int .i64 k,.int .i64 i,.int .i64 g] t)) w1) (o:Obj):
  w1.cell? ⟨w.heap.size,0,none⟩=some (.int .i64 k)∧w1.cell? ⟨w.heap.size,1,none⟩=some (.int .i64 i)∧w1.cell? ⟨w.heap.size,2,none⟩=some (.int .i64 g)∧
  (w1.alloc o).cell? ⟨w.heap.size,0,none⟩=some (.int .i64 k)∧(w1.alloc o).cell? ⟨w.heap.size,2,none⟩=some (.int .i64 g)∧Below w.heap.size w w1∧Below w.heap.size w (w1.alloc o):=by
 have hs:w.heap.size < (w.alloc (.cells #[.int .i64 k,.int .i64 i,.int .i64 g] t)).heap.size:=by simp
 have hs1:w.heap.size < w1.heap.size:=Kbq hs h.size
 have hB:Below w.heap.size w w1:=((Below.refl _ _).alloc (Kaq _) _).trans (h.mono (by omega))
 have e:∀q,w1.cell? ⟨w.heap.size,q,none⟩=(w.alloc (.cells #[.int .i64 k,.int .i64 i,.int .i64 g] t)).cell? ⟨w.heap.size,q,none⟩:=fun q=> h.cell hs
 have e':∀q,(w1.alloc o).cell? ⟨w.heap.size,q,none⟩=w1.cell? ⟨w.heap.size,q,none⟩:=fun q=> ((Below.refl w1.heap.size w1).alloc (Kaq _) o).cell hs1
 refine ⟨?_, ?_, ?_, ?_, ?_,hB,hB.alloc (by omega) o⟩
 all_goals (simp only [e',e];unfold World.cell?;simp only [heap_alloc_new];rfl)
def Q84 (k i g:Int):Value:=
 if k=0 then .iface 221 (.agg #[.int .i64 i,.int .i64 g]) else
 if k=1 then .iface 222 (.agg #[.int .i64 i,.int .i64 g]) else
 if k=2 then .iface 224 (.agg #[.int .i64 i]) else .iface 225 (.agg #[.int .i64 i])
theorem Q4j (k i g:Int) (w:World):
  Calls Tryz.prog 116 #[cmd k i g] w fun e w'=> e=.returned (.tuple #[if Q0E k i g then Q84 k i g else .nilIface,.bool (Q0E k i g)])∧Below w.heap.size w w':=by
 have hc:=fun w=> Q3n k i g w
 generalize Q0E k i g=t at hc ⊢
 cases t
 all_goals (
  go_enter Tryz.func116,Tryz.ntmps116
  go_wp2_with (first|(go_at_call 73;refine (hc _).mono ?_;rintro e w1 ⟨rfl,hb1⟩;obtain ⟨c0,c1,c2,d0,d2,hB,hB'⟩:=Qgq hb1 (.cells #[.int .i64 i] 219);have HB:=Q02 hB;have HB':=Q02 hB';clear hb1 hB hB'))
  all_goals go_ret2
  all_goals refine ⟨?_,by first|exact HB.out|exact HB'.out⟩)
 all_goals (try simp only [beq_iff_eq,beq_eq_false_iff_ne,ne_eq] at *)
 all_goals simp_all [Q84]
theorem Q3l {w w':World} {k g o:Nat} (h:w.grownBy w' (some k)) (hg:g < w.heap.size) (hne:g≠k):w'.cell? ⟨g,o,none⟩=w.cell? ⟨g,o,none⟩:=
 World.cell?_of_block (w:=w) (h.block g hg (by simp [hne]))
theorem Q0H (k g:Nat) (vs:List Int) (w:World) (hc:isCur k w) (hg:g < w.heap.size) (hne:g≠k) (h0:0 < vs.length) (h1:vs.length≤1000) (hcell:∀q,q < vs.length→w.cell? ⟨g,q,none⟩=some (.int .i64 (vs.getD q 0))):
  Calls Tryz.prog 55 #[.pointer (some ⟨k,0,none⟩),.slice (some ⟨g,0,none⟩) vs.length vs.length] w fun e w'=> ∃q:Nat,q < vs.length∧e=.returned (.int .i64 (vs.getD q 0))∧isCur k w'∧w.grownBy w' (some k):=by
 generalize hn:vs.length=n at *
 go_enter Tryz.func55,Tryz.ntmps55
 go_wp2_with fail
 refine (Q0m k (n:Int) _ hc (by omega) (by omega)).mono ?_
 rintro e w1 ⟨x,rfl,hx0,hx1,hc1,hg1⟩
 obtain ⟨q,rfl⟩:=Int.eq_ofNat_of_zero_le hx0
 have hq:q < n:=by omega
 have c:=(Q3l hg1 hg hne).trans (hcell q hq);have HC:=Q02 hc1;have HG:=Q02 hg1;clear hc hc1 hg1 hcell;generalize hy:vs.getD q 0=y at *;have HY:=Q02 hy;clear hy
 go_wp2
 go_ret
 exact ⟨q,hq,Q0J HY.out.symm,HC.out,HG.out⟩
theorem QgW (w:World) (x:Int) (e:TypeId):Rd (w.alloc (.cells #[.int .u8 x] e)) (some ⟨w.heap.size,0,none⟩) [x]:=by
 right
 refine ⟨w.heap.size,0,rfl,by simp,fun i hi=> ?_⟩
 have:i=0:=by simpa using hi
 subst this
 simp
theorem Q2z {w w':World} {base k:Nat} {v:Value} {l:List Int} (h:ownB w base v l) (hg:w.grownBy w' (some k)) (hk:k < base):ownB w' base v l:=
 h.kept hg (by
  cases hob:v.ownBlock with
  |none=> exact .inl rfl
  |some j=> right;have:=(h.lt j hob).1;intro e;simp at e;omega)
theorem isCur.below {k:Nat} {w w':World} (h:isCur k w) (hb:Below (k+1) w w'):isCur k w':=by
 obtain ⟨o,cap,l,i,hh,c⟩:=h
 exact ⟨o,cap,l,i,hh,⟨(hb.cell (p:=⟨k,0,none⟩) (Nat.lt_succ_self _)).trans c.c0,(hb.cell (p:=⟨k,1,none⟩) (Nat.lt_succ_self _)).trans c.c1,(hb.cell (p:=⟨k,2,none⟩) (Nat.lt_succ_self _)).trans c.c2,
  (hb.frozen (p:=⟨k,1,none⟩) (Nat.lt_succ_self _)).trans c.f1,(hb.frozen (p:=⟨k,2,none⟩) (Nat.lt_succ_self _)).trans c.f2,c.ml,c.rd.kept hb (Nat.le_succ _),c.b8,c.i0,c.i1⟩⟩
theorem isCur.alloc {k:Nat} {w:World} (h:isCur k w) (hk:k < w.heap.size) (o:Obj):isCur k (w.alloc o):=h.below ((Below.refl _ _).alloc hk o)
theorem Q0r (w:World) (o:Obj) (k:Nat):w.grownBy (w.alloc o) (some k):=World.grownBy_alloc w o (some k)
theorem Q1g (k:Nat) (n:Int) (w:World) (hc:isCur k w) (h0:0 < n) (h1:n≤1073741824):
  Calls Tryz.prog 79 #[.pointer (some ⟨k,0,none⟩),.int .i64 n] w fun e w'=> ∃x:Bool,e=.returned (.bool x)∧isCur k w'∧w.grownBy w' (some k):=by
 go_enter Tryz.func79,Tryz.ntmps79
 go_wp2_with fail
 refine (Q0m k n _ hc h0 h1).mono ?_
 rintro e w1 ⟨x,rfl,_,_,hc1,hg1⟩
 have HC:=Q02 hc1;have HG:=Q02 hg1;clear hc hc1 hg1
 go_wp2
 go_ret
 exact ⟨_,rfl,HC.out,HG.out⟩
theorem Q1L (k:Nat) (w:World) (hc:isCur k w) (hk:k < w.heap.size):
  Calls Tryz.prog 130 #[.pointer (some ⟨k,0,none⟩)] w fun e w'=> ∃a b:Int,e=.returned (.agg #[.int .i64 a,.int .i64 b])∧(1≤a∧a≤3)∧(80≤b∧b≤82)∧isCur k w'∧w.grownBy w' (some k):=by
 have hca:=hc.alloc hk (.cells #[.int .i64 0,.int .i64 0] 36)
 have e0:(w.alloc (.cells #[.int .i64 0,.int .i64 0] 36)).cell? ⟨w.heap.size,0,none⟩=some (.int .i64 0):=by simp
 have e1:(w.alloc (.cells #[.int .i64 0,.int .i64 0] 36)).cell? ⟨w.heap.size,1,none⟩=some (.int .i64 0):=by simp
 have f0:(w.alloc (.cells #[.int .i64 0,.int .i64 0] 36)).frozen? ⟨w.heap.size,0,none⟩=false:=by simp
 have f1:(w.alloc (.cells #[.int .i64 0,.int .i64 0] 36)).frozen? ⟨w.heap.size,1,none⟩=false:=by simp
 have hg0:=Q0r w (.cells #[.int .i64 0,.int .i64 0] 36) k
 go_enter Tryz.func130,Tryz.ntmps130
 go_wp2_with fail
 generalize hw0:w.alloc (.cells #[.int .i64 0,.int .i64 0] 36)=w0 at *
 have hs0:w.heap.size < w0.heap.size:=by rw [←hw0];simp
 clear hw0
 refine (Q0m k 3 _ hca (by omega) (by omega)).mono ?_
 rintro e w1 ⟨x,rfl,hx0,hx1,hc1,hg1⟩
 go_wp2_with fail
 refine (Q0m k 3 _ hc1 (by omega) (by omega)).mono ?_
 rintro e w2 ⟨y,rfl,hy0,hy1,hc2,hg2⟩
 have hg12:=Q05 hg1 hg2
 have d0:w2.cell? ⟨w.heap.size,0,none⟩=some (.int .i64 0):=(Q3l hg12 hs0 (by omega)).trans e0
 have d1:w2.cell? ⟨w.heap.size,1,none⟩=some (.int .i64 0):=(Q3l hg12 hs0 (by omega)).trans e1
 have g0:w2.frozen? ⟨w.heap.size,0,none⟩=false:=(World.frozen?_of_block (w:=w0) (hg12.block w.heap.size hs0 (by simp;omega))).trans f0
 have g1:w2.frozen? ⟨w.heap.size,1,none⟩=false:=(World.frozen?_of_block (w:=w0) (hg12.block w.heap.size hs0 (by simp;omega))).trans f1
 have HC:=Q02 hc2;have HG:=Q02 (Q05 hg0 hg12);clear hc hca hc1 hc2 hg1 hg2 hg12 hg0 e0 e1 f0 f1
 go_wp2
 refine bodyPost_ret (v:=.agg #[.int .i64 (1+x),.int .i64 (80+y)]) (by simp [results,Tryz.results130,go_sem,d0,d1]) rfl ⟨_,_,rfl,by omega,by omega, ?_, ?_⟩
 ·exact HC.out.below (Below.setCell (Below.setCell (Below.refl _ _) (by exact hk) _) (by exact hk) _)
 ·have hb:=HG.out
  refine ⟨hb.os,hb.tape,hb.output,by simpa using hb.size,fun j hj hne=> ?_⟩
  rw [Below.heap_setCell _ _ _ _ (by simp;omega),Below.heap_setCell _ _ _ _ (by simp;omega)]
  exact hb.block j hj hne
end Go.Proofs.YtpneolgdghbinaaGreat
