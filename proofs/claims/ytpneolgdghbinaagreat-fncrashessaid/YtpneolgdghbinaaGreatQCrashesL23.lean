/- Several texts in one: SPlace, JMath, DoMath, STab3, SDelete, SDeed, SDraw2, SDraw3, SDraw4, SDrawK. -/
import Derived.Test.YtpneolgdghbinaaGreatQCrashesL22
import Derived.Test.YtpneolgdghbinaaGreatQCrashesL21
namespace Go.Proofs.YtpneolgdghbinaaGreat
open Go.ChangeShapes Go.WideShapes Go.ChangeAt Go.RowKit Go.Joins
set_option linter.unusedVariables false
set_option linter.unusedSimpArgs false
set_option maxRecDepth 100000
set_option maxHeartbeats 40000000
theorem Q3U:AppOk Q16 26 119:=⟨Tryz.underlying26,⟨_,_,Qc2,rfl,by decide⟩,by decide,fun a u hu=>by
 simp[Q16]at hu;rcases hu with rfl|rfl|rfl <;> rfl⟩
theorem QdE:AppOk Q3F 23 77:=⟨Tryz.underlying23,⟨_,_,QhI,rfl,by decide⟩,by decide,fun a u hu=>by
 simp[Q3F]at hu;rcases hu with rfl|rfl|rfl <;> rfl⟩
theorem Q1K (o:Option Addr) (cap:Nat) (l:List Bk) (w:World) (f:RdK w.heap.size w o l) (g:o=none->cap=0) (i:l.length<=1048576):
  Calls Tryz.prog 119 #[.slice o l.length cap] w fun e c=> ∃v,e=.returned v/\Q1e c w.heap.size v l/\Below w.heap.size w c:=by
 go_enter Tryz.func119,Tryz.ntmps119;go_wp2_with (at_builtin;refine Q07 Q3U rfl _ _ rfl w.heap.size (.slice none 0 0) [] rfl (KLq _ _ _ _) o cap w.heap.size l l.length rfl rfl g f ?c1 (Kaq _) ?_)
 case c1=>simp;omega
 intro v d hv b _;have a:=Q02 (show Q1e d w.heap.size v l/\Below w.heap.size w d from⟨hv,KBq.grown b (Kaq _) (fun k h=>by cases h)⟩);clear hv b;go_wp2;go_ret;exact⟨_,rfl,a.out.1,a.out.2⟩
theorem Q9H (o:Option Addr) (cap:Nat) (l:List Cd) (w:World) (f:RdC w.heap.size w o l) (g:o=none->cap=0) (i:l.length<=1048576):
  Calls Tryz.prog 71 #[.slice o l.length cap] w fun e c=> ∃v,e=.returned v/\QaU c w.heap.size v l/\Below w.heap.size w c:=by
 go_enter Tryz.func71,Tryz.ntmps71;go_wp2_with (at_builtin;refine Q07 QdE rfl _ _ rfl w.heap.size (.slice none 0 0) [] rfl (KLq _ _ _ _) o cap w.heap.size l l.length rfl rfl g f ?c1 (Kaq _) ?_)
 case c1=>simp;omega
 intro v d hv b _;have a:=Q02 (show QaU d w.heap.size v l/\Below w.heap.size w d from⟨hv,KBq.grown b (Kaq _) (fun k h=>by cases h)⟩);clear hv b;go_wp2;go_ret;exact⟨_,rfl,a.out.1,a.out.2⟩
theorem Qgi {l:List Bk} (h:Q0b l=true) {id:Int} {k:Nat} (a:k < l.length) (e:(l.getD k (0,0,false)).1=id):Q0h l id=k/\Q0A l id=true:=by
 have b:Q0h l id=k:=Q82 (KIq a) (fun j c=>by rw[<-e];exact Q5j h k a j c) (.inr (by rw[e];exact Int.lt_irrefl _));exact⟨b,by unfold Q0A;rw[b,e];simp[a]⟩
theorem QfR {l:List Bk} {id:Int} (h:∀k,k < l.length->(l.getD k (0,0,false)).1≠id):Q0A l id=false:=by
 unfold Q0A
 by_cases hp:Q0h l id < l.length
 ·have:=h _ hp
  rw[show((l.getD (Q0h l id) (0,0,false)).1==id)=false from beq_eq_false_iff_ne.2 this,Bool.and_false]
 ·simp[hp]
def Q7p (l:List Bk) (id:Int):Int:=if Q0A l id then(Q0h l id:Int)else -1
theorem Q5S (o:Option Addr) (cap:Nat) (l:List Bk) (id:Int) (w:World) (m:RdK w.heap.size w o l) (A:l.length<=1048576) (p:Q0b l=true):
  Calls Tryz.prog 146 #[.slice o l.length cap,.int .i64 id] w fun e u=>e=.returned (.int .i64 (Q7p l id))/\w=u:=by
 go_enter Tryz.func146,Tryz.ntmps146;go_wp2
 go_loop [5] (fun av=> ∃k:Nat,k<=l.length/\av=.int .i64 k/\Hid (∀j,j < k->(l.getD j (0,0,false)).1≠id))
  (fun av=>l.length - (intOf av).toNat)
 case atStart=>exact⟨0,Kcq _,rfl,fun j n=>absurd n (KMq _)⟩
 case round=>
  obtain⟨k,v,rfl,f⟩:=hrel
  by_cases hlt:k < l.length
  ·rcases m with m|⟨b,off,rfl,t,a⟩
   ·subst m;simp at hlt
   obtain⟨x,y,z,c⟩:∃x y z,l.getD k (0,0,false)=(x,y,z):=⟨_,_,_,rfl⟩;have d:=(RdL.back (C:=w.heap.size) a k hlt).1;rw[c]at d;dsimp only at d
   have B:(k:Int) < (l.length:Int):=by omega
   by_cases hx:x=id
   ·have r:=Qgi (id:=id) p hlt ((congrArg (fun q=>q.1) c).trans hx)
    have g:=Q02 (show Q7p l id=(k:Int)by unfold Q7p;rw[r.2,r.1];rfl)
    have s:(x==id)=true:=by simpa using hx
    clear c a r f hx;go_wp2;go_ret;exact⟨by rw[g.out];rfl,rfl⟩
   ·have i:Hid (∀j,j < k+1->(l.getD j (0,0,false)).1≠id):=fun j n=>by
     rcases Nat.lt_succ_iff_lt_or_eq.1 n with h|h
     ·exact f.out j h
     ·rw[h,c];exact hx
    have s:(x==id)=false:=by simpa using hx
    clear c a hx;go_wp2
    go_round
    case rel=>exact⟨k+1,by omega,by go_num,i⟩
    case measure=>simp[intOf];omega
  ·have e:k=l.length:=by omega
   have g:=Q02 (show Q7p l id= -1 by unfold Q7p;rw[QfR (e ▸ f.out)];rfl);subst e;clear f;go_wp2;go_ret;exact⟨by rw[g.out];rfl,rfl⟩
theorem Qge {α:Type} {l:List α} {d b:α} (h:b∈l):∃k,k < l.length/\l.getD k d=b:=by
 obtain⟨k,hk,e⟩:=List.getElem_of_mem h;exact⟨k,hk,by simp[hk,e]⟩
theorem Q1S {l:List Bk}:Q0b l=true↔l.Pairwise (fun a b=>a.1 < b.1)/\∀b∈l,Q3K b.1 b.2.1=true:=by
 constructor
 ·intro h
  refine⟨List.pairwise_iff_getElem.2 fun i j hi m f=>?_,fun b p=>?_⟩
  ·have:=Q5j h j m i f
   simpa[hi,m]using this
  ·obtain⟨k,c,e⟩:=Qge (d:=(0,0,false)) p
   have:=Q1k.1 h k c;unfold Qce at this;rw[<-e];simp only[Bool.and_eq_true]at this;exact this.1
 ·rintro⟨n,h2⟩
  refine Q1k.2 fun k c=>?_
  unfold Qce;simp only[Bool.and_eq_true];refine⟨h2 _ (by simp[c]), ?_⟩
  rcases Nat.eq_zero_or_pos k with e|e
  ·subst e;simp
  ·have:=List.pairwise_iff_getElem.1 n (k - 1) k (by omega) c (by omega)
   have g:k - 1 < l.length:=by omega
   simp only[KFq,KGq c,KGq g,Option.getD_some];simp[this]
theorem Qba (b:Bk) (l:List Bk) (id:Int):Q0h (b::l) id=if b.1 < id then Q0h l id+1 else 0:=by
 unfold Q0h;rw[List.takeWhile_cons]
 by_cases h:b.1 < id <;> simp[h]
theorem Q6g:∀(l:List Bk) (id:Int),∀a∈l.take (Q0h l id),a.1 < id
 |[],id,a,h=>by simp at h
 |b::l,id,a,h=>by
  rw[Qba]at h
  by_cases hb:b.1 < id
  ·rw[if_pos hb,List.take_succ_cons]at h
   rcases List.mem_cons.1 h with e|e
   ·rw[e];exact hb
   ·exact Q6g l id a e
  ·rw[if_neg hb]at h;simp at h
theorem Q8R {l:List Bk} {id:Int} (h:l.Pairwise (fun a b=>a.1 < b.1)) (j:Q0A l id=false):∀b∈l.drop (Q0h l id),id < b.1:=by
 intro b d;have m:=Q4k l id
 rcases Nat.lt_or_ge (Q0h l id) l.length with c|g
 ·have k:=Q84 l id c
  unfold Q0A at j;simp only[c,decide_true,Bool.true_and,beq_eq_false_iff_ne]at j
  have h2:id < (l.getD (Q0h l id) (0,0,false)).1:=by omega
  rw[List.drop_eq_getElem_cons c]at d
  have e:l.getD (Q0h l id) (0,0,false)=l[Q0h l id]:=by simp[c]
  rw[e]at h2
  rcases List.mem_cons.1 d with f|f
  ·rw[f];exact h2
  ·have i:(l.drop (Q0h l id)).Pairwise (fun a b=>a.1 < b.1):=h.sublist (List.drop_sublist _ _)
   rw[List.drop_eq_getElem_cons c]at i;have:=(List.pairwise_cons.1 i).1 b f;omega
 ·rw[List.drop_eq_nil_of_le g]at d;simp at d
theorem QeV {l:List Bk} {id g:Int} (h:Q0b l=true) (m:Q0A l id=false) (f:Q3K id g=true):Q0b (l.take (Q0h l id)++(id,g,false)::l.drop (Q0h l id))=true:=by
 obtain⟨d,h2⟩:=Q1S.1 h;have k:=Q8R d m;refine Q1S.2 ⟨?_, ?_⟩
 ·have e:l.take (Q0h l id)++l.drop (Q0h l id)=l:=List.take_append_drop _ _
  rw[<-e]at d;obtain⟨n,p,q⟩:=List.pairwise_append.1 d;refine List.pairwise_append.2 ⟨by simpa using n,List.pairwise_cons.2 ⟨by simpa using k,by simpa using p⟩, ?_⟩;intro a j b f
  rcases List.mem_cons.1 f with c|c
  ·rw[c];exact Q6g l id a j
  ·have:=Q6g l id a j;have:=k b c;omega
 ·intro b i
  rcases List.mem_append.1 i with e|e
  ·exact h2 b (List.mem_of_mem_take e)
  ·rcases List.mem_cons.1 e with e|e
   ·rw[e];exact f
   ·exact h2 b (List.mem_of_mem_drop e)
theorem QeF {l:List Bk} (n:Nat) (h:Q0b l=true):Q0b (l.take n++l.drop (n+1))=true:=by
 obtain⟨a,h2⟩:=Q1S.1 h
 have hs:(l.take n++l.drop (n+1)).Sublist l:=by
  have:=List.Sublist.append (List.Sublist.refl (l.take n)) (List.drop_sublist 1 (l.drop n));rw[List.drop_drop,List.take_append_drop]at this;exact this
 exact Q1S.2 ⟨a.sublist hs,fun b c=>h2 b (hs.subset c)⟩
theorem Qh4 {l:List Bk} {n:Nat} {a:Bk} (h:Q0b l=true) (m:n < l.length) (e:(l.getD n (0,0,false)).1=a.1) (k:Q3K a.1 a.2.1=true):Q0b (l.set n a)=true:=by
 obtain⟨f,h2⟩:=Q1S.1 h;refine Q1S.2 ⟨?_, ?_⟩
 ·have g:(l.map (·.1)).Pairwise (fun a b=>a < b):=List.pairwise_map.2 f
  have d:(l.set n a).map (·.1)=l.map (·.1):=by
   apply List.ext_getElem
   ·simp
   ·intro i p q
    simp only[List.getElem_map,List.getElem_set]
    split
    ·next hi=>subst hi;rw[<-e];simp[m]
    ·rfl
  have j:=d ▸ g;exact List.pairwise_map.1 j
 ·intro b c
  rcases List.mem_or_eq_of_mem_set c with c|c
  ·exact h2 b c
  ·rw[c];exact k
theorem Q5O {l m:List Bk} {k i g:Int} (h:doL l k i g=some m):(Q0A l i=false/\k=0/\m=l.take (Q0h l i)++(i,g,false)::l.drop (Q0h l i))\/(Q0A l i=true/\k=1/\m=l.set (Q0h l i) (i,g,(l.getD (Q0h l i) (0,0,false)).2.2))\/(Q0A l i=true/\k=2/\m=l.set (Q0h l i) (i,(l.getD (Q0h l i) (0,0,false)).2.1,true))\/(Q0A l i=true/\k≠0/\k≠1/\k≠2/\m=l.take (Q0h l i)++l.drop (Q0h l i+1)):=by
 unfold doL at h
 split at h
 ·cases h
 ·next a=>
  injection h with h
  by_cases h0:k=0
  ·subst h0
   simp only[beq_self_eq_true,Bool.not_eq_true]at a
   left;exact⟨a,rfl,by rw[<-h];simp⟩
  ·have c:(k==0)=false:=beq_eq_false_iff_ne.2 h0
   rw[c]at a
   have b:Q0A l i=true:=by cases h:Q0A l i <;> simp_all
   right
   by_cases h1:k=1
   ·left;exact⟨b,h1,by rw[<-h,if_neg h0,if_pos h1]⟩
   ·right
    by_cases h2:k=2
    ·left;exact⟨b,h2,by rw[<-h,if_neg h0,if_neg h1,if_pos h2]⟩
    ·right;exact⟨b,h0,h1,h2,by rw[<-h,if_neg h0,if_neg h1,if_neg h2]⟩
theorem Q91 {l m:List Bk} {k i g:Int} (h:doL l k i g=some m):m.length<=l.length+1:=by
 have hp:=Q4k l i
 rcases Q5O h with⟨_,_,rfl⟩|⟨_,_,rfl⟩|⟨_,_,rfl⟩|⟨_,_,_,_,rfl⟩ <;> simp <;> omega
theorem Q5H {l:List Bk} {id:Int} (h:Q0A l id=true):Q0h l id < l.length:=by
 unfold Q0A at h;simp at h;exact h.1
theorem Q4a {l:List Bk} {id:Int} (h:Q0A l id=true):(l.getD (Q0h l id) (0,0,false)).1=id:=by
 unfold Q0A at h;simp only[Bool.and_eq_true,beq_iff_eq]at h;exact h.2
theorem QbQ {k i g:Int} (h:Q0F k i g=true):k=0\/k=1->Q3K i g=true:=by
 intro hk;unfold Q0F at h;unfold Q3K;simp at h ⊢;omega
theorem Q8W {l m:List Bk} {k i g:Int} (d:Q0b l=true) (j:Q0F k i g=true) (h:doL l k i g=some m):Q0b m=true:=by
 have b:=QbQ j
 rcases Q5O h with⟨a,c,rfl⟩|⟨a,c,rfl⟩|⟨a,c,rfl⟩|⟨a,c,_,_,rfl⟩
 ·exact QeV d a (b (.inl c))
 ·exact Qh4 d (Q5H a) (Q4a a) (b (.inr c))
 ·refine Qh4 d (Q5H a) (Q4a a) ?_
  obtain⟨n,h2⟩:=Q1S.1 d;have f:=Q5H a;have:=h2 (l.getD (Q0h l i) (0,0,false)) (by simp[f]);rw[Q4a a]at this;exact this
 ·exact QeF _ d
def Q5f (s:Option (List Bk)) (c:Cd):Option (List Bk):=s.bind fun l=>if Q0F c.1 c.2.1 c.2.2=true then doL l c.1 c.2.1 c.2.2 else none
def Q0S (cs:List Cd) (q:Nat):Option (List Bk):=(cs.take q).foldl Q5f (some [])
theorem Qdb (cs:List Cd):Q0S cs 0=some []:=rfl
theorem Q2A {cs:List Cd} {q:Nat} (h:q < cs.length):Q0S cs (q+1)=Q5f (Q0S cs q) (cs.getD q (0,0,0)):=by
 unfold Q0S;rw[Q11 Q3F cs q h,List.foldl_append]
 rfl
theorem Qd9 (cs:List Cd):cs.foldl Q5f none=none:=by
 induction cs with
 |nil=>rfl
 |cons c cs ih=>exact ih
theorem Q6k {cs:List Cd} {q r:Nat} (h:Q0S cs q=none) (a:q<=r):Q0S cs r=none:=by
 unfold Q0S at h ⊢
 have e:cs.take r=cs.take q++(cs.take r).drop q:=by
  have:=(List.take_append_drop q (cs.take r)).symm
  rwa [List.take_take,Nat.min_eq_left a]at this
 rw[e,List.foldl_append,h,Qd9]
theorem Q4v {cs:List Cd}:∀(q:Nat) (l:List Bk),q<=cs.length->Q0S cs q=some l->Q0b l=true/\l.length<=q
 |0,l,hq,h=>by rw[Qdb]at h;injection h with h;subst h;exact⟨rfl,Kaq _⟩
 |q+1,l,hq,h=>by
  rw[Q2A (by omega)]at h
  cases hp:Q0S cs q with
  |none=>rw[hp]at h;cases h
  |some l0=>
   rw[hp]at h;obtain⟨b,c⟩:=Q4v q l0 (by omega) hp;simp only[Q5f,Option.bind_some]at h
   split at h
   ·next a=>
    have:=Q91 h;exact⟨Q8W b a h,by omega⟩
   ·cases h
def Q0f (key:Int) (cs:List Cd) (safe:Int):Bool:=Q1D key && decide (cs.length<=100) && decide (0<=safe) && decide (safe<=(cs.length:Int)) && (Q0S cs cs.length).isSome
def Q4N (k i g fi:Int) (s:List Bk × Bool) (t:Nat) (b:Bk):List Bk × Bool:=
 if(t:Int)=fi then(if k=3 then(if s.2=false/\i < b.1 then(s.1++[(i,g,false)],true)else s)else if k=1 then((if s.2=false/\i < b.1 then(s.1++[(i,g,false)],true)else s).1++[(b.1,g,b.2.2)],(if s.2=false/\i < b.1 then(s.1++[(i,g,false)],true)else s).2)else((if s.2=false/\i < b.1 then(s.1++[(i,g,false)],true)else s).1++[(b.1,b.2.1,true)],(if s.2=false/\i < b.1 then(s.1++[(i,g,false)],true)else s).2))
 else((if s.2=false/\i < b.1 then(s.1++[(i,g,false)],true)else s).1++[b],(if s.2=false/\i < b.1 then(s.1++[(i,g,false)],true)else s).2)
def Q5e (l:List Bk) (k i g fi:Int):Nat->List Bk × Bool
 |0=>([], !(k==0))
 |t+1=>Q4N k i g fi (Q5e l k i g fi t) t (l.getD t (0,0,false))
def Qin (s:List Bk × Bool) (i g:Int):List Bk:=if s.2=true then s.1 else s.1++[(i,g,false)]
theorem Q5A {l:List Bk} {t:Nat} (h:t < l.length):l.take (t+1)=l.take t++[l.getD t (0,0,false)]:=Q11 Q16 l t h
theorem Q3T {l:List Bk} {t n:Nat} (h:t < l.length) (hn:n<=t):(l.take (t+1)).drop n=(l.take t).drop n++[l.getD t (0,0,false)]:=by
 rw[Q5A h,List.drop_append_of_le_length (by simp;omega)]
theorem QfF {l:List Bk} {i g:Int} (k:Q0b l=true) (m:Q0A l i=false):∀t,t<=l.length->Q5e l 0 i g (-1) t=if t<=Q0h l i then(l.take t,false)else(l.take (Q0h l i)++(i,g,false)::(l.take t).drop (Q0h l i),true)
 |0,_=>by simp[Q5e]
 |t+1,ht=>by
  have p:=QfF (g:=g) k m t (by omega)
  have a:t < l.length:=by omega
  have d:¬((t:Int)= -1):=by omega
  have f:=Q8R (Q1S.1 k).1 m;unfold Q5e;rw[p];unfold Q4N;rw[if_neg d]
  rcases Nat.lt_trichotomy t (Q0h l i)with h|h|h
  ·have j:=Q7B l i t h
   have b:t<=Q0h l i:=by omega
   have c:t+1<=Q0h l i:=by omega
   have n:¬i < (l.getD t (0,0,false)).1:=by omega
   simp only[if_pos b,if_pos c,n,and_false,if_false];rw[Q5A a]
  ·have hm:l.getD t (0,0,false)∈l.drop (Q0h l i):=by
    have e:l.getD t (0,0,false)=l[t]:=by simp[a]
    rw[<-h,List.drop_eq_getElem_cons a,e];exact List.mem_cons_self
   have j:=f _ hm
   have b:t<=Q0h l i:=by omega
   have c:¬t+1<=Q0h l i:=by omega
   simp only[if_pos b,if_neg c,j,and_self,if_true];rw[Q3T a (by omega),<-h];simp
  ·have b:¬t<=Q0h l i:=by omega
   have c:¬t+1<=Q0h l i:=by omega
   simp only[if_neg b,if_neg c,Bool.true_eq_false,false_and,if_false];rw[Q3T a (by omega)];simp
theorem Qbj {l:List Bk} {k i g:Int} {pl:Nat} {a:Bk} (j:(k==0)=false) (m:k≠3) (n:∀b:Bk,b=l.getD pl (0,0,false)->(if k=1 then(b.1,g,b.2.2)else(b.1,b.2.1,true))=a):∀t,t<=l.length->Q5e l k i g (pl:Int) t=((l.set pl a).take t,true)
 |0,_=>by simp[Q5e,j]
 |t+1,ht=>by
  have q:=Qbj (g:=g) (i:=i) j m n t (by omega)
  have c:t < l.length:=by omega
  unfold Q5e;rw[q];unfold Q4N
  have d:¬((true=false)/\i < (l.getD t (0,0,false)).1):=by rintro⟨h,_⟩;cases h
  rw[Q5A (l:=l.set pl a) (by simpa using c)]
  by_cases h:t=pl
  ·subst h
   have e:=n _ rfl;rw[if_pos rfl,if_neg m];simp only[d,if_false]
   have f:(l.set t a).getD t (0,0,false)=a:=by simp[c]
   rw[f,<-e]
   by_cases h1:k=1
   ·rw[if_pos h1,if_pos h1]
   ·rw[if_neg h1,if_neg h1]
  ·have p:¬((t:Int)=(pl:Int)):=by omega
   rw[if_neg p];simp only[d,if_false]
   have f:(l.set pl a).getD t (0,0,false)=l.getD t (0,0,false):=by
    simp only[KFq];rw[List.getElem?_set_ne (fun e=>h e.symm)]
   rw[f]
theorem Qf7 {l:List Bk} {i g:Int} {pl:Nat}:∀t,t<=l.length->Q5e l 3 i g (pl:Int) t=(if t<=pl then l.take t else l.take pl++(l.take t).drop (pl+1),true)
 |0,_=>by simp[Q5e]
 |t+1,ht=>by
  have j:=Qf7 (l:=l) (g:=g) (i:=i) (pl:=pl) t (by omega)
  have d:t < l.length:=by omega
  unfold Q5e;rw[j];unfold Q4N
  have f:¬((true=false)/\i < (l.getD t (0,0,false)).1):=by rintro⟨h,_⟩;cases h
  simp only[f,if_false,if_true]
  rcases Nat.lt_trichotomy t pl with h|h|h
  ·have a:t<=pl:=by omega
   have b:t+1<=pl:=by omega
   have c:¬((t:Int)=(pl:Int)):=by omega
   simp only[if_pos a,if_pos b,if_neg c];rw[Q5A d]
  ·have a:t<=pl:=by omega
   have b:¬t+1<=pl:=by omega
   have c:(t:Int)=(pl:Int):=by omega
   simp only[if_pos a,if_neg b,if_pos c];rw[h];simp
  ·have a:¬t<=pl:=by omega
   have b:¬t+1<=pl:=by omega
   have c:¬((t:Int)=(pl:Int)):=by omega
   simp only[if_neg a,if_neg b,if_neg c];rw[Q3T d (by omega)];simp
theorem Qe6 {l m:List Bk} {k i g:Int} (r:Q0b l=true) (n:Q0F k i g=true) (h:doL l k i g=some m):Qin (Q5e l k i g (Q7p l i) l.length) i g=m:=by
 have t:=Q4k l i;unfold Q7p
 rcases Q5O h with⟨c,d,hm⟩|⟨c,d,hm⟩|⟨c,d,hm⟩|⟨c,d,p,q,hm⟩
 ·subst d
  rw[c];simp only[Bool.false_eq_true,if_false];rw[QfF r c l.length (Kaq _),hm];unfold Qin
  by_cases hle:l.length<=Q0h l i
  ·rw[if_pos hle]
   have e:Q0h l i=l.length:=by omega
   simp[e]
  ·rw[if_neg hle]
   simp
 ·subst d
  rw[c,if_pos rfl,Qbj (pl:=Q0h l i) (a:=(i,g,(l.getD (Q0h l i) (0,0,false)).2.2)) rfl (by decide) (fun b f=>by rw[f,if_pos rfl,Q4a c]) l.length (Kaq _),hm];unfold Qin;rw[if_pos rfl];exact List.take_of_length_le (by simp)
 ·subst d
  rw[c,if_pos rfl,Qbj (pl:=Q0h l i) (a:=(i,(l.getD (Q0h l i) (0,0,false)).2.1,true)) rfl (by decide) (fun b f=>by rw[f,if_neg (by decide),Q4a c]) l.length (Kaq _),hm];unfold Qin;rw[if_pos rfl];exact List.take_of_length_le (by simp)
 ·have j:k=3:=by have:=Q8V.1 n;unfold Qdc at this;omega
  subst j;rw[c,if_pos rfl,Qf7 l.length (Kaq _),hm];have s:=Q5H c;rw[if_neg (by omega)];simp[Qin]
theorem Q5l (l:List Bk) (k i g fi:Int):∀t,(Q5e l k i g fi t).1.length<=2 * t
 |0=>by simp[Q5e]
 |t+1=>by
  have a:=Q5l l k i g fi t;unfold Q5e Q4N
  split
  ·split
   ·split <;> simp <;> omega
   ·split
    ·split <;> simp <;> omega
    ·split <;> simp <;> omega
  ·split <;> simp <;> omega
theorem Qee {k i g fi:Int} {s:List Bk × Bool} {t:Nat} {b:Bk} (h:(Q4N k i g fi s t b).2=false):s.2=false:=by
 cases hs:s.2 with
 |false=>rfl
 |true=>
  exfalso
  unfold Q4N at h;simp only[hs,Bool.true_eq_false,false_and,if_false]at h
  split at h
  ·split at h
   ·rw[hs]at h;cases h
   ·split at h <;> cases h
  ·cases h
theorem Q95 {l:List Bk} {k i g fi:Int}:∀t,(Q5e l k i g fi t).2=false->(k==0)=true
 |0,h=>by simpa[Q5e]using h
 |t+1,h=>Q95 (l:=l) (i:=i) (g:=g) (fi:=fi) t (Qee h)
theorem Q5y {w:World} {f:Array Oper} {rest:List Oper} {o:Oper} {a:Act} {Q:Exit->Act->World->Prop} (l:o.guard=none) (s x:Operand)
  (C:o.op=.call { callee:=.builtin .append,args:=#[s,x],argTypes:=#[51,51] }) (base:Nat) (v:Value) (hs:List Hd) (B:a.eval s=v) (d:ownL Q0E 47 w base v hs)
  (n:Nat) (t:Option Addr) (m c:Nat) (D:a.eval x=.slice (some ⟨n,0,none⟩) 1 1) (z:w.cell? ⟨n,0,none⟩=some (.slice t m c)) (y:hs.length<=1000) (b:base<=w.heap.size)
  (h:∀k g,ownL Q0E 47 g base k (hs++[(t,m,c)])->w.grownBy g v.ownBlock->wpList Tryz.prog f Q rest (a.put o.dst k) g):wpList Tryz.prog f Q (o::rest) a w:=by
 obtain⟨E,hi,p,q,r⟩:=info_parts Q6W;refine wpList_append_own _ l s x 51 C base 47 E (.slice none 0 0) 1 24 Tryz.underlying51 hi p q r rfl (by decide) v _ _ B d ⟨n,0,none⟩ 1 1 [.slice t m c] D rfl ?_ (by simp[Value.oneCell']) (by unfold maxLen;omega) (by omega) b ?_
 ·intro j u i
  match j,i with
  |0,i=>simp at i;subst i;exact z
 ·intro k g A h2 _
  refine h k g ?_ h2;unfold ownL
  simpa[Q0E]using A
theorem Qfq {key:Int} {l:List Bk} (c:Q1D key=true) (d:Q0b l=true) (b:Nat) (f:b < 8):Q8e (Q5Q (scL key b l))=Q14 key b l:=by
 have a:(0:Int)<=(b:Int):=by omega
 have h2:(b:Int) < 8:=by omega
 rw[Q14,if_pos ⟨c,⟨a,h2⟩,d⟩]
theorem Q1x (key:Int) (o:Option Addr) (cap:Nat) (l:List Bk) (w:World) (T:RdK w.heap.size w o l) (p:l.length<=1000) (J:Q1D key=true) (M:Q0b l=true):
  Calls Tryz.prog 102 #[.int .i64 key,.slice o l.length cap] w fun e E=> ∃u t hs,e=.returned (.slice u 8 t)/\ownL Q0E 47 E w.heap.size (.slice u 8 t) hs/\Tab (fun b=>Q14 key b l) 8 E w.heap.size hs/\Below w.heap.size w E:=by
 have R:=Q02 (fun (b:Nat) (U:b < 8) W h=>(Qfq J M b U) ▸ QdC key b o cap l W h p J ⟨by omega,by omega⟩ M);go_enter Tryz.func102,Tryz.ntmps102;go_wp2
 go_loopw [5,6] (fun out iv wr=> ∃(k:Nat) (hs:List Hd),k<=8/\iv=.int .i64 k/\ownL Q0E 47 wr w.heap.size out hs/\Tab (fun b=>Q14 key b l) k wr w.heap.size hs/\Below w.heap.size w wr)
  (fun _ iv _=> 8 - (intOf iv).toNat)
 case atStart=>exact⟨0,[],Kcq _,rfl,KLq _ _ _ _,Tab.nil _ _ _,KBq⟩
 case round=>
  rename_i out _
  obtain⟨k,hs,V,rfl,c,d,a⟩:=hrel
  by_cases hlt:k < 8
  ·have N:=R.out k hlt wr ((T.kept a (Kaq _)).le a.size)
   have P:=Q02 c;have y:=Q02 d;have j:=Q02 a
   have z1:(k:Int) < 8:=by omega
   clear c d a;go_wp2_with fail;refine N.mono ?_;rintro e X ⟨Y,rfl,g,f⟩;obtain⟨O,H,I,_⟩:=ownL.open (L:=Q2m) g;rw[I]at g ⊢;have z:=Q02 ((y.out.kept f).snoc y.out.lt j.out.size g);have n:=Q02 (Q03 P.out f);have m:=Q02 (j.out.trans (f.mono j.out.size))
   have C:hs.length<=1000:=by rw[y.out.len];omega
   have D:=m.out.size;clear g f N I;generalize (Q14 key k l).length=q at *;go_wp2_with (at_builtin;refine Q5y rfl (.tmp 11) (.tmp 16) rfl w.heap.size _ hs rfl (n.out.alloc _) X.heap.size O q H rfl ?c1 C ?c2 ?_)
   case c1=>simp
   case c2=>simp;omega
   intro Z w5 s i;have F:=Q02 (World.ownsRow.alloc n.out (.cells #[.slice O q H] 47));have A:=Q02 (Tab.other (z.out.kept (KBq.alloc (Kaq _) _)) F.out QgY i);have v:=Q02 ((m.out.alloc D _).grown i (by simp;omega) (fun k h=>(F.out.lt k h).1));have x:=Q02 s;clear i s;go_wp2;go_roundw
   case rel=>exact⟨k+1,_,by omega,by go_num,x.out,A.out,v.out⟩
   case measure=>simp[intOf];omega
  ·have e:k=8:=by omega
   subst e;obtain⟨u,t,B,_⟩:=ownL.open (L:=Q0E) c;have r:=d.len;rw[B,r]at c;rw[B,r];have G:=Q02 (And.intro c d);have j:=Q02 a;clear c d a B;go_wp2;go_ret;exact⟨u,t,hs,rfl,G.out.1,G.out.2,j.out⟩
end Go.Proofs.YtpneolgdghbinaaGreat
namespace Go.Proofs.YtpneolgdghbinaaGreat
open Go.ChangeShapes Go.WideShapes Go.ChangeAt Go.RowKit Go.Joins
set_option linter.unusedVariables false
set_option linter.unusedSimpArgs false
set_option maxRecDepth 100000
set_option maxHeartbeats 40000000
variable {α:Type}
theorem RdL.drop0 {L:Lay α} {C:Nat} {w:World} {b off:Nat} {l:List α} (h:RdL L C w (some ⟨b,off,none⟩) l) (k q:Nat) (n:q=off+k * L.k):RdL L C w (some ⟨b,q,none⟩) (l.drop k):=by
 subst n
 rcases h with h|⟨f,a,m,d,r⟩
 ·left;rw[h];simp
 ·obtain⟨rfl,rfl⟩:b=f/\off=a:=by simpa using m
  refine .inr ⟨b,off+k * L.k,rfl,d,fun i hi j g=>?_⟩
  have c:k+i < l.length:=by simp at hi;omega
  have:=r (k+i) c j g;rw[Nat.add_mul,<-Nat.add_assoc]at this;rw[this]
  congr 2
  simp[KFq,List.getElem?_drop]
theorem Q8z {L:Lay α} {e:TypeId} {w:World} {base g cap:Nat} {l:List α} (hv:ownL L e w base (.slice (some ⟨g,0,none⟩) l.length cap) l) (i:Nat) (hi:i<=l.length):ownL L e w base (.slice (some ⟨g,0,none⟩) i cap) (l.take i):=by
 have a:(l.take i).length=i:=by simp;omega
 rcases hv.2 with⟨b,_⟩|⟨r,q,c,b,n,p,s,h,j,m⟩
 ·cases b
 ·injection b with b _ h3
  injection b with b;injection b with b _ _;subst b h3;refine⟨by rw[Q0l],.inr ⟨g,cap,c,by rw[a],n,p,by omega,h,j, ?_⟩⟩;rw[a]
  have d:c.toList.take (i * L.k)=(c.toList.take (l.length * L.k)).take (i * L.k):=by
   rw[List.take_take,Nat.min_eq_left (Nat.mul_le_mul_right _ hi)]
  rw[d,m]
  have f:l.flatMap L.cs=(l.take i).flatMap L.cs++(l.drop i).flatMap L.cs:=by rw[<-List.flatMap_append,List.take_append_drop]
  rw[f];exact List.take_left' (by rw[Q0l,a])
theorem Q6G {L:Lay α} {t e:TypeId} (ok:AppOk L t e) {i:Array Oper} {o:Oper} {a:Act} {w:World} {K:Act->World->Prop} {Q:Exit->Act->World->Prop} {E:Prop} (r:o.guard=none) (s x:Operand)
  (F:o.op=.call { callee:=.builtin .append,args:=#[s,x],argTypes:=#[t,t] }) (base g n cap:Nat) (y:List α) (u:n=y.length) (hs:a.eval s=.slice (some ⟨g,0,none⟩) n cap) (f:ownL L e w base (.slice (some ⟨g,0,none⟩) n cap) y)
  (p:Addr) (c C:Nat) (l:List α) (m:Nat) (hm:m=l.length) (I:a.eval x=.slice (some p) m c) (B:RdL L C w (some p) l) (d:n+m<=cap)
  (h:∀j,ownL L e j base (.slice (some ⟨g,0,none⟩) (n+m) cap) (y++l)->w.grownBy j (some g)->K (a.put o.dst (.slice (some ⟨g,0,none⟩) (n+m) cap)) j):if Region.wanted o (yielded i a.tmps)=true then Oper.wp Tryz.prog o a w K Q else E:=by
 subst hm u
 have H:Region.wanted o (yielded i a.tmps)=true:=by simp[Region.wanted,r]
 rw[if_pos H];obtain⟨z,q,b,N,D⟩:=ok.info;obtain⟨O,hi,J,v,M⟩:=info_parts b;obtain⟨j,G,A,h2⟩:=run_append_fits (P:=Tryz.prog) w base t o.type e O L.k ok.under hi v g _ cap _ f p l.length c (l.flatMap L.cs) (Q0l L l) (B.news ok.pos) (Q5D ok.one l) d;unfold Oper.wp execOp;simp only[F,resolve,invoke,builtin,Sem.run_bind,Sem.run_pure,Result.andThen_ok,List.map_toArray,List.map_cons,List.map_nil,hs,I,G];exact h j (by unfold ownL;simpa using A) h2
theorem QgN (w:World):(zeroValue 119).run Tryz.prog w=.ok (.agg #[.int .i64 0,.int .i64 0,.bool false]) w:=by kernel_rfl
theorem QaM {w:World} {base g cap n:Nat} {l:List Value} (hv:w.ownsRow base 119 3 (.slice (some ⟨g,0,none⟩) n cap) n l) (d:n+1<=cap) (t:TypeId) (c:Nat):
  ∃i,Sem.run Tryz.prog (Builtin.clear_ #[26] t #[.slice (some ⟨g,n * 3,none⟩) 1 c]) w=.ok (.tuple #[]) i/\i.ownsRow base 119 3 (.slice (some ⟨g,0,none⟩) n cap) n l/\w.grownBy i (some g):=by
 rcases hv.2 with⟨a,_⟩|⟨x,u,b,a,r,j,m,p,y,q⟩
 ·cases a
 ·injection a with a _ h3
  injection a with a;injection a with a _ _;subst a h3
  have h:(Builtin.zeroCells (Value.agg #[.int .i64 0,.int .i64 0,.bool false]).cells 1).toList=[.int .i64 0,.int .i64 0,.bool false]:=by first|kernel_rfl|(simp[Builtin.zeroCells,Value.cells];done)|decide
  have f:=run_storeCells_at (P:=Tryz.prog) g (n * 3) 119 [.int .i64 0,.int .i64 0,.bool false] 0 b w j (by simp;omega) (by intro v hv;simp at hv;rcases hv with rfl|rfl|rfl <;> rfl);refine⟨_,by simp[Builtin.clear_,run_underlying Tryz.underlying26,QgN,h,f];rfl,⟨hv.1,.inr ⟨g,cap,_,rfl,r,setRow_heap w g b _ 119 _ j,m,p, ?_, ?_⟩⟩,⟨rfl,rfl,rfl,by simp,fun k _ s=>setRow_other w g k _ (fun e=>s (by simp[e]))⟩⟩
  ·simp;omega
  ·simp only[Nat.add_zero,List.append_assoc]
   rw[List.take_append_of_le_length (by simp;omega),List.take_take,Nat.min_self];exact q
theorem Q6F (base g cap i:Nat) (l:List Bk) (w:World) (hv:Q1e w base (.slice (some ⟨g,0,none⟩) l.length cap) l) (hi:i < l.length) (J:l.length<=1000):
  Calls Tryz.prog 161 #[.slice (some ⟨g,0,none⟩) l.length cap,.int .i64 i,.int .i64 ((i:Int)+1)] w fun e x=> ∃v,e=.returned v/\Q1e x base v (l.take i++l.drop (i+1))/\w.grownBy x (some g):=by
 have u:l.length<=cap:=by
  rcases hv.2 with⟨h1,_⟩|⟨H,G,z,h1,_,_,I,_⟩
  ·cases h1
  ·injection h1 with _ _ h3;omega
 have T:(i:Int) < (l.length:Int):=by omega
 have U:(i:Int)+1<=(l.length:Int):=by omega
 have V:0<=(i:Int)+1:=by omega
 have N:i+1<=l.length:=by omega
 have D:i<=l.length:=by omega
 have O:i<=cap:=by omega
 have P:i+1<=cap:=by omega
 have R:((i:Int)==(i:Int)+1)=false:=by simp;omega
 have y:=Q02 hv;have FA:Q1e w.drew base (.slice (some ⟨g,0,none⟩) i cap) (l.take i):=Q8z hv i D
 have FR:RdK w.heap.size w.drew (if cap=i+1 then some ⟨g,0,none⟩else some ⟨g,(i+1) * 3,none⟩) (l.drop (i+1)):=by
  have B:RdK w.heap.size w (some ⟨g,0,none⟩) l:=ownL.rd (L:=Q16) hv
  split
  ·left;exact List.drop_eq_nil_of_le (by omega)
  ·have h:=B.drop0 (i+1) ((i+1) * 3) (by simp[Q16])
   exact h
 have k:=Q02 FA;have d:=Q02 FR;clear FA FR hv;go_enter Tryz.func161,Tryz.ntmps161;go_wp2
 obtain⟨s,p⟩:∃s,(if cap=i+1 then some (⟨g,0,none⟩:Addr)else some ⟨g,(i+1) * 3,none⟩)=some s:=by split <;> exact⟨_,rfl⟩
 rw[p]at d
 go_region_law (first|(refine Q6G Q3U rfl _ _ rfl base g i cap (l.take i) ?h0 rfl k.out s (cap - (i+1)) w.heap.size (l.drop (i+1)) (l.length - (i+1)) ?h1 rfl d.out ?h2 ?_;(case h0=>(simp;omega));(case h1=>simp);(case h2=>omega);intro F a f;have a:=Q02 a;have f:=Q02 f))
 all_goals (
  have t:l.length=(i+(l.length - (i+1)))+1:=by omega
  generalize i+(l.length - (i+1))=n' at *
  have j:F.ownsRow base 119 3 (.slice (some ⟨g,0,none⟩) n' cap) n' ((l.take i++l.drop (i+1)).flatMap Q16.cs):=by
   have h:=a.out;unfold ownL at h
   rwa [show(l.take i++l.drop (i+1)).length=n' by simp;omega]at h
  have r:=Q02 j
  have C:n'+1<=cap:=by omega
  have M:¬(cap=n'):=by omega
  obtain⟨E,A,c,b⟩:=QaM j C 0 (cap - n');have n:=Q02 c;have m:=Q02 b;have q:=Q02 t;clear k d p y r j a c b;go_wp2;go_ret;refine⟨_,rfl, ?_, ?_⟩
  ·have h:=n.out
   unfold Q1e ownL;rw[show(l.take i++l.drop (i+1)).length=n' by have:=q.out;simp;omega];exact h
  ·have h:=f.out
   exact World.grownBy.trans ⟨h.os,h.tape,h.output,h.size,h.block⟩ m.out)
end Go.Proofs.YtpneolgdghbinaaGreat
namespace Go.Proofs.YtpneolgdghbinaaGreat
open Go.ChangeShapes Go.WideShapes Go.ChangeAt Go.RowKit Go.Joins
set_option linter.unusedVariables false
set_option linter.unusedSimpArgs false
set_option maxRecDepth 100000
set_option maxHeartbeats 40000000
theorem QhK {w a:World} {k i g:Int} {t:TypeId} (h:Below (w.alloc (.cells #[.int .i64 k,.int .i64 i,.int .i64 g] t)).heap.size (w.alloc (.cells #[.int .i64 k,.int .i64 i,.int .i64 g] t)) a) (o:Obj):
  a.cell? ⟨w.heap.size,0,none⟩=some (.int .i64 k)/\a.cell? ⟨w.heap.size,1,none⟩=some (.int .i64 i)/\a.cell? ⟨w.heap.size,2,none⟩=some (.int .i64 g)/\
  (a.alloc o).cell? ⟨w.heap.size,0,none⟩=some (.int .i64 k)/\(a.alloc o).cell? ⟨w.heap.size,2,none⟩=some (.int .i64 g)/\Below w.heap.size w a/\Below w.heap.size w (a.alloc o):=by
 have hs:w.heap.size < (w.alloc (.cells #[.int .i64 k,.int .i64 i,.int .i64 g] t)).heap.size:=by simp
 have b:w.heap.size < a.heap.size:=Kbq hs h.size;have c:Below w.heap.size w a:=(KBq.alloc (Kaq _) _).trans (h.mono (by omega))
 have e:∀q,a.cell? ⟨w.heap.size,q,none⟩=(w.alloc (.cells #[.int .i64 k,.int .i64 i,.int .i64 g] t)).cell? ⟨w.heap.size,q,none⟩:=fun q=>h.cell hs
 have d:∀q,(a.alloc o).cell? ⟨w.heap.size,q,none⟩=a.cell? ⟨w.heap.size,q,none⟩:=fun q=>((Below.refl a.heap.size a).alloc (Kaq _) o).cell b
 refine⟨?_, ?_, ?_, ?_, ?_,c,c.alloc (by omega) o⟩
 all_goals (simp only[d,e];unfold World.cell?;simp only[heap_alloc_new];rfl)
def Q9j (k i g:Int):Value:=
 if k=0 then .iface 221 (.agg #[.int .i64 i,.int .i64 g])else
 if k=1 then .iface 222 (.agg #[.int .i64 i,.int .i64 g])else
 if k=2 then .iface 224 (.agg #[.int .i64 i])else .iface 225 (.agg #[.int .i64 i])
theorem Q4y (k i g:Int) (w:World):
  Calls Tryz.prog 116 #[cmd k i g] w fun e h=>e=.returned (.tuple #[if Q0F k i g then Q9j k i g else .nilIface,.bool (Q0F k i g)])/\Below w.heap.size w h:=by
 have d:=fun w=>Q3m k i g w
 generalize Q0F k i g=t at d ⊢
 cases t
 all_goals (
  go_enter Tryz.func116,Tryz.ntmps116;go_wp2_with (first|(go_at_call 73;refine(d _).mono ?_;rintro e p ⟨rfl,b⟩;obtain⟨j,l,c2,m,n,c,a⟩:=QhK b (.cells #[.int .i64 i] 219);have f:=Q02 c;have HB':=Q02 a;clear b c a))
  all_goals go_ret2
  all_goals refine⟨?_,by first|exact f.out|exact HB'.out⟩)
 all_goals (try simp only[beq_iff_eq,beq_eq_false_iff_ne,ne_eq]at *)
 all_goals simp_all [Q9j]
theorem Q4H {w w':World} {k g o:Nat} (h:w.grownBy w' (some k)) (hg:g < w.heap.size) (hne:g≠k):w'.cell? ⟨g,o,none⟩=w.cell? ⟨g,o,none⟩:=
 World.cell?_of_block (w:=w) (h.block g hg (by simp[hne]))
theorem Q1H (k g:Nat) (b:List Int) (w:World) (j:isCur k w) (t:g < w.heap.size) (h:g≠k) (v:0 < b.length) (z:b.length<=1000) (a:∀q,q < b.length->w.cell? ⟨g,q,none⟩=some (.int .i64 (b.getD q 0))):
  Calls Tryz.prog 55 #[.pointer (some ⟨k,0,none⟩),.slice (some ⟨g,0,none⟩) b.length b.length] w fun e m=> ∃q:Nat,q < b.length/\e=.returned (.int .i64 (b.getD q 0))/\isCur k m/\w.grownBy m (some k):=by
 generalize hn:b.length=n at *;go_enter Tryz.func55,Tryz.ntmps55;go_wp2_with fail;refine(Q0t k (n:Int) _ j (by omega) (by omega)).mono ?_;rintro e A ⟨x,rfl,i,u,f,d⟩;obtain⟨q,rfl⟩:=Int.eq_ofNat_of_zero_le i
 have l:q < n:=by omega
 have c:=(Q4H d t h).trans (a q l);have p:=Q02 f;have r:=Q02 d;clear j f d a;generalize hy:b.getD q 0=y at *;have s:=Q02 hy;clear hy;go_wp2;go_ret;exact⟨q,l,Q0W s.out.symm,p.out,r.out⟩
theorem isCur.below {k:Nat} {w b:World} (h:isCur k w) (a:Below (k+1) w b):isCur k b:=by
 obtain⟨o,cap,l,i,d,c⟩:=h
 exact⟨o,cap,l,i,d,⟨(a.cell (p:=⟨k,0,none⟩) (Nat.lt_succ_self _)).trans c.c0,(a.cell (p:=⟨k,1,none⟩) (Nat.lt_succ_self _)).trans c.c1,(a.cell (p:=⟨k,2,none⟩) (Nat.lt_succ_self _)).trans c.c2,
  (a.frozen (p:=⟨k,1,none⟩) (Nat.lt_succ_self _)).trans c.f1,(a.frozen (p:=⟨k,2,none⟩) (Nat.lt_succ_self _)).trans c.f2,c.ml,c.rd.kept a (Nat.le_succ _),c.b8,c.i0,c.i1⟩⟩
theorem isCur.alloc {k:Nat} {w:World} (h:isCur k w) (hk:k < w.heap.size) (o:Obj):isCur k (w.alloc o):=h.below (KBq.alloc hk o)
theorem Q0N (w:World) (o:Obj) (k:Nat):w.grownBy (w.alloc o) (some k):=World.grownBy_alloc w o (some k)
theorem Q1s (k:Nat) (n:Int) (w:World) (c:isCur k w) (h:0 < n) (i:n<=1073741824):
  Calls Tryz.prog 79 #[.pointer (some ⟨k,0,none⟩),.int .i64 n] w fun e d=> ∃x:Bool,e=.returned (.bool x)/\isCur k d/\w.grownBy d (some k):=by
 go_enter Tryz.func79,Tryz.ntmps79;go_wp2_with fail;refine(Q0t k n _ c h i).mono ?_;rintro e j ⟨x,rfl,_,_,a,b⟩;have f:=Q02 a;have g:=Q02 b;clear c a b;go_wp2;go_ret;exact⟨_,rfl,f.out,g.out⟩
theorem Q2i (k:Nat) (w:World) (A:isCur k w) (q:k < w.heap.size):
  Calls Tryz.prog 130 #[.pointer (some ⟨k,0,none⟩)] w fun e B=> ∃a b:Int,e=.returned (.agg #[.int .i64 a,.int .i64 b])/\(1<=a/\a<=3)/\(80<=b/\b<=82)/\isCur k B/\w.grownBy B (some k):=by
 have i:=A.alloc q (.cells #[.int .i64 0,.int .i64 0] 36)
 have s:(w.alloc (.cells #[.int .i64 0,.int .i64 0] 36)).cell? ⟨w.heap.size,0,none⟩=some (.int .i64 0):=by simp
 have t:(w.alloc (.cells #[.int .i64 0,.int .i64 0] 36)).cell? ⟨w.heap.size,1,none⟩=some (.int .i64 0):=by simp
 have u:(w.alloc (.cells #[.int .i64 0,.int .i64 0] 36)).frozen? ⟨w.heap.size,0,none⟩=false:=by simp
 have z:(w.alloc (.cells #[.int .i64 0,.int .i64 0] 36)).frozen? ⟨w.heap.size,1,none⟩=false:=by simp
 have l:=Q0N w (.cells #[.int .i64 0,.int .i64 0] 36) k;go_enter Tryz.func130,Tryz.ntmps130;go_wp2_with fail;generalize hw0:w.alloc (.cells #[.int .i64 0,.int .i64 0] 36)=w0 at *
 have d:w.heap.size < w0.heap.size:=by rw[<-hw0];simp
 clear hw0;refine(Q0t k 3 _ i (by omega) (by omega)).mono ?_;rintro e O ⟨x,rfl,H,I,g,m⟩;go_wp2_with fail;refine(Q0t k 3 _ g (by omega) (by omega)).mono ?_;rintro e p ⟨y,rfl,J,L,h,n⟩;have c:=Q0m m n;have E:p.cell? ⟨w.heap.size,0,none⟩=some (.int .i64 0):=(Q4H c d (by omega)).trans s;have F:p.cell? ⟨w.heap.size,1,none⟩=some (.int .i64 0):=(Q4H c d (by omega)).trans t;have M:p.frozen? ⟨w.heap.size,0,none⟩=false:=(World.frozen?_of_block (w:=w0) (c.block w.heap.size d (by simp;omega))).trans u
 have N:p.frozen? ⟨w.heap.size,1,none⟩=false:=(World.frozen?_of_block (w:=w0) (c.block w.heap.size d (by simp;omega))).trans z;have C:=Q02 h;have D:=Q02 (Q0m l c);clear A i g h m n c l s t u z;go_wp2;refine bodyPost_ret (v:=.agg #[.int .i64 (1+x),.int .i64 (80+y)]) (by simp[results,Tryz.results130,go_sem,E,F]) rfl ⟨_,_,rfl,by omega,by omega, ?_, ?_⟩
 ·exact C.out.below (KNq (KNq KBq (by exact q) _) (by exact q) _)
 ·have f:=D.out
  refine⟨f.os,f.tape,f.output,by simpa using f.size,fun j G r=>?_⟩;rw[Below.heap_setCell _ _ _ _ (by simp;omega),Below.heap_setCell _ _ _ _ (by simp;omega)];exact f.block j G r
theorem Q7j {w c d:World} {k B:Nat} (h:w.grownBy c (some k)) (a:Below B c d) (g:w.heap.size<=B):w.grownBy d (some k):=
 ⟨a.os.trans h.os,a.tape.trans h.tape,a.output.trans h.output,Kdq h.size a.size,fun j f b=>(a.block j (by omega)).trans (h.block j f b)⟩
theorem Q35 {w:World} {k:Array Oper} {rest:List Oper} {o:Oper} {a:Act} {Q:Exit->Act->World->Prop} (q:o.guard=none) (s x:Operand)
  (C:o.op=.call { callee:=.builtin .append,args:=#[s,x],argTypes:=#[26,26] }) (base:Nat) (v:Value) (hs:List Bk) (B:a.eval s=v) (f:Q1e w base v hs)
  (n:Nat) (i g:Int) (d:Bool) (D:a.eval x=.slice (some ⟨n,0,none⟩) 1 1) (A:w.cell? ⟨n,0,none⟩=some (.int .i64 i)) (p:w.cell? ⟨n,1,none⟩=some (.int .i64 g)) (h2:w.cell? ⟨n,2,none⟩=some (.bool d)) (z:hs.length<=1000) (c:base<=w.heap.size)
  (h:∀m l,Q1e l base m (hs++[(i,g,d)])->w.grownBy l v.ownBlock->wpList Tryz.prog k Q rest (a.put o.dst m) l):wpList Tryz.prog k Q (o::rest) a w:=by
 obtain⟨E,hi,r,t,y⟩:=info_parts Qc2;refine wpList_append_own _ q s x 26 C base 119 E (.agg #[.int .i64 0,.int .i64 0,.bool false]) 3 24 Tryz.underlying26 hi r t y rfl (by decide) v _ _ B f ⟨n,0,none⟩ 1 1 [.int .i64 i,.int .i64 g,.bool d] D rfl ?_ (by simp[Value.oneCell']) (by unfold maxLen;omega) (by omega) c ?_
 ·intro j u b
  match j,b with
  |0,b=>simp at b;subst b;exact A
  |1,b=>simp at b;subst b;exact p
  |2,b=>simp at b;subst b;exact h2
 ·intro m l p h2 _
  refine h m l ?_ h2;unfold Q1e ownL
  simpa[Q16]using p
theorem Q2D {w a:World} {base k:Nat} {v:Value} {l:List Bk} (h:Q1e w base v l) (b:w.grownBy a (some k)) (c:k < base):Q1e a base v l:=
 World.ownsRow.kept h b (by
  cases hob:v.ownBlock with
  |none=>exact .inl rfl
  |some j=>right;have:=(h.lt j hob).1;intro e;simp at e;omega)
theorem QcZ (k:Nat) (w:World) (Y:isCur k w) (I:k < w.heap.size):
  Calls Tryz.prog 171 #[.pointer (some ⟨k,0,none⟩)] w fun e V=> ∃v L,e=.returned v/\Q1e V w.heap.size v L/\L.length<=6/\isCur k V/\w.grownBy V (some k):=by
 go_enter Tryz.func171,Tryz.ntmps171;go_wp2
 go_loopw [3,4] (fun out iv wr=> ∃(j:Nat) (L:List Bk),j<=6/\iv=.int .i64 j/\Q1e wr w.heap.size out L/\L.length<=j/\isCur k wr/\w.grownBy wr (some k))
  (fun _ iv _=> 6 - (intOf iv).toNat)
 case atStart=>exact⟨0,[],Kcq _,rfl,KLq _ _ _ _,Kaq _,Y,World.grownBy.refl _ _⟩
 case round=>
  obtain⟨j,L,hj,rfl,hv,X,f,a⟩:=hrel;have H:=Q02 X;clear X Y
  by_cases hlt:j < 6
  ·have z1:(j:Int) < 6:=by omega
   have U:w.heap.size<=wr.heap.size:=a.size;go_wp2_with fail;refine(Q1s k 2 _ f (by omega) (by omega)).mono ?_;rintro e J ⟨y,rfl,c,g⟩;have aa:w.heap.size<=J.heap.size:=Kdq U g.size;have i:=Q2D hv g I;have b:=Q0m a g;clear hv f a g
   cases y with
   |false=>
    have HC:=Q02 c;have HG:=Q02 b;have HV:=Q02 i;clear c b i;go_wp2;go_roundw
    case rel=>exact⟨j+1,L,by omega,by go_num,HV.out,Nat.le_succ_of_le H.out,HC.out,HG.out⟩
    case measure=>simp[intOf];omega
   |true=>
    have z:=c.alloc (by omega) (.cells #[.int .i64 1,.int .i64 1,.int .i64 2,.int .i64 10,.int .i64 100] 3);have t:=Q0m b (Q0N J (.cells #[.int .i64 1,.int .i64 1,.int .i64 2,.int .i64 10,.int .i64 100] 3) k);have E:Q1e (J.alloc (.cells #[.int .i64 1,.int .i64 1,.int .i64 2,.int .i64 10,.int .i64 100] 3)) w.heap.size u3 L:=World.ownsRow.alloc i _;clear c b i;go_wp2_with fail;refine(Q1H k J.heap.size [1,1,2,10,100] _ z (by simp) (by omega) (by simp) (by simp) ?hcl).mono ?_
    case hcl=>
     intro q Z
     have:q=0\/q=1\/q=2\/q=3\/q=4:=by simp at Z;omega
     rcases this with h|h|h|h|h <;> subst h <;> simp
    rintro e w3 ⟨q,Z,rfl,A,p⟩;generalize ([1,1,2,10,100]:List Int).getD q 0=x at *;have u:=Q0m t p;have F:=Q2D E p I;clear z t E p;go_wp2_with fail;refine(Q1s k 5 _ A (by omega) (by omega)).mono ?_;rintro e M ⟨d,rfl,B,r⟩;have m:=Q0m u r;have G:=Q2D F r I;have T:w.heap.size<=M.heap.size:=m.size;have O:=Q02 B;have P:=Q02 m
    have R:L.length<=1000:=by have:=H.out;omega
    have s:=Q02 G;clear A u F r B m G;go_wp2_with (at_builtin;refine Q35 rfl (.tmp 11) (.tmp 19) rfl w.heap.size _ L rfl (World.ownsRow.alloc s.out _) M.heap.size j x d rfl ?c1 ?c2 ?c3 R ?c4 ?_)
    case c1=>simp
    case c2=>simp
    case c3=>simp
    case c4=>simp;omega
    intro v5 N D C;have HA:=Q02 (World.ownsRow.alloc s.out (.cells #[.int .i64 j,.int .i64 x,.bool d] 119));have n:Below w.heap.size M N:=((Below.refl w.heap.size M).alloc T _).grown C (by simp;omega) (fun k h=>(HA.out.lt k h).1);have l:=Q02 (show Q1e N w.heap.size v5 (L++[((j:Int),x,d)])/\isCur k N/\w.grownBy N (some k)from⟨D,O.out.below (n.mono I),Q7j P.out n (Kaq _)⟩);clear C D n;go_wp2;go_roundw
    case rel=>exact⟨j+1,L++[((j:Int),x,d)],by omega,by go_num,l.out.1,by have:=H.out;simp;omega,l.out.2.1,l.out.2.2⟩
    case measure=>simp[intOf];omega
  ·have e:j=6:=by omega
   subst e;have l:=Q02 (show Q1e wr w.heap.size u3 L/\isCur k wr/\w.grownBy wr (some k)from⟨hv,f,a⟩);clear hv f a;go_wp2;go_ret;exact⟨_,L,rfl,l.out.1,H.out,l.out.2.1,l.out.2.2⟩
theorem Qdq (k:Nat) (w:World) (hc:isCur k w) (D:k < w.heap.size):
  Calls Tryz.prog 135 #[.pointer (some ⟨k,0,none⟩)] w fun e Z=> ∃v L,e=.returned v/\Q1e Z w.heap.size v L/\L.length<=7/\isCur k Z/\w.grownBy Z (some k):=by
 go_enter Tryz.func135,Tryz.ntmps135;go_wp2_with fail;refine(QcZ k _ hc D).mono ?_;rintro e w0 ⟨J,L,rfl,F,hL,t,f⟩;have X:w.heap.size<=w0.heap.size:=f.size;go_wp2_with fail;refine(Q1s k 7 _ t (by omega) (by omega)).mono ?_;rintro e N ⟨y,rfl,b,c⟩;have ab:w.heap.size<=N.heap.size:=Kdq X c.size;have d:=Q2D F c D;have a:=Q0m f c;clear F t f c hc
 cases y with
 |false=>
  have HC:=Q02 b;have HG:=Q02 a;have HV:=Q02 d;clear b a d;go_wp2;go_ret;exact⟨_,L,rfl,HV.out,by omega,HC.out,HG.out⟩
 |true=>
  have u:=b.alloc (by omega) (.cells #[.int .i64 (-1),.int .i64 0,.int .i64 5,.int .i64 6] 3);have r:=Q0m a (Q0N N (.cells #[.int .i64 (-1),.int .i64 0,.int .i64 5,.int .i64 6] 3) k);have G:Q1e (N.alloc (.cells #[.int .i64 (-1),.int .i64 0,.int .i64 5,.int .i64 6] 3)) w.heap.size J L:=World.ownsRow.alloc d _;clear b a d;go_wp2_with fail;refine(Q1H k N.heap.size [-1,0,5,6] _ u (by simp) (by omega) (by simp) (by simp) ?hcl).mono ?_
  case hcl=>
   intro q M
   have:q=0\/q=1\/q=2\/q=3:=by simp at M;omega
   rcases this with h|h|h|h <;> subst h <;> simp
  rintro e O ⟨q,M,rfl,z,l⟩;generalize ([-1,0,5,6]:List Int).getD q 0=i at *;have g:=Q0m r l;have H:=Q2D G l D;have ac:w.heap.size<=O.heap.size:=g.size;clear u r G l;have A:=z.alloc (by omega) (.cells #[.int .i64 0,.int .i64 1,.int .i64 101] 3);have s:=Q0m g (Q0N O (.cells #[.int .i64 0,.int .i64 1,.int .i64 101] 3) k);have I:Q1e (O.alloc (.cells #[.int .i64 0,.int .i64 1,.int .i64 101] 3)) w.heap.size J L:=World.ownsRow.alloc H _;clear z g H;go_wp2_with fail
  refine(Q1H k O.heap.size [0,1,101] _ A (by simp) (by omega) (by simp) (by simp) ?hcm).mono ?_
  case hcm=>
   intro q M
   have:q=0\/q=1\/q=2:=by simp at M;omega
   rcases this with h|h|h <;> subst h <;> simp
  rintro e P ⟨q',aa,rfl,B,m⟩;generalize ([0,1,101]:List Int).getD q' 0=x at *;have n:=Q02 (Q0m s m);have p:=Q02 (Q2D I m D);have T:=Q02 B;have Y:w.heap.size<=P.heap.size:=n.out.size
  have V:L.length<=1000:=by omega
  clear A s I m B;go_wp2_with (at_builtin;refine Q35 rfl _ _ rfl w.heap.size _ L rfl (World.ownsRow.alloc p.out _) P.heap.size i x false rfl ?c1 ?c2 ?c3 V ?c4 ?_)
  case c1=>simp
  case c2=>simp
  case c3=>simp
  case c4=>simp;omega
  intro v6 R E C;have HA:=Q02 (World.ownsRow.alloc p.out (.cells #[.int .i64 i,.int .i64 x,.bool false] 119));have j:Below w.heap.size P R:=((Below.refl w.heap.size P).alloc Y _).grown C (by simp;omega) (fun k h=>(HA.out.lt k h).1);have U:=Q02 (show Q1e R w.heap.size v6 (L++[(i,x,false)])/\isCur k R/\w.grownBy R (some k)from⟨E,T.out.below (j.mono D),Q7j n.out j (Kaq _)⟩);clear C E j;go_wp2;go_ret;exact⟨_,L++[(i,x,false)],rfl,U.out.1,by simp;omega,U.out.2.1,U.out.2.2⟩
end Go.Proofs.YtpneolgdghbinaaGreat
