/- Several texts in one: SContest, STwo, PairMath, SPair, SPair2, STab, RowsP, RowsE, LRing, LRing2, STab2, SBSame. -/
import Derived.Test.YteffhdcankkfkaaGreatQListed12
import Derived.Test.YteffhdcankkfkaaGreatQListed15
namespace Go.Proofs.YteffhdcankkfkaaGreat
open Go.ChangeShapes Go.WideShapes Go.ChangeAt Go.RowKit Go.Joins
set_option linter.unusedVariables false
set_option linter.unusedSimpArgs false
set_option maxRecDepth 100000
set_option maxHeartbeats 40000000
def scL (k b:Int) (l:List Bk):List Sc:=(l.filter (fun x=> !x.2.2)).map (fun x=>(x.1,Q1K k b x.1 x.2.1))
theorem Q46 (k b:Int) (l:List Bk) (x:Bk) (h:x.2.2=true):scL k b (l++[x])=scL k b l:=by simp[scL,h]
theorem Q3F (k b:Int) (l:List Bk) (x:Bk) (h:x.2.2=false):scL k b (l++[x])=scL k b l++[(x.1,Q1K k b x.1 x.2.1)]:=by simp[scL,h]
def Holds (lb ls:List Sc):Prop:=lb.length=ls.length/\(∀z,(∃i,i < lb.length/\lb.getD i (0,0)=z)↔z∈ls)/\QiV lb lb.length
theorem Qcc {l:List Sc} {z:Sc}:(∃i,i < l.length/\l.getD i (0,0)=z)↔z∈l:=by
 constructor
 ·rintro⟨i,hi,rfl⟩
  rw[show l.getD i (0,0)=l[i]by simp[hi]];exact List.getElem_mem hi
 ·intro h
  obtain⟨i,hi,e⟩:=List.getElem_of_mem h;exact⟨i,hi,by simp[hi,e]⟩
theorem Holds.push {lb c d:List Sc} {x:Sc} (h:Holds lb d) (g:x∉d) (hs:Same (lb++[x]) c (lb.length+1)):Holds c (d++[x]):=by
 have f:(lb++[x]).length=lb.length+1:=by simp
 have a:c.length=lb.length+1:=hs.1.trans f;refine⟨by rw[a,h.1];simp,fun z=>?_, ?_⟩
 ·rw[a,hs.2.1 z,<-f,Qcc,List.mem_append,List.mem_append,<-h.2.1 z,Qcc]
 ·rw[a]
  refine hs.2.2 (fun i j hi k e=>?_)
  rcases Nat.lt_or_ge i lb.length with b|b <;> rcases Nat.lt_or_ge j lb.length with h2|h2
  ·rw[Q1m b,Q1m h2]at e;exact h.2.2 i j b h2 e
  ·rw[Q1m b,show j=lb.length by omega,Q2B]at e
   exact absurd ((h.2.1 x).1 ⟨i,b,e⟩) g
  ·rw[show i=lb.length by omega,Q2B,Q1m h2]at e
   exact absurd ((h.2.1 x).1 ⟨j,h2,e.symm⟩) g
  ·omega
theorem QbE {key b:Int} {l:List Bk} {z:Sc} (h:z∈scL key b l):∃i,i < l.length/\(l.getD i (0,0,false)).1=z.1:=by
 unfold scL at h;obtain⟨x,c,e⟩:=List.mem_map.1 h;obtain⟨i,hi,a⟩:=List.getElem_of_mem (List.mem_filter.1 c).1;exact⟨i,hi,by rw[<-e];simp[hi,a]⟩
theorem Q4K {l:List Bk} (h:Q0d l=true):∀j,j < l.length->∀i,i < j->(l.getD i (0,0,false)).1 < (l.getD j (0,0,false)).1:=fun j=>by
 induction j with
 |zero=>intro _ i hi;omega
 |succ j ih=>
  intro c i hi
  have b:(l.getD j (0,0,false)).1 < (l.getD (j+1) (0,0,false)).1:=by
   have:=Q15.1 h (j+1) c;unfold QcA at this;simp only[Bool.and_eq_true,Bool.or_eq_true,decide_eq_true_eq,Nat.add_sub_cancel]at this
   rcases this.2 with a|a
   ·omega
   ·exact a
  rcases Nat.lt_or_ge i j with h2|h2
  ·exact Int.lt_trans (ih (by omega) i h2) b
  ·rw[show i=j by omega];exact b
theorem Qim {key b:Int} {l:List Bk} {j:Nat} {x y:Int} {z:Bool} {s:Int} (h:Q0d l=true) (d:j < l.length) (c:l.getD j (0,0,false)=(x,y,z)):(x,s)∉scL key b (l.take j):=fun f=>by
 obtain⟨i,hi,e⟩:=QbE f
 have a:i < j:=by simp at hi;omega
 have:=Q4K h j d i a;rw[c]at this;rw[show(l.take j).getD i (0,0,false)=l.getD i (0,0,false)by simp[KFq,List.getElem?_take,a]]at e;dsimp only at e this;omega
theorem BrdV.kept {k:Nat} {v:Value} {w w':World} {l:List Sc} (h:BrdV k v w l) (hb:Below w.heap.size w w'):BrdV k v w' l:=⟨(hb.block k h.lt).trans h.box,Q0a h.row hb⟩
theorem Q9p {l:List Bk} {j:Nat} {x y:Int} {z:Bool} (c:Q0d l=true) (b:j < l.length) (a:l.getD j (0,0,false)=(x,y,z)):Q32 x y=true:=by
 have:=Q15.1 c j b;unfold QcA at this;rw[a]at this;exact(Bool.and_eq_true_iff.1 this).1
theorem Q8r (key b:Int) (o:Option Addr) (cap:Nat) (l:List Bk) (w:World) (L:RdK w.heap.size w o l) (aa:l.length<=1000) (hk:Q1S key=true) (N:0<=b/\b < 8) (Z:Q0d l=true):
  Calls Tryz.prog 257 #[.int .i64 key,.int .i64 b,.slice o l.length cap] w fun e w'=> ∃k v lb,e=.returned (.iface 356 (.pointer (some ⟨k,0,none⟩)))/\BrdV k v w' lb/\Q3j lb lb.length/\okD lb/\Holds lb (scL key b l)/\w.heap.size<=k/\Below w.heap.size w w':=by
 go_enter Tryz.func257,Tryz.ntmps257;go_wp2
 go_loopw [13] (fun iv wr=> ∃(j:Nat) (v:Value) (lb:List Sc),iv=.int .i64 j/\j<=l.length/\BrdV w.heap.size v wr lb/\Q3j lb lb.length/\okD lb/\Holds lb (scL key b (l.take j))/\lb.length<=j/\Below w.heap.size w wr)
  (fun iv _=>l.length - (intOf iv).toNat)
 case atStart=>
  refine⟨0,.slice none 0 0,[],rfl,Kcq _,⟨World.alloc_heap_new w _,KLq _ _ _ _⟩,fun i h1 h2=>by simp at h2,fun i hi=>by simp at hi,⟨rfl,fun z=>by simp[scL],fun i j hi=>by simp at hi⟩,Kcq _,KBq.alloc (Kaq _) _⟩
 case round=>
  obtain⟨j,v,lb,rfl,hj,B,T,V,f,ab,a⟩:=hrel
  by_cases hlt:j < l.length
  ·rcases L with L|⟨bb,ac,rfl,r,g⟩
   ·subst L;simp at hlt
   obtain⟨x,y,z,q⟩:∃x y z,l.getD j (0,0,false)=(x,y,z):=⟨_,_,_,rfl⟩;have h:=RdL.back (C:=w.heap.size) g j hlt;rw[q]at h;have O:=bKq0v0v0 a h.1 r;have P:=bKq0v0v0 a h.2.1 r;have R:=bKq0v0v0 a h.2.2 r;have n:=Q1q Q0L l j hlt;rw[show l.getD j Q0L.d=l.getD j (0,0,false)from rfl,q]at n;have E:=Q9p Z hlt q;obtain⟨i0,i1,g0,g1⟩:=Q4n.1 E;have m:=Qim (key:=key) (b:=b) (s:=Q1K key b x y) Z hlt q;clear g h q
   cases z with
   |true=>
    have I:=Q00 (show Holds lb (scL key b (l.take (j+1)))by rw[n,Q46 _ _ _ _ rfl];exact f);have HB:=Q00 B;have u:=Q00 a;clear n f B a m;go_wp2;go_roundw
    case rel=>exact⟨j+1,v,lb,by go_num,by omega,HB.out.kept (KBq.alloc (Kaq _) _),T,V,I.out,by omega,u.out.alloc u.out.size _⟩
    case measure=>simp[intOf];omega
   |false=>
    have G:Q1G key b x y=Q1K key b x y:=by rw[Q1G,if_pos ⟨hk,N,E⟩]
    have Y:=fun W=>G ▸ Q8m key b x y false W
    obtain⟨p0,p1,p2⟩:=Qj4 wr (.int .i64 x) (.int .i64 y) (.bool false) 259
    have hs:wr.heap.size < (wr.alloc (Obj.cells #[Value.int IntKind.i64 x,Value.int IntKind.i64 y,Value.bool false] 259)).heap.size:=by simp
    have D:BrdV w.heap.size v (wr.alloc (Obj.cells #[Value.int IntKind.i64 x,Value.int IntKind.i64 y,Value.bool false] 259)) lb:=B.kept (KBq.alloc (Kaq _) _);have A:Below w.heap.size w (wr.alloc (Obj.cells #[Value.int IntKind.i64 x,Value.int IntKind.i64 y,Value.bool false] 259)):=a.alloc a.size _;have I:=Q00 (fun l2 (h2:Same (lb++[(x,Q1K key b x y)]) l2 (lb.length+1))=>(show Holds l2 (scL key b (l.take (j+1)))by rw[n,Q3F _ _ _ _ rfl];exact f.push m h2))
    have HL:=Q00 (fun l2 (h2:Same (lb++[(x,Q1K key b x y)]) l2 (lb.length+1))=>(show l2.length<=j+1 by rw[h2.1];simp;omega));clear n f m;go_wp2_with fail;clear O P R;generalize (wr.alloc (Obj.cells #[Value.int IntKind.i64 x,Value.int IntKind.i64 y,Value.bool false] 259))=w0 at *;have H:=Q00 D;have t:=Q00 A;generalize hscg:Q1K key b x y=sc at *;clear D A B a hscg G
    go_region_with (first|(go_at_call 268;refine(Y _).mono ?_;rintro e w1 ⟨rfl,c⟩;replace c:Below w0.heap.size w0 w1:=(KHq KBq).trans c;have q0:=(c.cell (p:=⟨wr.heap.size,0,none⟩) hs).trans p0;have q1:=(c.cell (p:=⟨wr.heap.size,1,none⟩) hs).trans p1;have q2:=(c.cell (p:=⟨wr.heap.size,2,none⟩) hs).trans p2)|(go_at_call 267;refine(QeS w.heap.size v lb x sc w1 (H.out.kept c) V ⟨i0,by omega⟩ T (by omega)).mono ?_;rintro e w2 ⟨rfl,g2,c2,l2,M,U,F,X,J⟩))
    all_goals (
     go_wp2;go_roundw
     case rel=>exact⟨j+1,_,l2,by go_num,by omega,M.v,U,X,I.out l2 F,HL.out l2 F,(t.out.trans (c.mono t.out.size)).trans J⟩
     case measure=>simp[intOf];omega)
  ·have e:j=l.length:=by omega
   subst e;rw[List.take_of_length_le (Kaq _)]at f;go_wp2;go_ret;exact⟨_,v,lb,rfl,B,T,V,f,Kaq _,a⟩
theorem Q8c (o:Option Addr) (c C:Nat) (l:List Sc) (w:World) (d:RdL Qcq C w o l) (f:0 < l.length):
  Calls Tryz.prog 299 #[.slice o l.length c] w fun e j=>e=.returned (.int .i64 (l.getD 0 (0,0)).1)/\w=j:=by
 rcases d with d|⟨b,i,rfl,h,a⟩
 ·subst d;simp at f
 have g:=RdL.sc a 0 f;clear a;generalize l.getD 0 (0,0)=x at *;obtain⟨n,p⟩:=x;simp only[Nat.zero_mul,Nat.add_zero]at g;obtain⟨k,m⟩:=g
 have z:(0:Int) < (l.length:Int):=by omega
 go_enter Tryz.func299,Tryz.ntmps299;go_wp2;go_ret;exact⟨rfl,rfl⟩
def Qg5 (lb:List Sc) (p:List Int):Prop:=
 (lb=[]/\p=[])\/(lb.length=1/\p=[(lb.getD 0 (0,0)).1,(lb.getD 0 (0,0)).1])\/
 ∃l2,QiL lb l2/\Q3j l2 l2.length/\0 < l2.length/\p=[(lb.getD 0 (0,0)).1,(l2.getD 0 (0,0)).1]
theorem Q68 (w:World) (base:Nat) (x y:Int) (a:base<=w.heap.size):Q9o (w.alloc (.cells #[.int .i64 x,.int .i64 y] 3)) base (.slice (some ⟨w.heap.size,0,none⟩) 2 2) [x,y]:=by
 have:=World.ownsRow_lit (base:=base) (e:=3) (size:=1) w #[.int .i64 x,.int .i64 y] 2 a (by unfold maxLen;omega) rfl;exact this
theorem QaS (k:Nat) (v:Value) (lb:List Sc) (w:World) (q:BrdV k v w lb) (P:Q3j lb lb.length) (X:okD lb) (I:lb.length<=1000):
  Calls Tryz.prog 256 #[.iface 356 (.pointer (some ⟨k,0,none⟩))] w fun e N=> ∃M p,e=.returned M/\Qg5 lb p/\Q9o N k M p/\Below k w N:=by
 have eN:∀args w,(callFunc 294 args).run Tryz.prog w=.ok (.enter 294 args) w:=enters_of Tryz.func294 (by kernel_rfl) rfl
 have Z:∀args w,(callFunc 299 args).run Tryz.prog w=.ok (.enter 299 args) w:=enters_of Tryz.func299 (by kernel_rfl) rfl
 obtain⟨o,c,rfl⟩:=q.slice;have D:=q.cell;have L:=Q0C Q8G D;have H:=q.lt
 by_cases h0:lb.length=0
 ·have e:lb=[]:=List.eq_nil_of_length_eq_zero h0
  subst e;simp only[List.length_nil]at L;go_enter Tryz.func256,Tryz.ntmps256;go_wp2_with (first|(go_at_call 294;refine(Q2Q _ _ _ _).mono ?_;rintro e u ⟨rfl,rfl⟩));go_ret;exact⟨_,[],rfl,.inl ⟨rfl,rfl⟩,KLq _ _ _ _,KBq⟩
 ·have m:0 < lb.length:=by omega
  have U:((lb.length:Int)==0)=false:=by rw[beq_eq_false_iff_ne];omega
  have O:=Q00 h0;obtain⟨g,Y,G⟩:=ownsRow_form q.row m;simp only[Value.slice.injEq]at G;obtain⟨rfl,_,rfl⟩:=G;have C:Brd k g c w lb:=⟨q.box,q.row⟩;have t:=C.row.rd;obtain⟨n,J⟩:∃n,n+1=lb.length:=⟨lb.length - 1,by omega⟩;have l:=QfR k g c lb n w C J X P (by omega);have a:=Q8c (some ⟨g,0,none⟩) c w.heap.size lb w t m;generalize hfst:(lb.getD 0 (0,0)).1=fst at a;have x:=Q00 hfst;clear h0 J hfst;go_enter Tryz.func256,Tryz.ntmps256;go_wp2_with (first|(go_at_call 294;refine(Q2Q _ _ _ _).mono ?_;rintro e u ⟨rfl,rfl⟩));rw[Q0C (f:=299) ?hm D]
  case hm=>kernel_rfl
  go_wp2_with (first|(go_at_call 299;refine a.mono ?_;rintro e u ⟨rfl,rfl⟩));refine l.mono ?_;rintro e y ⟨⟨v3,rfl⟩,l2,i,r,d,s,h⟩;have R:=i.v.lt
  have T:l2.length<=1000:=by have:=d.1;omega
  have F:=Q0C Q8G i.cell;clear L l a t q C D
  by_cases h2:l2.length=0
  ·have e:l2=[]:=List.eq_nil_of_length_eq_zero h2
   subst e;simp only[List.length_nil]at F;have B:Hid (Qg5 lb [fst,fst]):=.inr (.inl ⟨by have:=d.1;simpa using this.symm,by rw[x.out]⟩);have A:=Q00 (Q68 y k fst fst (by omega));have z:=Q00 h;clear d r s h x;go_wp2_with (first|(go_at_call 294;refine(Q2Q _ _ _ _).mono ?_;rintro e u ⟨rfl,rfl⟩));go_ret;exact⟨_,[fst,fst],rfl,B.out,A.out,z.out.alloc (by omega) _⟩
  ·have b:0 < l2.length:=by omega
   have V:((l2.length:Int)==0)=false:=by rw[beq_eq_false_iff_ne];omega
   have E:=i.cell;have j:=Q8c (some ⟨g,0,none⟩) c y.heap.size l2 y i.row.rd b;have B:Hid (Qg5 lb [fst,(l2.getD 0 (0,0)).1]):=.inr (.inr ⟨l2,d,r,b,by rw[x.out]⟩);generalize (l2.getD 0 (0,0)).1=snd at *;have A:=Q00 (Q68 y k fst snd (by omega));have z:=Q00 h;clear d r s h x h2;go_wp2_with (first|(go_at_call 294;refine(Q2Q _ _ _ _).mono ?_;rintro e u ⟨rfl,rfl⟩));rw[Q0C (f:=299) ?hm2 E]
   case hm2=>kernel_rfl
   go_wp2_with (first|(go_at_call 299;refine j.mono ?_;rintro e u ⟨rfl,rfl⟩));go_ret;exact⟨_,[fst,snd],rfl,B.out,A.out,z.out.alloc (by omega) _⟩
def Q0S (p:Option Sc × Option Sc) (x:Sc):Option Sc × Option Sc:=
 match p with
 |(none,t)=>(some x,none)
 |(some o,t)=>if o.2 < x.2 then(some x,some o)else
  match t with
  |none=>(some o,some x)
  |some u=>if u.2 < x.2 then(some o,some x)else(some o,some u)
def Q4V (l:List Sc):Option Sc × Option Sc:=l.foldl Q0S (none,none)
theorem Qa1 (l:List Sc) (x:Sc):Q4V (l++[x])=Q0S (Q4V l) x:=by simp[Q4V]
def Q7A (p:Option Sc × Option Sc):List Int:=
 match p with
 |(none,_)=> []
 |(some o,none)=> [o.1,o.1]
 |(some o,some t)=> [o.1,t.1]
def Qi4 (l:List Sc) (p:Option Sc × Option Sc):Prop:=
 match p with
 |(none,t)=>l=[]/\t=none
 |(some o,none)=>l=[o]
 |(some o,some t)=>o∈l/\t∈l/\t≠o/\(∀z∈l,Q4i o<=Q4i z)/\(∀z∈l,z≠o->Q4i t<=Q4i z)
theorem Qc1 {o x:Sc} (ho:okS o) (hx:okS x) (h:o.2 < x.2):Q4i x < Q4i o:=by unfold Q4i okS at *;omega
theorem Qba {o x:Sc} (ho:okS o) (hx:okS x) (hid:o.1 < x.1) (h:¬o.2 < x.2):Q4i o < Q4i x:=by unfold Q4i okS at *;omega
theorem Qce {a b:Sc} (j:okS a) (k:okS b) (h:Q4i a=Q4i b):a=b:=by
 obtain⟨c,d⟩:=a;obtain⟨f,g⟩:=b;unfold Q4i okS at *;dsimp only at *
 have i:d=g:=by omega
 have h2:c=f:=by omega
 rw[i,h2]
theorem QdZ {l:List Sc} {p:Option Sc × Option Sc} {x:Sc} (h:Qi4 l p) (j:∀z∈l,okS z) (m:okS x) (f:∀z∈l,z.1 < x.1):Qi4 (l++[x]) (Q0S p x):=by
 have g:∀z∈l,z≠x:=fun z a e=>by have:=f z a;rw[e]at this;omega
 obtain⟨A,w⟩:=p
 cases A with
 |none=>
  obtain⟨q,h2⟩:l=[]/\w=none:=h;subst q h2
  rfl
 |some o=>
  cases w with
  |none=>
   have q:l=[o]:=h;subst q;have n:=j o (by simp);have oi:=f o (by simp);unfold Q0S
   by_cases hlt:o.2 < x.2
   ·simp only[if_pos hlt]
    have:=Qc1 n m hlt;refine⟨by simp,by simp,fun e=>g o (by simp) e,fun z a=>?_,fun z a k=>?_⟩
    ·simp at a;rcases a with e|e <;> subst e <;> omega
    ·simp at a;rcases a with e|e
     ·subst e;omega
     ·exact absurd e k
   ·simp only[if_neg hlt]
    have:=Qba n m oi hlt;refine⟨by simp,by simp,fun e=>g o (by simp) e.symm,fun z a=>?_,fun z a d=>?_⟩
    ·simp at a;rcases a with e|e <;> subst e <;> omega
    ·simp at a;rcases a with e|e
     ·exact absurd e d
     ·subst e;omega
  |some t=>
   obtain⟨i,s,u,b,c⟩:o∈l/\t∈l/\t≠o/\(∀z∈l,Q4i o<=Q4i z)/\(∀z∈l,z≠o->Q4i t<=Q4i z):=h;have n:=j o i;have v:=j t s;have oi:=f o i;have B:=f t s;unfold Q0S
   by_cases hlt:o.2 < x.2
   ·simp only[if_pos hlt]
    have y:=Qc1 n m hlt;refine⟨by simp,List.mem_append.2 (.inl i),g o i,fun z a=>?_,fun z a k=>?_⟩
    ·rcases List.mem_append.1 a with a|a
     ·have:=b z a;omega
     ·simp at a;subst a;omega
    ·rcases List.mem_append.1 a with a|a
     ·exact b z a
     ·simp at a;exact absurd a k
   ·simp only[if_neg hlt]
    have y:=Qba n m oi hlt
    by_cases hlt2:t.2 < x.2
    ·simp only[if_pos hlt2]
     have r:=Qc1 v m hlt2;refine⟨List.mem_append.2 (.inl i),by simp,fun e=>g o i e.symm,fun z a=>?_,fun z a d=>?_⟩
     ·rcases List.mem_append.1 a with a|a
      ·exact b z a
      ·simp at a;subst a;omega
     ·rcases List.mem_append.1 a with a|a
      ·have:=c z a d;omega
      ·simp at a;subst a;omega
    ·simp only[if_neg hlt2]
     have r:=Qba v m B hlt2;refine⟨List.mem_append.2 (.inl i),List.mem_append.2 (.inl s),u,fun z a=>?_,fun z a d=>?_⟩
     ·rcases List.mem_append.1 a with a|a
      ·exact b z a
      ·simp at a;subst a;omega
     ·rcases List.mem_append.1 a with a|a
      ·exact c z a d
      ·simp at a;subst a;omega
theorem Qgp {lb a:List Sc} {p:Option Sc × Option Sc} {q:List Int} (c:Qi4 a p) (b:∀z∈a,okS z) (w:Holds lb a) (X:Q3j lb lb.length) (U:Qg5 lb q):q=Q7A p:=by
 have n:=w.2.1;obtain⟨G,H⟩:=p
 rcases U with⟨m,h2⟩|⟨m,h2⟩|⟨l2,D,y,s,h2⟩
 ·subst m h2
  have:a=[]:=List.eq_nil_of_length_eq_zero w.1.symm;subst this
  cases G with
  |none=>rfl
  |some o=>
   cases H with
   |none=>cases(c:[]=[o])
   |some t=>exact absurd c.1 (by simp)
 ·obtain⟨o,x⟩:∃o,a=[o]:=List.length_eq_one_iff.1 (w.1.symm.trans m)
  subst x
  have v:lb.getD 0 (0,0)=o:=by
   have:=(n (lb.getD 0 (0,0))).1 ⟨0,by omega,rfl⟩
   simpa using this
  rw[h2,v]
  cases G with
  |none=>cases(c.1:[o]=[])
  |some o'=>
   cases H with
   |none=>have:[o]=[o']:=c;simp at this;subst this;rfl
   |some t=>
    obtain⟨J,L,M,_⟩:o'∈[o]/\t∈[o]/\t≠o'/\_:=c;simp at J L;rw[J,L]at M;exact absurd rfl M
 ·have Y:=D.1
  have V:=w.2.2;have j:lb.getD 0 (0,0)∈a:=(n _).1 ⟨0,by omega,rfl⟩
  have I:∀z∈a,Q4i (lb.getD 0 (0,0))<=Q4i z:=fun z F=>by
   obtain⟨i,hi,e⟩:=(n z).2 F;have:=Qca X i hi;unfold fr at this;rw[e]at this;exact this
  obtain⟨P,N,d,l⟩:=(D.2 (l2.getD 0 (0,0))).1 ⟨0,s,rfl⟩;have u:l2.getD 0 (0,0)∈a:=(n _).1 ⟨P,d,l⟩
  have k:l2.getD 0 (0,0)≠lb.getD 0 (0,0):=fun e=>by
   have:=V P 0 d (by omega) (l.trans e);omega
  have f:∀z∈a,z≠lb.getD 0 (0,0)->Q4i (l2.getD 0 (0,0))<=Q4i z:=fun z F C=>by
   obtain⟨i,hi,e⟩:=(n z).2 F
   have B:1<=i:=by
    rcases Nat.eq_zero_or_pos i with h|h
    ·subst h;exact absurd e.symm C
    ·exact h
   obtain⟨Z,A,R⟩:=(D.2 z).2 ⟨i,B,hi,e⟩;have:=Qca y Z A;unfold fr at this;rw[R]at this;exact this
  cases G with
  |none=>have:a=[]:=c.1;rw[this]at j;cases j
  |some o=>
   cases H with
   |none=>
    have m:a=[o]:=c;rw[m]at j u;simp at j u;exact absurd (u.trans j.symm) k
   |some t=>
    obtain⟨x,O,E,r,g⟩:o∈a/\t∈a/\t≠o/\(∀z∈a,Q4i o<=Q4i z)/\(∀z∈a,z≠o->Q4i t<=Q4i z):=c;have v:lb.getD 0 (0,0)=o:=Qce (b _ j) (b o x) (Int.le_antisymm (I o x) (r _ j));rw[v]at k f;have T:l2.getD 0 (0,0)=t:=Qce (b _ u) (b t O) (Int.le_antisymm (f t O E) (g _ u k));rw[h2,v,T]
    rfl
def Qch (key b:Int) (x:Bk):Sc:=(x.1,Q1K key b x.1 x.2.1)
def Qet (key b:Int) (l:List Bk) (v:Int) (q:Option Sc):Prop:=(v= -1/\q=none)\/∃k:Nat,v=(k:Int)/\k < l.length/\q=some (Qch key b (l.getD k (0,0,false)))
theorem QeP {key b:Int} {l:List Bk} {j:Nat} {x y:Int} (c:j < l.length) (f:l.getD j (0,0,false)=(x,y,false)):Q4V (scL key b (l.take (j+1)))=Q0S (Q4V (scL key b (l.take j))) (Qch key b (x,y,false)):=by
 have a:=Q1q Q0L l j c;rw[show l.getD j Q0L.d=l.getD j (0,0,false)from rfl,f]at a;rw[a,Q3F _ _ _ _ rfl,Qa1];rfl
theorem Qei {key b:Int} {l:List Bk} {j:Nat} {x y:Int} (c:j < l.length) (f:l.getD j (0,0,false)=(x,y,true)):Q4V (scL key b (l.take (j+1)))=Q4V (scL key b (l.take j)):=by
 have a:=Q1q Q0L l j c;rw[show l.getD j Q0L.d=l.getD j (0,0,false)from rfl,f]at a;rw[a,Q46 _ _ _ _ rfl]
theorem Q3n {l:List Bk} (h:Q0d l=true) {k:Nat} (hk:k < l.length) {x y:Int} {z:Bool} (hxy:l.getD k (0,0,false)=(x,y,z)):0<=x/\x < 6/\1<=y/\y<=100:=Q4n.1 (Q9p h hk hxy)
theorem QdK (key b:Int) (o:Option Addr) (cap:Nat) (l:List Bk) (w:World) (hR:RdK w.heap.size w o l) (an:l.length<=1000) (hk:Q1S key=true) (ai:0<=b/\b < 8) (hl:Q0d l=true):
  Calls Tryz.prog 220 #[.int .i64 key,.int .i64 b,.slice o l.length cap] w fun e w'=> ∃v,e=.returned v/\Q9o w' w.heap.size v (Q7A (Q4V (scL key b l)))/\Below w.heap.size w w':=by
 obtain⟨al,am⟩:=Q3M.1 hk
 have aj:=fun k (hk:k < l.length) x y z (m:l.getD k (0,0,false)=(x,y,z)) W=>have h:=Q3n hl hk m;Qb1 key b x y z W al am ai.1 ai.2 h.1 h.2.1 (by omega) h.2.2.2
 have Y:=Q00 aj;clear aj;go_enter Tryz.func220,Tryz.ntmps220;go_wp2
 go_loopw [7,8,9] (fun one two iv wr=> ∃(j:Nat) (v1 v2:Int),iv=.int .i64 j/\one=.int .i64 v1/\two=.int .i64 v2/\j<=l.length/\Qet key b l v1 (Q4V (scL key b (l.take j))).1/\Qet key b l v2 (Q4V (scL key b (l.take j))).2/\Below w.heap.size w wr)
  (fun _ _ iv _=>l.length - (intOf iv).toNat)
 case atStart=>exact⟨0, -1, -1,rfl,rfl,rfl,Kcq _,.inl ⟨rfl,by simp[scL,Q4V]⟩,.inl ⟨rfl,by simp[scL,Q4V]⟩,KBq⟩
 case round=>
  obtain⟨j,v1,v2,rfl,rfl,rfl,hj,F,i,f⟩:=hrel
  by_cases hlt:j < l.length
  ·rcases hR with hR|⟨bb,n,rfl,E,a⟩
   ·subst hR;simp at hlt
   have HC:=Q00 (fun k (hk:k < l.length) W (Z:Below w.heap.size w W)=>have h:=RdL.back (C:=w.heap.size) a k hk;(show W.cell? ⟨bb,n+k * 3,none⟩=some (.int .i64 (l.getD k (0,0,false)).1)/\W.cell? ⟨bb,n+k * 3+1,none⟩=some (.int .i64 (l.getD k (0,0,false)).2.1)/\W.cell? ⟨bb,n+k * 3+2,none⟩=some (.bool (l.getD k (0,0,false)).2.2)from⟨(Z.cell (p:=⟨bb,n+k * 3,none⟩) E).trans h.1,(Z.cell (p:=⟨bb,n+k * 3+1,none⟩) E).trans h.2.1,(Z.cell (p:=⟨bb,n+k * 3+2,none⟩) E).trans h.2.2⟩));clear a;have aa:=HC.out j hlt wr f
   obtain⟨x,y,z,m⟩:∃x y z,l.getD j (0,0,false)=(x,y,z):=⟨_,_,_,rfl⟩;rw[m]at aa;dsimp only at aa;obtain⟨c0,c1,c2⟩:=aa
   have z1:(j:Int) < (l.length:Int):=by omega
   cases z with
   |true=>
    have u:=Q00 (Qei (key:=key) (b:=b) hlt m);have H:=Q00 f;have H1:=Q00 F;have H2:=Q00 i;clear m f F i;go_wp2;go_roundw
    case rel=>exact⟨j+1,v1,v2,by go_num,rfl,rfl,by omega,by rw[u.out];exact H1.out,by rw[u.out];exact H2.out,H.out⟩
    case measure=>simp[intOf];omega
   |false=>
    have u:=Q00 (QeP (key:=key) (b:=b) hlt m);have N:=Y.out j hlt x y false m;have HJ:Hid (Qet key b l (j:Int) (some (Qch key b (x,y,false)))):=.inr ⟨j,rfl,hlt,by rw[m]⟩;generalize hg:Qch key b (x,y,false)=sx at *;obtain⟨A,sc⟩:=sx
    have V:Q1K key b x y=sc:=by simp[Qch]at hg;exact hg.2
    rw[V]at N;have H:=Q00 f;clear m f hg V;generalize Q4V (scL key b (l.take j))=pp at *;obtain⟨p1,p2⟩:=pp;dsimp only at F i
    rcases F with⟨rfl,rfl⟩|⟨c,rfl,g,rfl⟩
    ·go_wp2_with fail
     refine(N wr).mono ?_;rintro e w1 ⟨rfl,M⟩;have I:=Q00 (H.out.trans (M.mono H.out.size));clear c0 c1 c2 N M i;go_wp2;go_roundw
     case rel=>exact⟨j+1,j, -1,by go_num,rfl,rfl,by omega,by rw[u.out];exact HJ.out,by rw[u.out];exact .inl ⟨rfl,rfl⟩,I.out⟩
     case measure=>simp[intOf];omega
    ·obtain⟨x1,y1,t1,B⟩:∃x y z,l.getD c (0,0,false)=(x,y,z):=⟨_,_,_,rfl⟩
     have ab:=Y.out c g x1 y1 t1 B;have t:Hid (Qet key b l (c:Int) (some (Qch key b (x1,y1,t1)))):=.inr ⟨c,rfl,g,by rw[B]⟩;have P:=HC.out c g;rw[B]at u P;dsimp only at P;generalize hg1:Qch key b (x1,y1,t1)=s1 at *;obtain⟨r,d⟩:=s1
     have T:Q1K key b x1 y1=d:=by simp[Qch]at hg1;exact hg1.2
     rw[T]at ab
     have z2:(c:Int) < (l.length:Int):=by omega
     have z3:¬((c:Int) < 0):=by omega
     have af:=Q00 P;clear B hg1 T P;go_wp2_with fail;refine(N wr).mono ?_;rintro e w1 ⟨rfl,M⟩;have I:=Q00 (H.out.trans (M.mono H.out.size));obtain⟨d0,d1,d2⟩:=af.out w1 I.out;clear c0 c1 c2 N M;go_wp2_with fail;refine(ab w1).mono ?_;rintro e w2 ⟨rfl,ag⟩;have J:=Q00 (I.out.trans (ag.mono I.out.size));clear d0 d1 d2 ab ag
     by_cases hgt:d < sc
     ·have L:Hid (Q0S (some (r,d),p2) (A,sc)=(some (A,sc),some (r,d))):=by simp[Q0S,hgt,Hid]
      clear i;go_wp2;go_roundw
      case rel=>exact⟨j+1,j,c,by go_num,rfl,rfl,by omega,by rw[u.out,L.out];exact HJ.out,by rw[u.out,L.out];exact t.out,J.out⟩
      case measure=>simp[intOf];omega
     ·rcases i with⟨rfl,rfl⟩|⟨s,rfl,q,rfl⟩
      ·have L:Hid (Q0S (some (r,d),none) (A,sc)=(some (r,d),some (A,sc))):=by simp[Q0S,hgt,Hid]
       go_wp2;go_roundw
       case rel=>exact⟨j+1,c,j,by go_num,rfl,rfl,by omega,by rw[u.out,L.out];exact t.out,by rw[u.out,L.out];exact HJ.out,J.out⟩
       case measure=>simp[intOf];omega
      ·obtain⟨x2,y2,t2,D⟩:∃x y z,l.getD s (0,0,false)=(x,y,z):=⟨_,_,_,rfl⟩
       have ac:=Y.out s q x2 y2 t2 D;have ak:Hid (Qet key b l (s:Int) (some (Qch key b (x2,y2,t2)))):=.inr ⟨s,rfl,q,by rw[D]⟩;have R:=HC.out s q;rw[D]at u R;dsimp only at R;generalize hg2:Qch key b (x2,y2,t2)=s2 at *;obtain⟨ad,G⟩:=s2
       have U:Q1K key b x2 y2=G:=by simp[Qch]at hg2;exact hg2.2
       rw[U]at ac
       have z4:(s:Int) < (l.length:Int):=by omega
       have z5:¬((s:Int) < 0):=by omega
       obtain⟨f0,f1,f2⟩:=R w2 J.out;clear D hg2 U R;go_wp2_with fail;refine(ac w2).mono ?_;rintro e w3 ⟨rfl,ah⟩;have ae:=Q00 (J.out.trans (ah.mono J.out.size));clear f0 f1 f2 ac ah
       by_cases hgt2:G < sc
       ·have L:Hid (Q0S (some (r,d),some (ad,G)) (A,sc)=(some (r,d),some (A,sc))):=by unfold Hid;simp only[Q0S,if_neg (show ¬d < sc by omega),if_pos hgt2]
        go_wp2;go_roundw
        case rel=>exact⟨j+1,c,j,by go_num,rfl,rfl,by omega,by rw[u.out,L.out];exact t.out,by rw[u.out,L.out];exact HJ.out,ae.out⟩
        case measure=>simp[intOf];omega
       ·have L:Hid (Q0S (some (r,d),some (ad,G)) (A,sc)=(some (r,d),some (ad,G))):=by unfold Hid;simp only[Q0S,if_neg (show ¬d < sc by omega),if_neg (show ¬G < sc by omega)]
        go_wp2;go_roundw
        case rel=>exact⟨j+1,c,s,by go_num,rfl,rfl,by omega,by rw[u.out,L.out];exact t.out,by rw[u.out,L.out];exact ak.out,ae.out⟩
        case measure=>simp[intOf];omega
  ·have e:j=l.length:=by omega
   subst e;rw[List.take_of_length_le (Kaq _)]at F i;have HQ:=Q00 (show Q4V (scL key b l)=((Q4V (scL key b l)).1,(Q4V (scL key b l)).2)from rfl);generalize (Q4V (scL key b l)).1=p1 at *;generalize (Q4V (scL key b l)).2=p2 at *;have H:=Q00 f
   have z0:¬(l.length:Int) < (l.length:Int):=by omega
   rcases F with⟨rfl,rfl⟩|⟨c,rfl,g,rfl⟩
   ·clear f i
    go_wp2;go_ret;exact⟨_,rfl,by rw[HQ.out];exact KLq _ _ _ _,H.out⟩
   ·rcases hR with hR|⟨bb,n,rfl,E,a⟩
    ·subst hR;simp at g
    have h1:=RdL.back (C:=w.heap.size) a c g;have c1:=(f.cell (p:=⟨bb,n+c * 3,none⟩) E).trans h1.1
    have z2:(c:Int) < (l.length:Int):=by omega
    have z3:¬((c:Int) < 0):=by omega
    have t:Hid ((Qch key b (l.getD c (0,0,false))).1=(l.getD c (0,0,false)).1):=rfl;generalize Qch key b (l.getD c (0,0,false))=s1 at *
    rcases i with⟨rfl,rfl⟩|⟨s,rfl,q,rfl⟩
    ·have HO:=Q00 (fun W (Z:w.heap.size<=W.heap.size)=>Q68 W w.heap.size (l.getD c (0,0,false)).1 (l.getD c (0,0,false)).1 Z)
     have X:Hid (Q7A (Q4V (scL key b l))=[(l.getD c (0,0,false)).1,(l.getD c (0,0,false)).1]):=by unfold Hid;rw[HQ.out];show[s1.1,s1.1]=_;rw[t.out]
     generalize (l.getD c (0,0,false)).1=x1 at *;have O:=H.out.size;clear f a h1;go_wp2
     go_region
     all_goals go_wp2
     all_goals go_ret
     all_goals exact⟨_,rfl,by rw[X.out];exact(HO.out wr O).drew,(H.out.alloc O _).drew⟩
    ·have h2:=RdL.back (C:=w.heap.size) a s q
     have c2:=(f.cell (p:=⟨bb,n+s * 3,none⟩) E).trans h2.1
     have z4:(s:Int) < (l.length:Int):=by omega
     have z5:¬((s:Int) < 0):=by omega
     have HO:=Q00 (fun W (Z:w.heap.size<=W.heap.size)=>Q68 W w.heap.size (l.getD c (0,0,false)).1 (l.getD s (0,0,false)).1 Z)
     have X:Hid (Q7A (Q4V (scL key b l))=[(l.getD c (0,0,false)).1,(l.getD s (0,0,false)).1]):=by unfold Hid;rw[HQ.out];show[s1.1,(Qch key b (l.getD s (0,0,false))).1]=_;rw[t.out];rfl
     generalize (l.getD c (0,0,false)).1=x1 at *;generalize (l.getD s (0,0,false)).1=x2 at *;have O:=H.out.size;clear f a h1 h2;go_wp2
     go_region
     all_goals go_wp2
     all_goals go_ret
     all_goals exact⟨_,rfl,by rw[X.out];exact(HO.out wr O).drew,(H.out.alloc O _).drew⟩
def Q0U (key b:Int) (l:List Bk):List Int:=if Q1S key=true/\(0<=b/\b < 8)/\Q0d l=true then Q7A (Q4V (scL key b l))else[]
theorem QaF (key b:Int) (l:List Bk):(Q0U key b l).length<=2:=by
 unfold Q0U
 split
 ·unfold Q7A;split <;> simp
 ·simp
theorem Qfh {l:List Bk} (h:Q0d l=true):l.length<=6:=by
 have key:∀j,j < l.length->(j:Int)<=(l.getD j (0,0,false)).1:=fun j=>by
  induction j with
  |zero=>
   intro d;obtain⟨x,y,z,a⟩:∃x y z,l.getD 0 (0,0,false)=(x,y,z):=⟨_,_,_,rfl⟩;have:=Q3n h d a;rw[a];simpa using this.1
  |succ j ih=>
   intro d;have c:=ih (by omega);have h2:=Q4K h (j+1) d j (by omega);omega
 rcases Nat.lt_or_ge 6 l.length with b|b
 ·obtain⟨x,y,z,a⟩:∃x y z,l.getD 6 (0,0,false)=(x,y,z):=⟨_,_,_,rfl⟩
  have c:=key 6 b;have h2:=Q3n h b a;rw[a]at c;dsimp only at c;omega
 ·exact b
theorem Q86 {key b:Int} {l:List Bk} (h:Q0d l=true) {z:Sc} (c:z∈scL key b l):okS z:=by
 obtain⟨i,hi,e⟩:=QbE c;obtain⟨x,y,t,a⟩:∃x y z,l.getD i (0,0,false)=(x,y,z):=⟨_,_,_,rfl⟩;have:=Q3n h hi a;rw[a]at e;unfold okS;rw[<-e];dsimp only;omega
theorem Q8v {l:List Bk} (h:Q0d l=true) (j:Nat):Q0d (l.take j)=true:=by
 rw[Q15]at *;intro i hi
 have a:i < l.length:=by simp at hi;omega
 have b:i < j:=by simp at hi;omega
 have:=h i a;unfold QcA at *
 have c:(l.take j).getD i (0,0,false)=l.getD i (0,0,false):=by simp[KFq,List.getElem?_take,b]
 have d:(l.take j).getD (i - 1) (0,0,false)=l.getD (i - 1) (0,0,false):=by simp[KFq,List.getElem?_take,show i - 1 < j by omega]
 rw[c,d];exact this
theorem Qg7 {key b:Int} {l:List Bk} (h:Q0d l=true):Qi4 (scL key b l) (Q4V (scL key b l)):=by
 have k:∀j,j<=l.length->Qi4 (scL key b (l.take j)) (Q4V (scL key b (l.take j))):=fun j=>by
  induction j with
  |zero=>intro _;exact⟨by simp[scL],by simp[scL,Q4V]⟩
  |succ j ih=>
   intro p;have g:=ih (by omega);obtain⟨x,y,z,c⟩:∃x y z,l.getD j (0,0,false)=(x,y,z):=⟨_,_,_,rfl⟩;have a:=Q1q Q0L l j (by omega);rw[show l.getD j Q0L.d=l.getD j (0,0,false)from rfl,c]at a
   cases z with
   |true=>rw[a,Q46 _ _ _ _ rfl];exact g
   |false=>
    rw[a,Q3F _ _ _ _ rfl,Qa1];have n:=Q3n h (by omega) c;refine QdZ g (fun z m=>Q86 (Q8v h j) m) ⟨n.1,by dsimp only;omega⟩ (fun z m=>?_);obtain⟨i,hi,e⟩:=QbE m
    have f:i < j:=by simp at hi;omega
    have:=Q4K h j (by omega) i f;rw[c]at this;rw[show(l.take j).getD i (0,0,false)=l.getD i (0,0,false)by simp[KFq,List.getElem?_take,f]]at e;rw[<-e];exact this
 have:=k l.length (Kaq _);rw[List.take_of_length_le (Kaq _)]at this;exact this
theorem Q7p (key b:Int) (o:Option Addr) (cap:Nat) (l:List Bk) (w:World) (A:RdK w.heap.size w o l) (u:l.length<=1048576):
  Calls Tryz.prog 244 #[.int .i64 key,.int .i64 b,.slice o l.length cap] w fun e E=> ∃v,e=.returned v/\Q9o E w.heap.size v (Q0U key b l)/\Below w.heap.size w E:=by
 have a:=fun w=>Q0N key w
 have d:=fun w=>Q1Y b w
 have f:=Q2o o cap l w A u
 by_cases hk:Q1S key=true
 ·rw[hk]at a
  by_cases hbk:0<=b/\b < 8
  ·rw[show(decide (0<=b) && decide (b < 8))=true by simp[hbk]]at d
   by_cases hl:Q0d l=true
   ·rw[hl]at f
    have i:=Q00 (show Q0U key b l=Q7A (Q4V (scL key b l))by rw[Q0U,if_pos ⟨hk,hbk,hl⟩]);have I:=Qfh hl;go_enter Tryz.func244,Tryz.ntmps244;go_wp2_with (first|(go_at_call 133;refine(a _).mono ?_;rintro e n ⟨rfl,rfl⟩)|(go_at_call 215;refine(d _).mono ?_;rintro e n ⟨rfl,rfl⟩)|(go_at_call 239;refine f.mono ?_;rintro e F ⟨rfl,c⟩));refine(Q8r key b o cap l F ((A.kept c (Kaq _)).le c.size) (by omega) hk hbk hl).mono ?_;rintro e L ⟨k,v,lb,rfl,t,m,y,j,g,r⟩
    have B:lb.length<=1000:=by
     have M:=j.1
     have h2:(scL key b l).length<=l.length:=by unfold scL;rw[List.length_map];exact List.length_filter_le _ _
     omega
    have h:=QaS k v lb L t m y B;clear f;go_wp2_with fail;refine h.mono ?_;rintro e N ⟨J,p,rfl,D,x,s⟩;have C:=Qgp (Qg7 hl) (fun z hz=>Q86 hl hz) j m D;have H:=Q00 (Q06 (C ▸ x) (Kdq c.size g));have G:=Q00 ((c.trans (r.mono c.size)).trans (s.mono (Kdq c.size g)));clear x c r s A D C h t m y j;go_wp2;go_ret;exact⟨J,rfl,by rw[i.out];exact H.out,G.out⟩
   ·rw[Bool.eq_false_iff.2 hl]at f
    have i:=Q00 (show Q0U key b l=[]by rw[Q0U,if_neg (fun q=>hl q.2.2)]);go_enter Tryz.func244,Tryz.ntmps244;go_wp2_with (first|(go_at_call 133;refine(a _).mono ?_;rintro e n ⟨rfl,rfl⟩)|(go_at_call 215;refine(d _).mono ?_;rintro e n ⟨rfl,rfl⟩)|(go_at_call 239;refine f.mono ?_;rintro e F ⟨rfl,c⟩));go_ret;exact⟨_,rfl,by rw[i.out];exact KLq _ _ _ _,c⟩
  ·rw[show(decide (0<=b) && decide (b < 8))=false by simpa using hbk]at d
   have i:=Q00 (show Q0U key b l=[]by rw[Q0U,if_neg (fun q=>hbk q.2.1)]);go_enter Tryz.func244,Tryz.ntmps244;go_wp2_with (first|(go_at_call 133;refine(a _).mono ?_;rintro e n ⟨rfl,rfl⟩)|(go_at_call 215;refine(d _).mono ?_;rintro e n ⟨rfl,rfl⟩));go_ret;exact⟨_,rfl,by rw[i.out];exact KLq _ _ _ _,KBq⟩
 ·rw[Bool.eq_false_iff.2 hk]at a
  have i:=Q00 (show Q0U key b l=[]by rw[Q0U,if_neg (fun q=>hk q.1)]);go_enter Tryz.func244,Tryz.ntmps244;go_wp2_with (first|(go_at_call 133;refine(a _).mono ?_;rintro e n ⟨rfl,rfl⟩));go_ret;exact⟨_,rfl,by rw[i.out];exact KLq _ _ _ _,KBq⟩
theorem ownL.rds {α:Type} {L:Lay α} {e:TypeId} {w:World} {base n c:Nat} {o:Option Addr} {l:List α} (h:ownL L e w base (.slice o n c) l):RdL L w.heap.size w o l:=by
 obtain⟨f,d,a,b⟩:=h.open;injection a with e1 e2 e3;rw[e1];exact b
theorem Q6O {w:World} {j k s1 s2 q r:Nat} {f h:TypeId} {b i:Value} {s t:List Value} (m:w.ownsRow j f s1 b q s) (h2:w.ownsRow k h s2 i r t) (n:f≠h):b.ownBlock=none\/b.ownBlock≠i.ownBlock:=by
 rcases m.2 with⟨rfl,_⟩|⟨g,cap,l,rfl,_,p,_⟩
 ·exact .inl rfl
 ·right
  rcases h2.2 with⟨rfl,_⟩|⟨u,c,d,rfl,_,a,_⟩
  ·simp[Value.ownBlock]
  ·intro e
   simp[Value.ownBlock]at e;subst e;rw[p]at a;simp at a;exact n a.2
theorem Qij:(3:TypeId)≠22:=by decide
def hv (hs:List Hd) (i:Nat):Value:=.slice (hs.getD i (none,0,0)).1 (hs.getD i (none,0,0)).2.1 (hs.getD i (none,0,0)).2.2
structure Tab (R:Nat->List Int) (k:Nat) (w:World) (base:Nat) (hs:List Hd):Prop where
 len:hs.length=k
 row:∀i,i < k->Q9o w base (hv hs i) (R i)
 apart:∀i j,i < k->j < k->i≠j->(hv hs i).ownBlock=none\/(hv hs i).ownBlock≠(hv hs j).ownBlock
theorem Tab.nil (R:Nat->List Int) (w:World) (base:Nat):Tab R 0 w base []:=⟨rfl,fun i h=>absurd h (KMq _),fun i _ h=>absurd h (KMq _)⟩
theorem Tab.kept {R:Nat->List Int} {k:Nat} {w w':World} {base:Nat} {hs:List Hd} (h:Tab R k w base hs) (hb:Below w.heap.size w w'):Tab R k w' base hs:=
 ⟨h.len,fun i hi=>Q0a (h.row i hi) hb,h.apart⟩
theorem Tab.grown {R:Nat->List Int} {k:Nat} {w a:World} {base:Nat} {hs:List Hd} {r:Option Nat} (h:Tab R k w base hs) (b:w.grownBy a r) (c:∀i,i < k->(hv hs i).ownBlock=none\/(hv hs i).ownBlock≠r):Tab R k a base hs:=
 ⟨h.len,fun i hi=>(h.row i hi).kept b (c i hi),h.apart⟩
theorem Tab.other {R:Nat->List Int} {k:Nat} {w c:World} {base d s2 j:Nat} {hs:List Hd} {a:TypeId} {b:Value} {l:List Value} (h:Tab R k w base hs) (h2:w.ownsRow d a s2 b j l) (f:3≠a) (g:w.grownBy c b.ownBlock):Tab R k c base hs:=
 h.grown g fun i hi=>Q6O (h.row i hi) h2 f
theorem Q5k {hs:List Hd} {x:Hd} {i:Nat} (h:i < hs.length):hv (hs++[x]) i=hv hs i:=by
 unfold hv;rw[KFq,List.getElem?_append_left h,<-KFq]
theorem Qbw {hs:List Hd} {x:Hd}:hv (hs++[x]) hs.length=.slice x.1 x.2.1 x.2.2:=by
 unfold hv;rw[KFq,List.getElem?_append_right (Kaq _),Nat.sub_self];rfl
theorem Tab.snoc {R:Nat->List Int} {k:Nat} {w:World} {base q:Nat} {hs:List Hd} {o:Option Addr} {m c:Nat} (h:Tab R k w base hs) (f:∀i,i < k->∀b,(hv hs i).ownBlock=some b->b < q) (l:base<=q)
  (p:Q9o w q (.slice o m c) (R k)):Tab R (k+1) w base (hs++[(o,m,c)]):=by
 have r:=h.len
 have d:hv (hs++[(o,m,c)]) k=.slice o m c:=by rw[<-r];exact Qbw
 refine⟨by simp[r],fun i hi=>?_,fun i j hi t n=>?_⟩
 ·rcases Nat.lt_succ_iff_lt_or_eq.1 hi with a|a
  ·rw[Q5k (by omega)];exact h.row i a
  ·subst a;rw[d];exact Q06 p l
 ·rcases Nat.lt_succ_iff_lt_or_eq.1 hi with a|a
  ·rw[Q5k (by omega)]
   rcases Nat.lt_succ_iff_lt_or_eq.1 t with g|g
   ·rw[Q5k (by omega)];exact h.apart i j a g n
   ·subst g;rw[d]
    cases hob:(hv hs i).ownBlock with
    |none=>exact .inl rfl
    |some b=>
     right
     intro e;have s:=f i a b hob;have h2:=(p.lt b e.symm).1;omega
  ·subst a
   rw[d]
   cases hob:(Value.slice o m c).ownBlock with
   |none=>exact .inl rfl
   |some b=>
    right
    rw[Q5k (by omega)];intro e;have s:=f j (by omega) b e.symm;have h2:=(p.lt b hob).1;omega
theorem Tab.lt {R:Nat->List Int} {k:Nat} {w:World} {base:Nat} {hs:List Hd} (h:Tab R k w base hs):∀i,i < k->∀b,(hv hs i).ownBlock=some b->b < w.heap.size:=
 fun i hi b e=>((h.row i hi).lt b e).2
def Q2J (R:Nat->List Int) (n:Nat):List (List Int):=(List.range n).map R
theorem Q16 (R:Nat->List Int) (n:Nat):(Q2J R n).length=n:=by simp[Q2J]
theorem Q1V (R:Nat->List Int) (n i:Nat) (h:i < n):(Q2J R n).getD i []=R i:=by simp[Q2J,h]
theorem Tab.rd {R:Nat->List Int} {n:Nat} {w:World} {base d m c:Nat} {hs:List Hd} {o:Option Addr} (h:Tab R n w base hs) (f:ownL Q0q 22 w d (.slice o m c) hs):RdLL w.heap.size w o (Q2J R n):=by
 refine⟨hs,by rw[h.len,Q16],ownL.rds f,fun i hi=>?_⟩;rw[Q16]at hi;rw[Q1V R n i hi];have b:=h.row i hi;obtain⟨j,g,a,_⟩:=ownL.open (L:=Q0T) b;unfold hv at a;injection a with e1 e2 e3;exact⟨e2,ownL.rds (L:=Q0T) b⟩
def OwnT (w:World) (base:Nat) (v:Value) (n:Nat) (R:Nat->List Int):Prop:=
 (v=.slice none 0 0/\n=0)\/∃g hs,v=.slice (some ⟨g,0,none⟩) n n/\ownL Q0q 22 w base v hs/\Tab R n w base hs
theorem OwnT.open {w:World} {base n:Nat} {v:Value} {R:Nat->List Int} (h:OwnT w base v n R):∃o c,v=.slice o n c/\RdLL w.heap.size w o (Q2J R n):=by
 rcases h with⟨rfl,rfl⟩|⟨g,hs,rfl,a,b⟩
 ·exact⟨none,0,rfl,[],rfl,.inl rfl,fun i hi=>by simp[Q2J]at hi⟩
 ·exact⟨_,_,rfl,b.rd a⟩
def st (R:Nat->List Int) (k:Int):Nat->Int
 |0=>k
 |i+1=>st R k i+(R i).length
theorem Stp.cellP {lo hi:Nat} {w c:World} {p:Addr} {u:Value} (s:Stp lo hi w c) (h:w.cell? p=some u) (d:p.block < lo\/hi<=p.block):c.cell? p=some u:=by
 have b:p.block < w.heap.size:=by
  rcases Nat.lt_or_ge p.block w.heap.size with a|a
  ·exact a
  ·simp[World.cell?,Array.getElem?_eq_none a]at h
 have e:=s.block p.block b d;simp only[World.cell?,e]at h ⊢;exact h
def RiV {α:Type} (L:Lay α) (lo hi:Nat) (w:World) (v:Value) (l:List α):Prop:=∃o c,v=.slice o l.length c/\RdLo L lo hi w o l
theorem RiV.step {α:Type} {L:Lay α} {a b lo hi:Nat} {w n:World} {v:Value} {l:List α} (h:RiV L a b w v l) (s:Stp lo hi w n) (x:hi<=a\/b<=lo):RiV L a b n v l:=by
 obtain⟨o,c,e,r⟩:=h;refine⟨o,c,e, ?_⟩
 rcases r with r|⟨g,m,u,p,q,r⟩
 ·exact .inl r
 ·refine .inr ⟨g,m,u,p,q,fun i f j t=>?_⟩
  have h:=r i f j t;have y:(L.cs (l.getD i L.d)).length=L.k:=L.len _;rw[KGq (by omega)]at h ⊢;exact s.cellP h (by simp only;omega)
theorem RiV.mono {α:Type} {L:Lay α} {a b a' b':Nat} {w:World} {v:Value} {l:List α} (h:RiV L a b w v l) (i:a'<=a) (h2:b<=b'):RiV L a' b' w v l:=by
 obtain⟨o,c,e,r⟩:=h;refine⟨o,c,e, ?_⟩
 rcases r with r|⟨g,d,f,j,k,r⟩
 ·exact .inl r
 ·exact .inr ⟨g,d,f,by omega,by omega,r⟩
theorem RiV.open {α:Type} {L:Lay α} {a b:Nat} {w:World} {v:Value} {l:List α} (h:RiV L a b w v l):∃o c,v=.slice o l.length c/\RdL L b w o l:=by
 obtain⟨o,c,e,r⟩:=h;exact⟨o,c,e,r.rd⟩
theorem RiV.of {α:Type} {L:Lay α} {C:Nat} {w:World} {o:Option Addr} {c:Nat} {l:List α} (h:RdL L C w o l):RiV L 0 C w (.slice o l.length c) l:=by
 refine⟨o,c,rfl, ?_⟩
 rcases h with h|⟨g,a,d,b,r⟩
 ·exact .inl h
 ·exact .inr ⟨g,a,d,Kcq _,b,r⟩
theorem InRow.ri {α:Type} {L:Lay α} {e:TypeId} {lo hi:Nat} {w:World} {v:Value} {l:List α} (h:InL L e lo hi w v l):RiV L lo hi w v l:=by
 obtain⟨o,c,b,r⟩:=InL.rd (L:=L) h;refine⟨o,c,b, ?_⟩
 rcases r with r|⟨g,a,d,f,r⟩
 ·exact .inl r
 ·refine .inr ⟨g,a,d,(h.1.lt g (by rw[b,d];rfl)).1,f,r⟩
def RiRows {α:Type} (Q:Nat->Nat->World->Value->α->Prop) (d:α) (lo hi:Nat) (w:World) (v:Value) (xs:List α):Prop:=∃hs:List Hd,hs.length=xs.length/\RiV Q0q lo hi w v hs/\∀i,i < xs.length->Q lo hi w (hv hs i) (xs.getD i d)
structure Stps {α:Type} (Q:Nat->Nat->World->Value->α->Prop):Prop where
 go:∀{a b lo hi:Nat} {w w':World} {v:Value} {x:α},Q a b w v x->Stp lo hi w w'->(hi<=a\/b<=lo)->Q a b w' v x
structure Monos {α:Type} (Q:Nat->Nat->World->Value->α->Prop):Prop where
 go:∀{a b a' b':Nat} {w:World} {v:Value} {x:α},Q a b w v x->a'<=a->b<=b'->Q a' b' w v x
theorem RiRows.step {α:Type} {Q:Nat->Nat->World->Value->α->Prop} {d:α} (hQ:Stps Q):Stps (RiRows Q d):=⟨fun ⟨hs,h0,h1,h2⟩ s hd=>⟨hs,h0,h1.step s hd,fun i hi=>hQ.go (h2 i hi) s hd⟩⟩
theorem RiRows.mono {α:Type} {Q:Nat->Nat->World->Value->α->Prop} {d:α} (hQ:Monos Q):Monos (RiRows Q d):=⟨fun ⟨hs,h0,h1,h2⟩ k1 k2=>⟨hs,h0,h1.mono k1 k2,fun i hi=>hQ.go (h2 i hi) k1 k2⟩⟩
abbrev RiI:=RiV Q0T
abbrev RiT:=RiRows RiI []
abbrev RiR:=RiRows RiT []
theorem RiI.stp:Stps RiI:=⟨fun h s hd=>RiV.step h s hd⟩
theorem RiI.mon:Monos RiI:=⟨fun h h1 h2=>RiV.mono h h1 h2⟩
theorem RiT.stp:Stps RiT:=RiRows.step RiI.stp
theorem RiT.mon:Monos RiT:=RiRows.mono RiI.mon
theorem RiR.stp:Stps RiR:=RiRows.step RiT.stp
theorem RiR.mon:Monos RiR:=RiRows.mono RiT.mon
theorem RiT.rd {a b:Nat} {w:World} {v:Value} {d:List (List Int)} (h:RiT a b w v d):∃o c,v=.slice o d.length c/\RdLL b w o d:=by
 obtain⟨hs,g,j,h2⟩:=h;obtain⟨o,c,e,r⟩:=j.open;refine⟨o,c,by rw[e,g],hs,g,r,fun i hi=>?_⟩;obtain⟨m,l,f,k⟩:=(h2 i hi).open;unfold hv at f;injection f with e1 e2 e3;exact⟨e2,by rw[e1];exact k⟩
theorem RiT.of {C:Nat} {w:World} {o:Option Addr} {c:Nat} {a:List (List Int)} (h:RdLL C w o a):RiT 0 C w (.slice o a.length c) a:=by
 obtain⟨hs,b,r,h2⟩:=h;refine⟨hs,b,by rw[<-b];exact RiV.of r,fun i hi=>?_⟩;have d:=RiV.of (c:=(hs.getD i (none,0,0)).2.2) (h2 i hi).2;unfold hv;rw[(h2 i hi).1];exact d
theorem RiR.at {a C:Nat} {w:World} {o:Option Addr} {n c:Nat} {d:List (List (List Int))} (h:RiR a C w (.slice o n c) d) (l:C<=w.heap.size) (i:Nat) (hi:i < d.length):
  ∃b f g j,o=some ⟨b,f,none⟩/\b < w.heap.size/\w.cell? ⟨b,f+i,none⟩=some (.slice g (d.getD i []).length j)/\RdLL w.heap.size w g (d.getD i []):=by
 obtain⟨hs,p,q,h2⟩:=h;obtain⟨x,v,e,r⟩:=q.open;injection e with e1 e2 e3;subst e1
 rcases r with r|⟨b,f,t,s,r⟩
 ·subst r;simp at p;omega
 ·have m:=RdL.head r i (by omega)
  obtain⟨g,j,k,u⟩:=RiT.rd (h2 i hi);unfold hv at k;rw[k]at m;exact⟨b,f,g,j,t,Kbq s l,m,u.le l⟩
structure Rw {α:Type} (Q:Nat->Nat->World->Value->α->Prop) (d:α) (xs:List α) (lo hi:Nat) (w:World) (hs:List Hd) (L H:Nat->Nat):Prop where
 len:hs.length=xs.length
 bd:∀i,i < xs.length->lo<=L i/\H i<=hi
 sep:∀i j,i < j->j < xs.length->H i<=L j
 row:∀i,i < xs.length->Q (L i) (H i) w (hv hs i) (xs.getD i d)
theorem Rw.nil {α:Type} (Q:Nat->Nat->World->Value->α->Prop) (d:α) (lo hi:Nat) (w:World) (L H:Nat->Nat):Rw Q d [] lo hi w [] L H:=⟨rfl,fun i h=>absurd h (KMq _),fun i j _ h=>absurd h (KMq _),fun i h=>absurd h (KMq _)⟩
theorem Rw.step {α:Type} {Q:Nat->Nat->World->Value->α->Prop} {d:α} {xs:List α} {a b lo hi:Nat} {w f:World} {hs:List Hd} {L H:Nat->Nat} (g:Stps Q) (h:Rw Q d xs a b w hs L H) (s:Stp lo hi w f) (j:∀i,i < xs.length->hi<=L i\/H i<=lo):Rw Q d xs a b f hs L H:=
 ⟨h.len,h.bd,h.sep,fun i c=>g.go (h.row i c) s (j i c)⟩
theorem Rw.kept {α:Type} {Q:Nat->Nat->World->Value->α->Prop} {d:α} {xs:List α} {a b:Nat} {w c:World} {hs:List Hd} {L H:Nat->Nat} (f:Stps Q) (h:Rw Q d xs a b w hs L H) (g:Below w.heap.size w c):Rw Q d xs a b c hs L H:=
 h.step f (Stp.of (lo:=0) (hi:=0) g) (fun i _=> .inl (Kcq _))
theorem Rw.mono {α:Type} {Q:Nat->Nat->World->Value->α->Prop} {d:α} {xs:List α} {a b a' b':Nat} {w:World} {hs:List Hd} {L H:Nat->Nat} (h:Rw Q d xs a b w hs L H) (c:a'<=a) (h2:b<=b'):Rw Q d xs a' b' w hs L H:=
 ⟨h.len,fun i hi=>⟨Kdq c (h.bd i hi).1,Kdq (h.bd i hi).2 h2⟩,h.sep,h.row⟩
theorem Rw.snoc {α:Type} {Q:Nat->Nat->World->Value->α->Prop} {d:α} {xs:List α} {lo b l2 h2:Nat} {w:World} {hs:List Hd} {L H:Nat->Nat} {o:Option Addr} {m c:Nat} {x:α} (h:Rw Q d xs lo b w hs L H) (r:b<=l2) (p:lo<=l2) (s:l2<=h2) (q:Q l2 h2 w (.slice o m c) x):
  Rw Q d (xs++[x]) lo h2 w (hs++[(o,m,c)]) (fun i=>if i < xs.length then L i else l2) (fun i=>if i < xs.length then H i else h2):=by
 have f:=h.len;refine⟨by simp[f],fun i hi=>?_,fun i j k n=>?_,fun i hi=>?_⟩
 ·by_cases a:i < xs.length
  ·have:=h.bd i a;simp only[a,if_true];omega
  ·simp only[a,if_false];omega
 ·simp at n
  have a:i < xs.length:=by omega
  by_cases hj':j < xs.length
  ·simp only[a,hj',if_true];exact h.sep i j k hj'
  ·have:=h.bd i a;simp only[a,hj',if_true,if_false];omega
 ·by_cases a:i < xs.length
  ·have g:(xs++[x]).getD i d=xs.getD i d:=by rw[KFq,List.getElem?_append_left a,<-KFq]
   simp only[a,if_true];rw[Q5k (by omega),g];exact h.row i a
  ·have l:i=xs.length:=by simp at hi;omega
   subst l
   have g:(xs++[x]).getD xs.length d=x:=by simp
   simp only[Nat.lt_irrefl,if_false];rw[g,<-f,Qbw];exact q
theorem Rw.mark {α:Type} {Q:Nat->Nat->World->Value->α->Prop} {d:α} {xs:List α} {a b:Nat} {w m:World} {hs:List Hd} {L H:Nat->Nat} (r:Stps Q) (h:Rw Q d xs a b w hs L H) {i:Nat} (hi:i < xs.length) {y:α} (s:Stp (L i) (H i) w m) (q:Q (L i) (H i) m (hv hs i) y):Rw Q d (xs.set i y) a b m hs L H:=by
 refine⟨by rw[List.length_set];exact h.len,fun j g=>h.bd j (by simpa using g),fun j k l t=>h.sep j k l (by simpa using t),fun j g=>?_⟩
 have c:j < xs.length:=by simpa using g
 by_cases e:j=i
 ·subst e
  have f:(xs.set j y).getD j d=y:=by simp[KFq,c]
  rw[f];exact q
 ·have p:¬i=j:=fun h=>e h.symm
  have f:(xs.set i y).getD j d=xs.getD j d:=by simp[KFq,List.getElem?_set,p]
  rw[f];refine r.go (h.row j c) s ?_
  rcases Nat.lt_or_ge j i with n|n
  ·exact .inr (h.sep j i n hi)
  ·exact .inl (h.sep i j (by omega) c)
def Qcx (v:Value) (n:Nat) (L H:Nat->Nat):Prop:=∀i,i < n->∀b,v.ownBlock=some b->b < L i\/H i<=b
def InRows {α:Type} (Q:Nat->Nat->World->Value->α->Prop) (d:α) (T:TypeId) (lo hi:Nat) (w:World) (v:Value) (xs:List α):Prop:=∃hs L H,InL Q0q T lo hi w v hs/\Rw Q d xs lo hi w hs L H/\Qcx v xs.length L H
theorem InRows.step {α:Type} {Q:Nat->Nat->World->Value->α->Prop} {d:α} {T:TypeId} (c:Stps Q):Stps (InRows Q d T):=⟨fun ⟨hs,L,H,b,a,h2⟩ s f=>
 ⟨hs,L,H,InRow.step b s f,a.step c s (fun i hi=>by have:=a.bd i hi;omega),h2⟩⟩
theorem InRows.mono {α:Type} {Q:Nat->Nat->World->Value->α->Prop} {d:α} {T:TypeId}:Monos (InRows Q d T):=⟨fun ⟨hs,L,H,h0,h1,h2⟩ k1 k2=>
 ⟨hs,L,H,InRow.mono h0 k1 k2,h1.mono k1 k2,h2⟩⟩
theorem InRows.ri {α:Type} {Q Q':Nat->Nat->World->Value->α->Prop} {d:α} {T:TypeId} (c:Monos Q') (f:∀{lo hi:Nat} {w:World} {v:Value} {x:α},Q lo hi w v x->Q' lo hi w v x) {lo hi:Nat} {w:World} {v:Value} {xs:List α} (h:InRows Q d T lo hi w v xs):RiRows Q' d lo hi w v xs:=by
 obtain⟨hs,L,H,b,a,h2⟩:=h;exact⟨hs,a.len,InRow.ri b,fun i hi=>c.go (f (a.row i hi)) (a.bd i hi).1 (a.bd i hi).2⟩
abbrev InI:=InL Q0T 3
abbrev InT:=InRows InI [] 22
abbrev InR:=InRows InT [] 206
theorem InI.stp:Stps InI:=⟨fun h s hd=>InRow.step h s hd⟩
theorem InT.stp:Stps InT:=InRows.step InI.stp
theorem InR.stp:Stps InR:=InRows.step InT.stp
theorem InT.ri {lo hi:Nat} {w:World} {v:Value} {ll:List (List Int)} (h:InT lo hi w v ll):RiT lo hi w v ll:=InRows.ri RiI.mon (fun q=>InRow.ri q) h
theorem InR.ri {lo hi:Nat} {w:World} {v:Value} {ll:List (List (List Int))} (h:InR lo hi w v ll):RiR lo hi w v ll:=InRows.ri RiT.mon (fun q=>InT.ri q) h
end Go.Proofs.YteffhdcankkfkaaGreat
namespace Go.Proofs.YteffhdcankkfkaaGreat
open Go.ChangeShapes Go.WideShapes Go.ChangeAt Go.RowKit Go.Joins
set_option linter.unusedVariables false
set_option linter.unusedSimpArgs false
set_option maxRecDepth 100000
set_option maxHeartbeats 40000000
structure El (η α:Type) where
 L:Lay η
 val:η->Value
 R:Nat->Nat->World->Value->α->Prop
 Q:Nat->Nat->World->Value->α->Prop
 d:α
 pos:0 < L.k
 rs:Stps R
 rm:Monos R
 qs:Stps Q
 qr:∀{lo hi:Nat} {w:World} {v:Value} {x:α},Q lo hi w v x->R lo hi w v x
variable {η α:Type}
def RiE (E:El η α) (lo hi:Nat) (w:World) (v:Value) (xs:List α):Prop:=∃hs:List η,hs.length=xs.length/\RiV E.L lo hi w v hs/\∀i,i < xs.length->E.R lo hi w (E.val (hs.getD i E.L.d)) (xs.getD i E.d)
theorem RiE.stp (E:El η α):Stps (RiE E):=⟨fun ⟨hs,h0,h1,h2⟩ s hd=>⟨hs,h0,h1.step s hd,fun i hi=>E.rs.go (h2 i hi) s hd⟩⟩
theorem RiE.mon (E:El η α):Monos (RiE E):=⟨fun ⟨hs,h0,h1,h2⟩ k1 k2=>⟨hs,h0,h1.mono k1 k2,fun i hi=>E.rm.go (h2 i hi) k1 k2⟩⟩
theorem RiE.len {E:El η α} {lo hi:Nat} {w:World} {v:Value} {xs:List α} (h:RiE E lo hi w v xs):∃o c,v=.slice o xs.length c:=by
 obtain⟨hs,h0,⟨o,c,e,_⟩,_⟩:=h;exact⟨o,c,by rw[e,h0]⟩
theorem RiE.on {E:El η α} {w a:World} {v:Value} {xs:List α} (h:RiE E 0 w.heap.size w v xs) (b:Below w.heap.size w a):RiE E 0 a.heap.size a v xs:=
 (RiE.mon E).go ((RiE.stp E).go h (Stp.of (lo:=0) (hi:=0) b) (.inl (Kcq _))) (Kaq _) b.size
theorem RiE.at {E:El η α} {a C:Nat} {w:World} {o:Option Addr} {n c:Nat} {xs:List α} (h:RiE E a C w (.slice o n c) xs) (i:Nat) (hi:i < xs.length):
  ∃b f y,o=some ⟨b,f,none⟩/\b < C/\(∀j,j < E.L.k->w.cell? ⟨b,f+i * E.L.k+j,none⟩=(E.L.cs y)[j]?)/\E.R a C w (E.val y) (xs.getD i E.d):=by
 obtain⟨hs,g,l,h2⟩:=h;obtain⟨s,q,e,r⟩:=l.open;injection e with e1 e2 e3;subst e1
 rcases r with r|⟨b,f,p,m,r⟩
 ·subst r;simp at g;omega
 ·exact⟨b,f,hs.getD i E.L.d,p,m,r i (by omega),h2 i hi⟩
structure RwE (E:El η α) (xs:List α) (lo hi:Nat) (w:World) (hs:List η) (L H:Nat->Nat):Prop where
 len:hs.length=xs.length
 bd:∀i,i < xs.length->lo<=L i/\H i<=hi
 sep:∀i j,i < xs.length->j < xs.length->i≠j->H i<=L j\/H j<=L i
 row:∀i,i < xs.length->E.Q (L i) (H i) w (E.val (hs.getD i E.L.d)) (xs.getD i E.d)
theorem RwE.nil (E:El η α) (lo hi:Nat) (w:World) (L H:Nat->Nat):RwE E [] lo hi w [] L H:=⟨rfl,fun i h=>absurd h (KMq _),fun i j h=>absurd h (KMq _),fun i h=>absurd h (KMq _)⟩
theorem RwE.step {E:El η α} {xs:List α} {a b lo hi:Nat} {w d:World} {hs:List η} {L H:Nat->Nat} (h:RwE E xs a b w hs L H) (s:Stp lo hi w d) (f:∀i,i < xs.length->hi<=L i\/H i<=lo):RwE E xs a b d hs L H:=
 ⟨h.len,h.bd,h.sep,fun i c=>E.qs.go (h.row i c) s (f i c)⟩
theorem RwE.kept {E:El η α} {xs:List α} {a b:Nat} {w c:World} {hs:List η} {L H:Nat->Nat} (h:RwE E xs a b w hs L H) (d:Below w.heap.size w c):RwE E xs a b c hs L H:=
 h.step (Stp.of (lo:=0) (hi:=0) d) (fun i _=> .inl (Kcq _))
theorem RwE.mono {E:El η α} {xs:List α} {a b a' b':Nat} {w:World} {hs:List η} {L H:Nat->Nat} (h:RwE E xs a b w hs L H) (c:a'<=a) (h2:b<=b'):RwE E xs a' b' w hs L H:=
 ⟨h.len,fun i hi=>⟨Kdq c (h.bd i hi).1,Kdq (h.bd i hi).2 h2⟩,h.sep,h.row⟩
theorem Q9D {β:Type} {l:List β} {y d:β} {i:Nat} (h:i < l.length):(l++[y]).getD i d=l.getD i d:=by rw[KFq,List.getElem?_append_left h,<-KFq]
theorem Q9X {β:Type} {l:List β} {y d:β}:(l++[y]).getD l.length d=y:=by simp
theorem RwE.snoc {E:El η α} {xs:List α} {lo b l2 h2:Nat} {w:World} {hs:List η} {L H:Nat->Nat} {y:η} {x:α} (h:RwE E xs lo b w hs L H) (k:b<=l2) (g:lo<=l2) (l:l2<=h2) (q:E.Q l2 h2 w (E.val y) x):
  RwE E (xs++[x]) lo h2 w (hs++[y]) (fun i=>if i < xs.length then L i else l2) (fun i=>if i < xs.length then H i else h2):=by
 have a:=h.len;refine⟨by simp[a],fun i hi=>?_,fun i j hi f c=>?_,fun i hi=>?_⟩
 ·by_cases hi':i < xs.length
  ·have:=h.bd i hi';simp only[hi',if_true];omega
  ·simp only[hi',if_false];omega
 ·simp at hi f
  by_cases hi':i < xs.length <;> by_cases hj':j < xs.length
  ·simp only[hi',hj',if_true];exact h.sep i j hi' hj' c
  ·have:=h.bd i hi';simp only[hi',hj',if_true,if_false];omega
  ·have:=h.bd j hj';simp only[hi',hj',if_true,if_false];omega
  ·omega
 ·by_cases hi':i < xs.length
  ·simp only[hi',if_true]
   rw[Q9D (by omega),Q9D hi'];exact h.row i hi'
  ·have d:i=xs.length:=by simp at hi;omega
   subst d;simp only[Nat.lt_irrefl,if_false];rw[Q9X,<-a,Q9X];exact q
theorem Q0Z {β:Type} {l:List β} {y d:β} {i:Nat} (h:i < l.length):(l.set i y).getD i d=y:=by simp[KFq,h]
theorem Qf3 {β:Type} {l:List β} {y d:β} {i j:Nat} (h:i≠j):(l.set i y).getD j d=l.getD j d:=by simp[KFq,List.getElem?_set,h]
theorem RwE.set {E:El η α} {xs:List α} {a b:Nat} {w l:World} {hs:List η} {L H:Nat->Nat} (h:RwE E xs a b w hs L H) {i:Nat} (hi:i < xs.length) {y:η} {x:α}
  (n:∀j,j < xs.length->j≠i->E.Q (L j) (H j) l (E.val (hs.getD j E.L.d)) (xs.getD j E.d)) (q:E.Q (L i) (H i) l (E.val y) x):RwE E (xs.set i x) a b l (hs.set i y) L H:=by
 refine⟨by simp[h.len],fun j c=>h.bd j (by simpa using c),fun j k c m=>h.sep j k (by simpa using c) (by simpa using m),fun j c=>?_⟩
 have g:j < xs.length:=by simpa using c
 by_cases e:j=i
 ·subst e
  rw[Q0Z hi,Q0Z (by rw[h.len];exact hi)];exact q
 ·rw[Qf3 (fun f=>e f.symm),Qf3 (fun f=>e f.symm)]
  exact n j g e
def InE (E:El η α) (T:TypeId) (lo hi:Nat) (w:World) (v:Value) (xs:List α):Prop:=∃hs L H,InL E.L T lo hi w v hs/\RwE E xs lo hi w hs L H/\Qcx v xs.length L H
theorem InE.stp (E:El η α) (T:TypeId):Stps (InE E T):=⟨fun ⟨hs,L,H,h0,h1,h2⟩ s hd=>
 ⟨hs,L,H,InRow.step h0 s hd,h1.step s (fun i hi=>by have:=h1.bd i hi;omega),h2⟩⟩
theorem InE.ri {E:El η α} {T:TypeId} {lo hi:Nat} {w:World} {v:Value} {xs:List α} (h:InE E T lo hi w v xs):RiE E lo hi w v xs:=by
 obtain⟨hs,L,H,b,a,h2⟩:=h;exact⟨hs,a.len,InRow.ri b,fun i hi=>E.rm.go (E.qr (a.row i hi)) (a.bd i hi).1 (a.bd i hi).2⟩
def Q2X (L:Lay η) (hs:List η) (n k:Nat):List η:=hs++List.replicate (n - k) L.d
theorem Q6i {L:Lay η} {hs:List η} {n k:Nat} (hk:k<=n) (hl:hs.length=k):(Q2X L hs n k).length=n:=by simp[Q2X,hl];omega
theorem Q6r {L:Lay η} {hs:List η} {n k:Nat} (c:k < n) (b:hs.length=k) (y:η):(Q2X L hs n k).set k y=Q2X L (hs++[y]) n (k+1):=by
 have a:n - k=(n - (k+1))+1:=by omega
 unfold Q2X;rw[a,List.replicate_succ,List.set_append_right _ _ (by omega),b,Nat.sub_self,List.set_cons_zero,List.append_assoc]
 rfl
theorem Q54 (L:Lay η) (n:Nat):Q2X L [] n 0=List.replicate n L.d:=by simp[Q2X]
theorem Qff (L:Lay η) (hs:List η) (n:Nat):Q2X L hs n n=hs:=by simp[Q2X]
theorem InE.filled {E:El η α} {T:TypeId} {base hi:Nat} {w:World} {hs:List η} {L H:Nat->Nat} {xs:List α} (h:w.ownsRow base T E.L.k (.slice (some ⟨base,0,none⟩) xs.length xs.length) xs.length ((Q2X E.L hs xs.length xs.length).flatMap E.L.cs))
  (a:RwE E xs (base+1) hi w hs L H) (f:base < hi):InE E T base hi w (.slice (some ⟨base,0,none⟩) xs.length xs.length) xs:=by
 rw[Qff]at h;have d:=a.len
 have c:∀b,(Value.slice (some ⟨base,0,none⟩) xs.length xs.length).ownBlock=some b->b=base:=fun b e=>(Option.some.inj e).symm
 refine⟨hs,L,H,⟨by rw[d];exact h,fun b e=>by have:=c b e;omega⟩,a.mono (by omega) (Kaq _),fun i hi b e=>?_⟩;have:=c b e;have:=a.bd i hi;omega
theorem Qcn (L:Lay η):∀(l:List η) (i j:Nat) (hi:i < l.length) (a:j < L.k) (u:Value) (y:η) (b:L.cs y=(L.cs (l.getD i L.d)).set j u),(l.flatMap L.cs).set (i * L.k+j) u=(l.set i y).flatMap L.cs
 |q::l,0,j,_,a,u,y,b=>by
  have c:j < (L.cs q).length:=by rw[L.len];exact a
  rw[Nat.zero_mul,Nat.zero_add,List.flatMap_cons,List.set_append_left _ _ c,List.set_cons_zero,List.flatMap_cons]
  congr 1
  exact b.symm
 |q::l,i+1,j,h,a,u,y,b=>by
  have e:(i+1) * L.k+j=L.k+(i * L.k+j):=by rw[Nat.add_mul];omega
  rw[List.flatMap_cons,e,List.set_append_right _ _ (by rw[L.len];omega),L.len,Nat.add_sub_cancel_left,List.set_cons_succ,List.flatMap_cons]
  congr 1
  exact Qcn L l i j (by simpa using h) a u y b
theorem InL.lenE {L:Lay η} {T:TypeId} {lo hi:Nat} {w:World} {g n cap:Nat} {l:List η} (h:InL L T lo hi w (.slice (some ⟨g,0,none⟩) n cap) l):n=l.length:=by
 rcases h.1.2 with⟨a,_⟩|⟨d,b,c,a,_⟩
 ·simp at a
 ·simp at a;exact a.2.1
theorem InL.putE {L:Lay η} {T:TypeId} {lo hi:Nat} {w:World} {g n cap:Nat} (l:List η) (h:InL L T lo hi w (.slice (some ⟨g,0,none⟩) n cap) l) (i j:Nat) (a:i < l.length) (c:j < L.k) (u:Value) (y:η) (m:L.cs y=(L.cs (l.getD i L.d)).set j u):
  InL L T lo hi (w.setCell ⟨g,i * L.k+j,none⟩ u) (.slice (some ⟨g,0,none⟩) n cap) (l.set i y):=by
 have f:=InL.lenE h;subst f;have b:=(h.1.stored (i * L.k+j) u).1;rw[Qcn L l i j a c u y m]at b;refine⟨?_,h.2⟩;rw[List.length_set];exact b
theorem InL.cellE {L:Lay η} {T:TypeId} {lo hi:Nat} {w:World} {g n cap:Nat} (l:List η) (h:InL L T lo hi w (.slice (some ⟨g,0,none⟩) n cap) l) (i j:Nat) (a:i < l.length) (c:j < L.k):w.cell? ⟨g,i * L.k+j,none⟩=(L.cs (l.getD i L.d))[j]? :=by
 have f:=InL.lenE h;subst f
 have b:i * L.k+j < l.length * L.k:=by
  have:(i+1) * L.k<=l.length * L.k:=Nat.mul_le_mul_right _ a;rw[Nat.add_mul]at this;omega
 rw[h.1.cellAt _ b,Q35 L l i j a c]
theorem InL.frozE {L:Lay η} {T:TypeId} {lo hi:Nat} {w:World} {g n cap:Nat} {l:List η} (h:InL L T lo hi w (.slice (some ⟨g,0,none⟩) n cap) l) (j:Nat):w.frozen? ⟨g,j,none⟩=false:=by
 have a:=InL.lenE h;subst a;exact h.1.frozenAt j
theorem InL.someE {L:Lay η} {T:TypeId} {lo hi:Nat} {w:World} {g n cap:Nat} (l:List η) (h:InL L T lo hi w (.slice (some ⟨g,0,none⟩) n cap) l) (i j:Nat) (a:i < l.length) (b:j < L.k):∃z,w.cell? ⟨g,i * L.k+j,none⟩=some z:=
 ⟨_,(InL.cellE l h i j a b).trans (KGq (by rw[L.len];exact b))⟩
theorem Qco {a b:Option Nat} (h:a=none\/a≠b):b=none\/b≠a:=by
 rcases h with h|h
 ·subst h
  cases b with
  |none=>exact .inl rfl
  |some q=>exact .inr (by simp)
 ·exact .inr (fun e=>h e.symm)
theorem Q3H {xs:List α} {k:Nat} (d:α) (h:k < xs.length):xs.take (k+1)=xs.take k++[xs.getD k d]:=by
 rw[List.take_succ_eq_append_getElem h];simp[h]
end Go.Proofs.YteffhdcankkfkaaGreat
namespace Go.Proofs.YteffhdcankkfkaaGreat
open Go.ChangeShapes Go.WideShapes Go.ChangeAt Go.RowKit Go.Joins
set_option linter.unusedVariables false
set_option linter.unusedSimpArgs false
set_option maxRecDepth 100000
set_option maxHeartbeats 40000000
def Q0K (S : Nat -> Nat) : Nat -> Nat
  | 0 => 0
  | n + 1 =>Q0K S n + S n
theorem Q6j (S : Nat -> Nat) {i n : Nat} (h : i <= n) : Q0K S i <= Q0K S n := by
  induction n with
  | zero => have : i = 0 := by omega
            subst this; exact Kaq _
  | succ n ih =>
    by_cases h' : i <= n
    · have := ih h'; show Q0K S i <= Q0K S n + S n; omega
    · have : i = n + 1 := by omega
      subst this; exact Kaq _
theorem Q3o (S : Nat -> Nat) {i n : Nat} (h : i < n) : Q0K S i + S i <= Q0K S n := Q6j S (show i + 1 <= n from h)
theorem QbC (S : Nat -> Nat) (m : Nat) (h : ∀ i, S i <= m) : ∀ n, Q0K S n <= m * n
  | 0 =>Kcq _
  | n + 1 =>by have := QbC S m h n; have := h n; unfold Q0K; rw[Nat.mul_succ]; omega
def Q7e (ll : List (List Int)) (i : Nat) : Nat := (ll.getD i []).length
def szT (ll : List (List Int)) : Nat := Q0K (Q7e ll) ll.length
def Q4h (lll : List (List (List Int))) (i : Nat) : Nat := szT (lll.getD i [])
def szR (lll : List (List (List Int))) : Nat := Q0K (Q4h lll) lll.length
def Q1D {α : Type} (f : Nat -> α) (xs : List α) (d : α) (i : Nat) : List α := (List.range xs.length).map (fun j =>if j < i then f j else xs.getD j d)
theorem Q3I {α : Type} (f : Nat -> α) (xs : List α) (d : α) : Q1D f xs d 0 = xs := by
  apply List.ext_getElem
  · simp[Q1D]
  · intro i h1 h2; simp[Q1D, h2]
theorem Q0X {α : Type} (f : Nat -> α) (xs : List α) (d : α) (i : Nat) : (Q1D f xs d i).length = xs.length := by simp[Q1D]
theorem Q4P {α : Type} (f : Nat -> α) (xs : List α) (d : α) (i : Nat) (h : i < xs.length) : (Q1D f xs d i).getD i d = xs.getD i d := by simp[Q1D, h]
theorem Q4U {α : Type} (f : Nat -> α) (xs : List α) (d : α) (i : Nat) : (Q1D f xs d i).set i (f i) = Q1D f xs d (i + 1) := by
  apply List.ext_getElem
  · simp[Q1D]
  · intro j a h2
    simp[Q1D]at a h2
    by_cases e : i = j
    · subst e; simp[Q1D]
    · by_cases h3 : j < i
      · simp[Q1D, List.getElem_set, e, h3, show j < i + 1 by omega]
      · simp[Q1D, List.getElem_set, e, h3, show ¬ j < i + 1 by omega]
theorem Q4z {α : Type} (f : Nat -> α) (xs : List α) (d : α) : Q1D f xs d xs.length = (List.range xs.length).map f := by
  unfold Q1D;exact List.map_congr_left (fun a ha =>by simp at ha; simp[ha])
def Qib (k : Int) (ll : List (List Int)) (j : Nat) : List Int := Q3i (k + (Q0K (Q7e ll) j : Int)) (Q7e ll j)
def mkT (k : Int) (ll : List (List Int)) : List (List Int) := (List.range ll.length).map (Qib k ll)
def Qi1 (k : Int) (lll : List (List (List Int))) (j : Nat) : List (List Int) := mkT (k + (Q0K (Q4h lll) j : Int)) (lll.getD j [])
def mkR (k : Int) (lll : List (List (List Int))) : List (List (List Int)) := (List.range lll.length).map (Qi1 k lll)
theorem QhD (k : Int) (ll : List (List Int)) : (mkT k ll).length = ll.length := by simp[mkT]
theorem Qhi (k : Int) (ll : List (List (List Int))) : (mkR k ll).length = ll.length := by simp[mkR]
theorem Stp.wide2 {a b lo hi : Nat} {w w' : World} (s : Stp a b w w') (h1 : lo <= a) (h2 : b <= hi) : Stp lo hi w w' := ⟨s.os, s.tape, s.output, s.size, fun k hk hn =>s.block k hk (by omega)⟩
theorem Q9C (lo hi : Nat) (v : Value) (a : List (List Int)) (k : Int) (w : World) (h : InT lo hi w v a) (h0 : 0 <= k) (h1 : k + (szT a : Int) <= 10000000) (hn : a.length <= 1048576) (hz : szT a <= 1048576) :
    Calls Tryz.prog 191 #[v, .int .i64 k] w fun e w' =>e = .returned (.int .i64 (k + (szT a : Int))) /\ InT lo hi w' v (mkT k a) /\ Stp lo hi w w' := by
  obtain⟨hs, L, H, C, D, X⟩ := h;have R := D.len;obtain⟨o, c, e, r⟩ := InL.rd (L := Q0q) C;subst e;rw[R]at C X ⊢;have f := Q00 X;have F := Q00 D.bd;have I0 := Q00 C;have I1 := Q00 (show Rw InI [] (Q1D (Qib k a) a [] 0) lo hi w hs L H by rw[Q3I]; exact D);have Z := Q00 R;clear C D X r R;go_enter Tryz.func191, Tryz.ntmps191;go_wp2
  go_loopw [1, 5] (fun m j wr => ∃ i : Nat, i <= a.length /\ j = .int .i64 (i : Int) /\ m = .int .i64 (k + (Q0K (Q7e a) i : Int)) /\ Hid (InL Q0q 22 lo hi wr (.slice o a.length c) hs) /\ Hid (Rw InI [] (Q1D (Qib k a) a [] i) lo hi wr hs L H) /\ Hid (Stp lo hi w wr))
    (fun _ j _ =>a.length - (intOf j).toNat)
  case atStart =>exact⟨0, Kcq _, rfl, by simp[Q0K], I0.out, I1.out, Stp.refl _⟩
  case round =>
    obtain⟨i, P, rfl, rfl, G, B, HS⟩ := hrel;clear I0 I1;have V := Q6j (Q7e a) P;have A : Q0K (Q7e a) a.length = szT a := rfl;rw[A]at V;clear A
    by_cases hlt : i < a.length
    · obtain⟨o', c', e', r⟩ := InL.rd (L := Q0q) G.out
      injection e' with e1 e2 e3;rw[<- e1]at r
      rcases r with r | ⟨b, Y, rfl, hb, r⟩
      · have := Z.out; rw[r]at this; simp at this; omega
      have hc := RdL.head r i (by rw[Z.out]; exact hlt);have d := B.out.row i (by rw[Q0X]; exact hlt);rw[Q4P _ _ _ _ hlt]at d;have n := Q3o (Q7e a) hlt;rw[show Q0K (Q7e a) a.length = szT a from rfl]at n;have T := Q5z (L i) (hv hs i) (a.getD i []) (k + (Q0K (Q7e a) i : Int)) wr d.1 (by omega) (by omega) (by unfold Q7e at n; omega);have u := Q00 (show k + (Q0K (Q7e a) i : Int) + ((a.getD i []).length : Int) = k + (Q0K (Q7e a) (i + 1) : Int)by rw[show Q0K (Q7e a) (i + 1) = Q0K (Q7e a) i + (a.getD i []).length from rfl]; omega)
      have J := Q00 (fun b e =>And.intro (d.1.lt b e).1 (d.2 b e));have t := Q00 (fun E (s : Stp (L i) (H i) wr E) q =>Rw.mark InI.stp B.out (i := i) (by rw[Q0X]; exact hlt) s (y := Qib k a i) q);have p := Q00 (F.out i hlt);have N := Q00 (d.2)
      have z1 : (i : Int) < (a.length : Int) := by omega
      change wr.cell? ⟨b, Y + i, none⟩ = some (hv hs i)at hc
      obtain⟨q, U⟩ : ∃ q, (a.getD i []).length = q := ⟨_, rfl⟩;rw[U]at T u;have HQ := Q00 U;clear U;clear d r n B e1 e2 e3;generalize hv hs i = rv at *;generalize hst : Q0K (Q7e a) i = s0 at *;have O := Q00 hst;clear hst;go_wp2_with fail;refine T.mono ?_;rintro e E ⟨rfl, z, x⟩;have l : Hid (Stp (L i) (H i) wr E) := Stp.grown x J.out;have M := Q00 (t.out E l.out ⟨by unfold Qib; rw[O.out, show Q7e a i = q from HQ.out]; exact z, N.out⟩);have I := Q00 (InRow.steps G.out l.out (fun g e =>f.out i hlt g e));clear z x T hc t;go_wp2
      go_roundw
      case rel =>exact⟨i + 1, by omega, by go_num, by rw[u.out], I.out, by rw[<- Q4U]; exact M.out, HS.out.trans (l.out.wide2 p.out.1 p.out.2)⟩
      case measure =>simp[intOf]; omega
    · have e : i = a.length := by omega
      subst e;go_wp2;go_ret;exact⟨rfl, ⟨hs, L, H, G.out, by unfold mkT; rw[<- Q4z]; exact B.out, by rw[QhD]; exact f.out⟩, HS.out⟩
theorem Q8I (lo hi:Nat) (v:Value) (a:List (List (List Int))) (k:Int) (w:World) (h:InR lo hi w v a) (h0:0<=k) (h1:k+(szR a:Int)<=10000000) (hn:a.length<=1048576) (hz:szR a<=1048576) (hx:∀i,i < a.length->(a.getD i []).length<=1048576):
  Calls Tryz.prog 145 #[v,.int .i64 k] w fun e w'=>e=.returned (.int .i64 (k+(szR a:Int)))/\InR lo hi w' v (mkR k a)/\Stp lo hi w w':=by
 obtain⟨hs,L,H,E,F,V⟩:=h;have R:=F.len;obtain⟨o,c,e,r⟩:=InL.rd (L:=Q0q) E;subst e;rw[R]at E V ⊢;have f:=Q00 V;have I:=Q00 F.bd;have I0:=Q00 E;have I1:=Q00 (show Rw InT [] (Q1D (Qi1 k a) a [] 0) lo hi w hs L H by rw[Q3I];exact F);have Y:=Q00 R;clear E F V r R;go_enter Tryz.func145,Tryz.ntmps145;go_wp2
 go_loopw [1,5] (fun m j wr=> ∃i:Nat,i<=a.length/\j=.int .i64 (i:Int)/\m=.int .i64 (k+(Q0K (Q4h a) i:Int))/\Hid (InL Q0q 206 lo hi wr (.slice o a.length c) hs)/\Hid (Rw InT [] (Q1D (Qi1 k a) a [] i) lo hi wr hs L H)/\Hid (Stp lo hi w wr))
  (fun _ j _=>a.length - (intOf j).toNat)
 case atStart=>exact⟨0,Kcq _,rfl,by simp[Q0K],I0.out,I1.out,Stp.refl _⟩
 case round=>
  obtain⟨i,P,rfl,rfl,J,C,Z⟩:=hrel;clear I0 I1;have U:=Q6j (Q4h a) P;have B:Q0K (Q4h a) a.length=szR a:=rfl;rw[B]at U;clear B
  by_cases hlt:i < a.length
  ·obtain⟨o',c',e',r⟩:=InL.rd (L:=Q0q) J.out
   injection e' with e1 e2 e3;rw[<-e1]at r
   rcases r with r|⟨b,X,rfl,hb,r⟩
   ·have:=Y.out;rw[r]at this;simp at this;omega
   have hc:=RdL.head r i (by rw[Y.out];exact hlt);have d:=C.out.row i (by rw[Q0X];exact hlt);rw[Q4P _ _ _ _ hlt]at d;have z:=Q3o (Q4h a) hlt;rw[show Q0K (Q4h a) a.length=szR a from rfl]at z;have A:szT (a.getD i [])=Q4h a i:=rfl;have D:=Q9C (L i) (H i) (hv hs i) (a.getD i []) (k+(Q0K (Q4h a) i:Int)) wr d (by omega) (by omega) (hx i hlt) (by omega);rw[A]at D;clear A;have t:=Q00 (show k+(Q0K (Q4h a) i:Int)+(Q4h a i:Int)=k+(Q0K (Q4h a) (i+1):Int)by rw[show Q0K (Q4h a) (i+1)=Q0K (Q4h a) i+Q4h a i from rfl];omega)
   have p:=Q00 (fun G (s:Stp (L i) (H i) wr G) q=>Rw.mark InT.stp C.out (i:=i) (by rw[Q0X];exact hlt) s (y:=Qi1 k a i) q);have n:=Q00 (I.out i hlt)
   have z1:(i:Int) < (a.length:Int):=by omega
   change wr.cell? ⟨b,X+i,none⟩=some (hv hs i)at hc
   obtain⟨q,T⟩:∃q,Q4h a i=q:=⟨_,rfl⟩;rw[T]at D t;have HQ:=Q00 T;clear T;clear d r z C e1 e2 e3;generalize hv hs i=rv at *;generalize hst:Q0K (Q4h a) i=s0 at *;have O:=Q00 hst;clear hst;go_wp2_with fail;refine D.mono ?_;rintro e G ⟨rfl,x,u⟩;have l:Hid (Stp (L i) (H i) wr G):=u;have N:=Q00 (p.out G l.out (by unfold Qi1;rw[O.out];exact x));have M:=Q00 (InRow.steps J.out l.out (fun g e=>f.out i hlt g e));clear x u D hc p;go_wp2;go_roundw
   case rel=>exact⟨i+1,by omega,by go_num,by rw[t.out],M.out,by rw[<-Q4U];exact N.out,Z.out.trans (l.out.wide2 n.out.1 n.out.2)⟩
   case measure=>simp[intOf];omega
  ·have e:i=a.length:=by omega
   subst e;go_wp2;go_ret;exact⟨rfl,⟨hs,L,H,J.out,by unfold mkR;rw[<-Q4z];exact C.out,by rw[Qhi];exact f.out⟩,Z.out⟩
theorem Q8u (C D:Value) (a:List (List (List Int))) (w:World) (s:RiR 0 w.heap.size w C a) (h2:RiR 0 w.heap.size w D a) (hl:a.length<=1048576) (G:∀i,i < a.length->(a.getD i []).length<=1048576) (H:∀i,i < a.length->∀j,j < (a.getD i []).length->((a.getD i []).getD j []).length<=1048576):
  Calls Tryz.prog 139 #[C,D] w fun e P=>e=.returned (.bool true)/\Below w.heap.size w P:=by
 obtain⟨o1,X,M⟩:∃o c,C=.slice o a.length c:=by
  obtain⟨hs,r,⟨o,c,e,_⟩,_⟩:=s;exact⟨o,c,by rw[e,r]⟩
 obtain⟨o2,Y,N⟩:∃o c,D=.slice o a.length c:=by
  obtain⟨hs,r,⟨o,c,e,_⟩,_⟩:=h2;exact⟨o,c,by rw[e,r]⟩
 subst M N;go_enter Tryz.func139,Tryz.ntmps139;go_wp2
 go_loopw [5] (fun i wr=> ∃k:Nat,k<=a.length/\i=.int .i64 (k:Int)/\Below w.heap.size w wr)
  (fun i _=>a.length - (intOf i).toNat)
 case atStart=>exact⟨0,Kcq _,rfl,KBq⟩
 case round=>
  obtain⟨k,Z,rfl,d⟩:=hrel
  by_cases hlt:k < a.length
  ·obtain⟨U,I,A,n,rfl,t,g,l⟩:=(RiR.mon.go (RiR.stp.go s (Stp.of (lo:=0) (hi:=0) d) (.inl (Kcq _))) (Kaq _) d.size).at (Kaq _) k hlt
   obtain⟨V,J,B,q,rfl,u,h,m⟩:=(RiR.mon.go (RiR.stp.go h2 (Stp.of (lo:=0) (hi:=0) d) (.inl (Kcq _))) (Kaq _) d.size).at (Kaq _) k hlt;have z:=G k hlt;have f:=Q00 (H k hlt);have E:=Q00 d;have R:=Grown.cell g t;have T:=Grown.cell h u;have L:=Q00 (fun p:Grown wr=>Q9T A B n q (a.getD k []) p.v ((l.kept p.b (Kaq _)).le p.b.size) ((m.kept p.b (Kaq _)).le p.b.size) z f.out);clear d l m G H s h2 g h f
   have i1:(k:Int) < (a.length:Int):=by omega
   generalize a.getD k []=row at *;go_wp2
   (refine Q0b (by kernel_rfl) (by kernel_rfl) ?_;intro F;(repeat (go_big_quiet_step ((go_at_call 187;exact Q0r _ (L.out _)))));(with_reducible refine wpQuiet_nil ?_);intro _ y;obtain⟨O,x⟩:=y;subst x)
   go_wp2;go_roundw
   case rel=>exact⟨k+1,by omega,by go_num,E.out.trans (O.b.mono E.out.size)⟩
   case measure=>simp[intOf];omega
  ·have e:k=a.length:=by omega
   subst e;go_wp2;go_ret;exact⟨rfl,d⟩
def Qgu (key:Int) (l:List Bk):Nat:=if Q1S key=true/\Q0d l=true then 8 else 0
theorem Q7X {wr:World} {base g:Nat} {hs:List Hd} {k n:Nat} {o:Option Addr} {m c:Nat} (j:k < n) (i:hs.length=k) (h:wr.ownsRow base 22 1 (.slice (some ⟨g,0,none⟩) n n) n ((hs++List.replicate (n - k) Q0q.d).flatMap Q0q.cs)):
  (wr.setCell ⟨g,k,none⟩ (.slice o m c)).ownsRow base 22 1 (.slice (some ⟨g,0,none⟩) n n) n (((hs++[(o,m,c)])++List.replicate (n - (k+1)) Q0q.d).flatMap Q0q.cs):=by
 have b:=(h.stored k (.slice o m c)).1;rw[Q3s Q0q rfl (a:=(o,m,c)) rfl]at b
 have f:n - k=(n - (k+1))+1:=by omega
 rw[f,List.replicate_succ,List.set_append_right _ _ (by omega),i,Nat.sub_self,List.set_cons_zero]at b;rw[List.append_assoc];exact b
theorem Q70 (key:Int) (o:Option Addr) (cap:Nat) (l:List Bk) (w:World) (L:RdK w.heap.size w o l) (z:l.length<=1048576):
  Calls Tryz.prog 223 #[.int .i64 key,.slice o l.length cap] w fun e w'=> ∃v,e=.returned v/\OwnT w' w.heap.size v (Qgu key l) (fun b=>Q0U key b l)/\Below w.heap.size w w':=by
 have a:=fun w=>Q0N key w
 have j:=Q2o o cap l w L z
 by_cases hk:Q1S key=true
 ·rw[hk]at a
  by_cases hl:Q0d l=true
  ·rw[hl]at j
   have E:=Q00 (show Qgu key l=8 by rw[Qgu,if_pos ⟨hk,hl⟩]);have HP:=Q00 (fun (b:Nat) W h=>Q7p key b o cap l W h z);obtain⟨i0,hi,U,V,X⟩:=info_parts Q63;go_enter Tryz.func223,Tryz.ntmps223;go_wp2_with (first|(go_at_call 133;refine(a _).mono ?_;rintro e w1 ⟨rfl,rfl⟩)|(go_at_call 239;refine j.mono ?_;rintro e r ⟨rfl,g⟩)|(at_make;refine wpList_make_full _ rfl _ _ 206 rfl r.heap.size 22 i0 (.slice none 0 0) 1 Tryz.underlying206 hi U V _ _ _ _ 8 rfl rfl rfl rfl ?b2 ?b3 ?b4 ?_))
   case b2=>rw[X];omega
   case b3=>unfold maxLen;omega
   case b4=>simp
   intro Z A n;have H:Below r.heap.size r Z:=KBq.grown n (Kaq _) (fun k h=>by cases h);have C:Below w.heap.size w Z:=g.trans (H.mono g.size);have J:w.heap.size<=r.heap.size:=g.size
   have D:Z.ownsRow w.heap.size 22 1 (.slice (some ⟨r.heap.size,0,none⟩) 8 8) 8 ((([]:List Hd)++List.replicate (8 - 0) Q0q.d).flatMap Q0q.cs):=by
    rw[List.nil_append,Nat.sub_zero,<-Q11 Q0q (.slice none 0 0) rfl,show Q0q.k=1 from rfl,Nat.mul_one];exact Q06 A J
   clear A n H j g;go_wp2
   go_loopw [18] (fun iv wr=> ∃(k:Nat) (hs:List Hd),k<=8/\iv=.int .i64 k/\wr.ownsRow w.heap.size 22 1 (.slice (some ⟨r.heap.size,0,none⟩) 8 8) 8 ((hs++List.replicate (8 - k) Q0q.d).flatMap Q0q.cs)/\Tab (fun b=>Q0U key b l) k wr w.heap.size hs/\Below w.heap.size w wr)
    (fun iv _=> 8 - (intOf iv).toNat)
   case atStart=>exact⟨0,[],Kcq _,rfl,D,Tab.nil _ _ _,C⟩
   case round=>
    obtain⟨k,hs,ab,rfl,t,x,f⟩:=hrel
    by_cases hlt:k < 8
    ·have hp:=HP.out k wr ((L.kept f (Kaq _)).le f.size)
     have N:=Q00 t;have B:=Q00 x;have F:=Q00 f
     have z1:(k:Int) < 8:=by omega
     have HR:=Q00 L;clear t x f D C L;go_wp2_with fail;refine hp.mono ?_;rintro e w4 ⟨v4,rfl,y,s⟩;obtain⟨Y,R,e4,_⟩:=y.open;rw[e4]at y ⊢;have i:=Q00 (Q0a N.out s)
     have T:((hs++List.replicate (8 - k) Q0q.d).flatMap Q0q.cs).length=8:=by rw[Q0f,List.length_append,List.length_replicate,B.out.len,show Q0q.k=1 from rfl];omega
     have I:=i.out.cellAt k (by omega);have aa:=i.out.frozenAt k;obtain⟨u,hu⟩:∃u,w4.cell? ⟨r.heap.size,k,none⟩=some u:=⟨_,I.trans (KGq (by omega))⟩;have O:=Q00 (Q7X (o:=Y) (m:=(Q0U key k l).length) (c:=R) hlt B.out.len i.out);have G:=(B.out.kept s).snoc B.out.lt F.out.size y;have P:=Q00 (G.other i.out Qij (i.out.stored k (.slice Y (Q0U key k l).length R)).2);have M:=Q00 ((F.out.trans (s.mono F.out.size)).setCell (p:=⟨r.heap.size,k,none⟩) J (.slice Y (Q0U key k l).length R));clear y s I G e4 hp T
     generalize (Q0U key k l).length=q at *;go_wp2;go_roundw
     case rel=>exact⟨k+1,_,by omega,by go_num,O.out,P.out,M.out⟩
     case measure=>simp[intOf];omega
    ·have e:k=8:=by omega
     subst e;have N:=Q00 t;have B:=Q00 x;have F:=Q00 f;clear t x f D C;go_wp2;go_ret;refine⟨_,rfl,.inr ⟨r.heap.size,hs,by rw[E.out];rfl, ?_,by rw[E.out];exact B.out⟩,F.out⟩;have h1:=N.out;rw[Nat.sub_self,List.replicate_zero,List.append_nil]at h1;unfold ownL;rw[B.out.len];exact h1
  ·rw[Bool.eq_false_iff.2 hl]at j
   have E:=Q00 (show Qgu key l=0 by rw[Qgu,if_neg (fun q=>hl q.2)]);go_enter Tryz.func223,Tryz.ntmps223;go_wp2_with (first|(go_at_call 133;refine(a _).mono ?_;rintro e w1 ⟨rfl,rfl⟩)|(go_at_call 239;refine j.mono ?_;rintro e r ⟨rfl,g⟩));go_ret;exact⟨_,rfl,.inl ⟨rfl,E.out⟩,g⟩
 ·rw[Bool.eq_false_iff.2 hk]at a
  have E:=Q00 (show Qgu key l=0 by rw[Qgu,if_neg (fun q=>hk q.1)]);go_enter Tryz.func223,Tryz.ntmps223;go_wp2_with (first|(go_at_call 133;refine(a _).mono ?_;rintro e w1 ⟨rfl,rfl⟩));go_ret;exact⟨_,rfl,.inl ⟨rfl,E.out⟩,KBq⟩
def Q0V (R1 R2:List (List (List Int))):Bool:=decide (R1.length=R2.length) && (List.range R1.length).all (fun i=>Q0Y (R1.getD i []) (R2.getD i [])==0)
theorem bC7 {C b j:Nat} {w w':World} {u:Value} (h:Below C w w') (hc:w.cell? ⟨b,j,none⟩=some u) (hz:b < C):w'.cell? ⟨b,j,none⟩=some u:=(h.cell (p:=⟨b,j,none⟩) hz).trans hc
theorem RiRows.atS {α:Type} {Q:Nat->Nat->World->Value->α->Prop} {d:α} {a C:Nat} {w:World} {o:Option Addr} {n c:Nat} {xs:List α} (h:RiRows Q d a C w (.slice o n c) xs) (p:C<=w.heap.size) (i:Nat) (hi:i < xs.length):∃b f u,o=some ⟨b,f,none⟩/\b < C/\w.cell? ⟨b,f+i,none⟩=some u/\Q a C w u (xs.getD i d):=by
 obtain⟨hs,g,j,h2⟩:=h;obtain⟨q,m,e,r⟩:=j.open;injection e with e1 e2 e3;subst e1
 rcases r with r|⟨b,f,l,k,r⟩
 ·subst r;simp at g;omega
 ·exact⟨b,f,hv hs i,l,k,RdL.head r i (by omega),h2 i hi⟩
theorem Q5D {R1 R2:List (List (List Int))} {i:Nat} (hi:i < R1.length) (h:Q0Y (R1.getD i []) (R2.getD i [])≠0):Q0V R1 R2=false:=by
 unfold Q0V;rw[Bool.and_eq_false_iff]
 right
 rw[List.all_eq_false];exact⟨i,by simpa using hi,by simpa using h⟩
theorem Q4t {R1 R2:List (List (List Int))} (a:R1.length=R2.length) (h:∀i,i < R1.length->Q0Y (R1.getD i []) (R2.getD i [])=0):Q0V R1 R2=true:=by
 unfold Q0V;rw[decide_eq_true a,Bool.true_and,List.all_eq_true];intro i hi;rw[h i (by simpa using hi)]
 rfl
theorem Q4y {R1 R2:List (List (List Int))} (hl:R1.length≠R2.length):Q0V R1 R2=false:=by
 unfold Q0V;rw[decide_eq_false hl];rfl
theorem RdK.cells3 {C:Nat} {w:World} {o:Option Addr} {l:List Bk} (h:RdK C w o l) (j:Nat) (c:j < l.length):∃g a,o=some ⟨g,a,none⟩/\g < C/\w.cell? ⟨g,a+j * 3,none⟩=some (.int .i64 (l.getD j (0,0,false)).1)/\w.cell? ⟨g,a+j * 3+1,none⟩=some (.int .i64 (l.getD j (0,0,false)).2.1)/\w.cell? ⟨g,a+j * 3+2,none⟩=some (.bool (l.getD j (0,0,false)).2.2):=by
 rcases h with r|⟨b,a,f,d,r⟩
 ·subst r;exact absurd c (KMq _)
 ·exact⟨b,a,f,d,r j c 0 (by decide),r j c 1 (by decide),r j c 2 (by decide)⟩
theorem Q3T (l:List Bk) (k:Nat) (h:k < l.length):l.take (k+1)=l.take k++[l.getD k (0,0,false)]:=Q1q Q0L l k h
theorem Qbi (Y Z:Option Addr) (s B c1 c2:Nat) (m l2:List Bk) (w:World) (n:s=m.length) (r:B=l2.length) (V:RdK w.heap.size w Y m) (h2:RdK w.heap.size w Z l2) (H:m.length<=1048576) (I:l2.length<=1048576):
  Calls Tryz.prog 204 #[.slice Y s c1,.slice Z B c2] w fun e w'=>e=.returned (.bool (decide (m=l2)))/\Below w.heap.size w w':=by
 have t:=Q00 n;have u:=Q00 r;have H1:=Q00 V;have H2:=Q00 h2
 by_cases hlen:s=B
 ·subst hlen
  rw[<-n]at H;clear n r V h2 I;go_enter Tryz.func204,Tryz.ntmps204;go_wp2
  go_loopw [4,13] (fun rv i wr=> ∃k:Nat,k<=s/\i=.int .i64 (k:Int)/\rv=.bool false/\Hid (m.take k=l2.take k)/\Hid (Below w.heap.size w wr))
   (fun _ i _=>s - (intOf i).toNat)
  case atStart=>exact⟨0,Kcq _,rfl,rfl,rfl,KBq⟩
  case round=>
   rename World=>wr
   obtain⟨k,hk,rfl,rfl,J,a⟩:=hrel
   by_cases hlt:k < s
   ·have X:(k:Int) < (s:Int):=by omega
    obtain⟨g1,f1,rfl,j,N,O,P⟩:=RdK.cells3 H1.out k (by rw[<-t.out];exact hlt);obtain⟨g2,f2,rfl,l,R,T,U⟩:=RdK.cells3 H2.out k (by rw[<-u.out];exact hlt);have Ga0:=Grown.cell (bC7 a.out N j) (Kbq j a.out.size);have Ga1:=Grown.cell (bC7 a.out O j) (Kbq j a.out.size);have Ga2:=Grown.cell (bC7 a.out P j) (Kbq j a.out.size);have Gb0:=Grown.cell (bC7 a.out R l) (Kbq l a.out.size);have Gb1:=Grown.cell (bC7 a.out T l) (Kbq l a.out.size);have Gb2:=Grown.cell (bC7 a.out U l) (Kbq l a.out.size)
    have L:=Q00 (Q3T m k (by rw[<-t.out];exact hlt));have M:=Q00 (Q3T l2 k (by rw[<-u.out];exact hlt))
    have v:Hid (m=l2->m.getD k (0,0,false)=l2.getD k (0,0,false)):=fun h=>by rw[h]
    clear N O P R T U;generalize m.getD k (0,0,false)=d at *;generalize l2.getD k (0,0,false)=e at *
    by_cases hde:d=e
    ·subst hde
     obtain⟨y,z,A⟩:=d;dsimp only at Ga0 Ga1 Ga2 Gb0 Gb1 Gb2;clear v;go_wp2
     (refine Q0b (by kernel_rfl) (by kernel_rfl) ?_;intro q;(repeat (go_big_quiet_step (fail)));(with_reducible refine wpQuiet_nil ?_);intro _ g;obtain⟨x,f⟩:=g;subst f)
     have c:=Q00 (a.out.trans (x.b.mono a.out.size));go_wp2;go_roundw
     case rel=>exact⟨k+1,by omega,by go_num,rfl,(by unfold Hid;rw[L.out,M.out,J.out]),c.out⟩
     case measure=>simp[intOf];omega
    ·have D:Hid (m≠l2):=fun h=>hde (v.out h)
     obtain⟨y,z,A⟩:=d;obtain⟨E,F,G⟩:=e;dsimp only at Ga0 Ga1 Ga2 Gb0 Gb1 Gb2
     have p:¬(y=E/\z=F/\A=G):=fun h=>hde (by rw[h.1,h.2.1,h.2.2])
     clear hde v L M
     by_cases q0:y=E
     ·subst q0
      by_cases q1:z=F
      ·subst q1
       have q2:¬A=G:=fun h=>p ⟨rfl,rfl,h⟩
       clear p
       cases A <;> cases G <;> first|exact absurd rfl q2|skip
       all_goals clear q2
       all_goals go_wp2
       all_goals (refine Q0b (by kernel_rfl) (by kernel_rfl) ?_;intro q;(repeat (go_big_quiet_step (fail)));(with_reducible refine wpQuiet_nil ?_);intro _ g;obtain⟨x,f⟩:=g;subst f)
       all_goals have c:=Q00 (a.out.trans (x.b.mono a.out.size))
       all_goals go_wp2
       all_goals go_ret
       all_goals exact⟨Q03 (decide_eq_false D.out).symm,c.out⟩
      ·clear p
       have ab:(z==F)=false:=by simpa using q1
       go_wp2
       (refine Q0b (by kernel_rfl) (by kernel_rfl) ?_;intro q;(repeat (go_big_quiet_step (fail)));(with_reducible refine wpQuiet_nil ?_);intro _ g;obtain⟨x,f⟩:=g;subst f)
       have c:=Q00 (a.out.trans (x.b.mono a.out.size));go_wp2;go_ret;exact⟨Q03 (decide_eq_false D.out).symm,c.out⟩
     ·clear p
      have aa:(y==E)=false:=by simpa using q0
      go_wp2
      (refine Q0b (by kernel_rfl) (by kernel_rfl) ?_;intro q;(repeat (go_big_quiet_step (fail)));(with_reducible refine wpQuiet_nil ?_);intro _ g;obtain⟨x,f⟩:=g;subst f)
      have c:=Q00 (a.out.trans (x.b.mono a.out.size));go_wp2;go_ret;exact⟨Q03 (decide_eq_false D.out).symm,c.out⟩
   ·have e:k=s:=by omega
    subst e
    have C:Hid (m=l2):=by
     have h:=J.out;rw[List.take_of_length_le (by rw[<-t.out];exact Kaq _),List.take_of_length_le (by rw[<-u.out];exact Kaq _)]at h;exact h
    go_wp2;go_ret;exact⟨Q03 (decide_eq_true C.out).symm,a.out⟩
 ·have C:Hid (m≠l2):=fun h=>hlen (by rw[n,r,h])
  have p:¬((s:Int)=(B:Int)):=by omega
  clear n r hlen;go_enter Tryz.func204,Tryz.ntmps204;go_wp2;go_ret;exact⟨Q03 (decide_eq_false C.out).symm,KBq⟩
theorem Q8T (d f:Option Addr) (g h m n:Nat) (aa bb:List (List Int)) (w:World) (a:m=aa.length) (b:n=bb.length) (j:RdLL w.heap.size w d aa) (k:RdLL w.heap.size w f bb) (t:aa.length<=1048576) (lb:bb.length<=1048576)
  (p:∀i,i < aa.length->(aa.getD i []).length<=1048576) (r:∀i,i < bb.length->(bb.getD i []).length<=1048576):
  Calls Tryz.prog 206 #[.slice d m g,.slice f n h] w fun e u=>e=.returned (.bool (Q0Y aa bb==0))/\Below w.heap.size w u:=by
 have c:=Q00 (Q8O d f g h aa bb w j k t lb p r);rw[<-a,<-b]at c;clear j k p r a b;generalize Q0Y aa bb=q at *;go_enter Tryz.func206,Tryz.ntmps206;go_wp2_with fail;refine c.out.mono ?_;rintro e v ⟨rfl,l⟩;have s:=Q00 l;clear l c;go_wp2;go_ret;exact⟨rfl,s.out⟩
theorem Qdj (T U:Option Addr) (c B O P:Nat) (R1 R2:List (List (List Int))) (w:World) (f:c=R1.length) (g:B=R2.length) (E:RiR 0 w.heap.size w (.slice T c O) R1) (h2:RiR 0 w.heap.size w (.slice U B P) R2) (l1:c<=1048576) (I:∀i,i < R1.length->(R1.getD i []).length<=1048576) (L:∀i,i < R1.length->∀j,j < (R1.getD i []).length->((R1.getD i []).getD j []).length<=1048576) (J:∀i,i < R2.length->(R2.getD i []).length<=1048576) (M:∀i,i < R2.length->∀j,j < (R2.getD i []).length->((R2.getD i []).getD j []).length<=1048576):
  Calls Tryz.prog 205 #[.slice T c O,.slice U B P,.func (Fn.func 206) #[] #[]] w fun e w'=>e=.returned (.bool (Q0V R1 R2))/\Below w.heap.size w w':=by
 have eS:∀args w,(callFunc 206 args).run Tryz.prog w=.ok (.enter 206 args) w:=enters_of Tryz.func206 (by kernel_rfl) rfl
 have m:=Q00 f;have u:=Q00 g;have H1:=Q00 E;have H2:=Q00 h2;have X1:=Q00 I;have Y1:=Q00 L;have X2:=Q00 J;have Y2:=Q00 M
 by_cases hlen:c=B
 ·subst hlen
  clear f g E h2 I L J M;go_enter Tryz.func205,Tryz.ntmps205;go_wp2
  go_loopw [6,17] (fun rv i wr=> ∃k:Nat,k<=c/\i=.int .i64 (k:Int)/\rv=.bool false/\Hid (∀q,q < k->Q0Y (R1.getD q []) (R2.getD q [])=0)/\Hid (Below w.heap.size w wr))
   (fun _ i _=>c - (intOf i).toNat)
  case atStart=>exact⟨0,Kcq _,rfl,rfl,fun q h=>absurd h (KMq _),KBq⟩
  case round=>
   rename World=>wr
   obtain⟨k,hk,rfl,rfl,N,a⟩:=hrel
   by_cases hlt:k < c
   ·have R:(k:Int) < (c:Int):=by omega
    have d:k < R1.length:=by rw[<-m.out];exact hlt
    have p:k < R2.length:=by rw[<-u.out];exact hlt
    obtain⟨g1,f1,u1,rfl,F,x,Y⟩:=RiRows.atS H1.out (Kaq _) k d;obtain⟨g2,f2,u2,rfl,G,y,Z⟩:=RiRows.atS H2.out (Kaq _) k p;obtain⟨o3,c3,rfl,V⟩:=RiT.rd Y;obtain⟨o4,c4,rfl,X⟩:=RiT.rd Z;replace x:=bC7 a.out x F;replace y:=bC7 a.out y G;obtain⟨m1,r⟩:∃n,(R1.getD k []).length=n:=⟨_,rfl⟩;obtain⟨m2,s⟩:∃n,(R2.getD k []).length=n:=⟨_,rfl⟩;rw[r]at x;rw[s]at y
    have b:=Q00 (Q8T o3 o4 c3 c4 m1 m2 (R1.getD k []) (R2.getD k []) wr r.symm s.symm ((V.kept a.out (Kaq _)).le a.out.size) ((X.kept a.out (Kaq _)).le a.out.size) (X1.out k d) (X2.out k p) (Y1.out k d) (Y2.out k p));have v:=Q00 (fun h=>Q5D (R1:=R1) (R2:=R2) d h);have D:=N;clear Y Z V X r s;obtain⟨q,A⟩:∃q,Q0Y (R1.getD k []) (R2.getD k [])=q:=⟨_,rfl⟩;rw[A]at b v;have HQ:=Q00 A;clear A
    by_cases h0:q=0
    ·subst h0
     go_wp2_with fail;refine b.out.mono ?_;rintro e v1 ⟨rfl,z⟩;have l:=Q00 (a.out.trans (z.mono a.out.size))
     have C:Hid (∀q,q < k+1->Q0Y (R1.getD q []) (R2.getD q [])=0):=fun q A=>by
      rcases Nat.lt_succ_iff_lt_or_eq.1 A with h|h
      ·exact D.out q h
      ·rw[h];exact HQ.out
     clear z b x y;go_wp2;go_roundw
     case rel=>exact⟨k+1,by omega,by go_num,rfl,C.out,l.out⟩
     case measure=>simp[intOf];omega
    ·have t:=Q00 (v.out h0)
     have H:(q==0)=false:=by simpa using h0
     rw[H]at b;go_wp2_with fail;refine b.out.mono ?_;rintro e v1 ⟨rfl,z⟩;have l:=Q00 (a.out.trans (z.mono a.out.size));clear z b x y;go_wp2;go_ret;exact⟨Q03 t.out.symm,l.out⟩
   ·have e:k=c:=by omega
    subst e;have t:Hid (Q0V R1 R2=true):=Q4t (by rw[<-m.out,<-u.out]) (fun i hi=>N.out i (by rw[m.out];exact hi));go_wp2;go_ret;exact⟨Q03 t.out.symm,a.out⟩
 ·have t:Hid (Q0V R1 R2=false):=Q4y (by rw[<-f,<-g];exact hlen)
  have aa:¬((c:Int)=(B:Int)):=by omega
  clear f g hlen E h2 I L J M;go_enter Tryz.func205,Tryz.ntmps205;go_wp2;go_ret;exact⟨Q03 t.out.symm,KBq⟩
end Go.Proofs.YteffhdcankkfkaaGreat
