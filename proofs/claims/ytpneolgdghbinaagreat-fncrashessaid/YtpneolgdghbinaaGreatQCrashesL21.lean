/- Several texts in one: SContest, STwo, PairMath, SPair, SPair2, STab, RowsP, SBSame, LRing, STab2. -/
import Derived.Test.YtpneolgdghbinaaGreatQCrashesL17
import Derived.Test.YtpneolgdghbinaaGreatQCrashesL20
namespace Go.Proofs.YtpneolgdghbinaaGreat
open Go.ChangeShapes Go.WideShapes Go.ChangeAt Go.RowKit Go.Joins
set_option linter.unusedVariables false
set_option linter.unusedSimpArgs false
set_option maxRecDepth 100000
set_option maxHeartbeats 40000000
def scL (k b:Int) (l:List Bk):List Sc:=(l.filter (fun x=> !x.2.2)).map (fun x=>(x.1,Q1Y k b x.1 x.2.1))
theorem Q5b (k b:Int) (l:List Bk) (x:Bk) (h:x.2.2=true):scL k b (l++[x])=scL k b l:=by simp[scL,h]
theorem Q4m (k b:Int) (l:List Bk) (x:Bk) (h:x.2.2=false):scL k b (l++[x])=scL k b l++[(x.1,Q1Y k b x.1 x.2.1)]:=by simp[scL,h]
def Holds (lb ls:List Sc):Prop:=lb.length=ls.length/\(∀z,(∃i,i < lb.length/\lb.getD i (0,0)=z)↔z∈ls)/\QiV lb lb.length
theorem Qcf {l:List Sc} {z:Sc}:(∃i,i < l.length/\l.getD i (0,0)=z)↔z∈l:=by
 constructor
 ·rintro⟨i,hi,rfl⟩
  rw[show l.getD i (0,0)=l[i]by simp[hi]];exact List.getElem_mem hi
 ·intro h
  obtain⟨i,hi,e⟩:=List.getElem_of_mem h;exact⟨i,hi,by simp[hi,e]⟩
theorem Holds.push {lb c d:List Sc} {x:Sc} (h:Holds lb d) (g:x∉d) (hs:Same (lb++[x]) c (lb.length+1)):Holds c (d++[x]):=by
 have f:(lb++[x]).length=lb.length+1:=by simp
 have a:c.length=lb.length+1:=hs.1.trans f;refine⟨by rw[a,h.1];simp,fun z=>?_, ?_⟩
 ·rw[a,hs.2.1 z,<-f,Qcf,List.mem_append,List.mem_append,<-h.2.1 z,Qcf]
 ·rw[a]
  refine hs.2.2 (fun i j hi k e=>?_)
  rcases Nat.lt_or_ge i lb.length with b|b <;> rcases Nat.lt_or_ge j lb.length with h2|h2
  ·rw[Q0Y b,Q0Y h2]at e;exact h.2.2 i j b h2 e
  ·rw[Q0Y b,show j=lb.length by omega,Q1U]at e
   exact absurd ((h.2.1 x).1 ⟨i,b,e⟩) g
  ·rw[show i=lb.length by omega,Q1U,Q0Y h2]at e
   exact absurd ((h.2.1 x).1 ⟨j,h2,e.symm⟩) g
  ·omega
theorem Qb7 {key b:Int} {l:List Bk} {z:Sc} (h:z∈scL key b l):∃i,i < l.length/\(l.getD i (0,0,false)).1=z.1:=by
 unfold scL at h;obtain⟨x,c,e⟩:=List.mem_map.1 h;obtain⟨i,hi,a⟩:=List.getElem_of_mem (List.mem_filter.1 c).1;exact⟨i,hi,by rw[<-e];simp[hi,a]⟩
theorem Q5j {l:List Bk} (h:Q0b l=true):∀j,j < l.length->∀i,i < j->(l.getD i (0,0,false)).1 < (l.getD j (0,0,false)).1:=fun j=>by
 induction j with
 |zero=>intro _ i hi;omega
 |succ j ih=>
  intro c i hi
  have b:(l.getD j (0,0,false)).1 < (l.getD (j+1) (0,0,false)).1:=by
   have:=Q1k.1 h (j+1) c;unfold Qce at this;simp only[Bool.and_eq_true,Bool.or_eq_true,decide_eq_true_eq,Nat.add_sub_cancel]at this
   rcases this.2 with a|a
   ·omega
   ·exact a
  rcases Nat.lt_or_ge i j with h2|h2
  ·exact Int.lt_trans (ih (by omega) i h2) b
  ·rw[show i=j by omega];exact b
theorem Qi7 {key b:Int} {l:List Bk} {j:Nat} {x y:Int} {z:Bool} {s:Int} (h:Q0b l=true) (d:j < l.length) (c:l.getD j (0,0,false)=(x,y,z)):(x,s)∉scL key b (l.take j):=fun hm=>by
 obtain⟨i,hi,e⟩:=Qb7 hm
 have a:i < j:=by simp at hi;omega
 have:=Q5j h j d i a;rw[c]at this;rw[show(l.take j).getD i (0,0,false)=l.getD i (0,0,false)by simp[KFq,List.getElem?_take,a]]at e;dsimp only at e this;omega
theorem BrdV.kept {k:Nat} {v:Value} {w w':World} {l:List Sc} (h:BrdV k v w l) (hb:Below w.heap.size w w'):BrdV k v w' l:=⟨(hb.block k h.lt).trans h.box,Q03 h.row hb⟩
theorem Qai {l:List Bk} {j:Nat} {x y:Int} {z:Bool} (c:Q0b l=true) (b:j < l.length) (a:l.getD j (0,0,false)=(x,y,z)):Q3K x y=true:=by
 have:=Q1k.1 c j b;unfold Qce at this;rw[a]at this;exact(Bool.and_eq_true_iff.1 this).1
theorem Q9A (key b:Int) (o:Option Addr) (cap:Nat) (l:List Bk) (w:World) (L:RdK w.heap.size w o l) (aa:l.length<=1000) (hk:Q1D key=true) (N:0<=b/\b < 8) (Z:Q0b l=true):
  Calls Tryz.prog 190 #[.int .i64 key,.int .i64 b,.slice o l.length cap] w fun e w'=> ∃k v lb,e=.returned (.iface 262 (.pointer (some ⟨k,0,none⟩)))/\BrdV k v w' lb/\HeapP lb lb.length/\okD lb/\Holds lb (scL key b l)/\w.heap.size<=k/\Below w.heap.size w w':=by
 go_enter Tryz.func190,Tryz.ntmps190;go_wp2
 go_loopw [13] (fun iv wr=> ∃(j:Nat) (v:Value) (lb:List Sc),iv=.int .i64 j/\j<=l.length/\BrdV w.heap.size v wr lb/\HeapP lb lb.length/\okD lb/\Holds lb (scL key b (l.take j))/\lb.length<=j/\Below w.heap.size w wr)
  (fun iv _=>l.length - (intOf iv).toNat)
 case atStart=>
  refine⟨0,.slice none 0 0,[],rfl,Kcq _,⟨World.alloc_heap_new w _,KLq _ _ _ _⟩,fun i h1 h2=>by simp at h2,fun i hi=>by simp at hi,⟨rfl,fun z=>by simp[scL],fun i j hi=>by simp at hi⟩,Kcq _,KBq.alloc (Kaq _) _⟩
 case round=>
  obtain⟨j,v,lb,rfl,hj,B,T,V,f,ab,a⟩:=hrel
  by_cases hlt:j < l.length
  ·rcases L with L|⟨bb,off,rfl,r,g⟩
   ·subst L;simp at hlt
   obtain⟨x,y,z,q⟩:∃x y z,l.getD j (0,0,false)=(x,y,z):=⟨_,_,_,rfl⟩;have h:=RdL.back (C:=w.heap.size) g j hlt;rw[q]at h;have O:=bKq0v0v0 a h.1 r;have P:=bKq0v0v0 a h.2.1 r;have R:=bKq0v0v0 a h.2.2 r;have n:=Q11 Q16 l j hlt;rw[show l.getD j Q16.d=l.getD j (0,0,false)from rfl,q]at n;have E:=Qai Z hlt q;obtain⟨i0,i1,g0,g1⟩:=Q5L.1 E;have m:=Qi7 (key:=key) (b:=b) (s:=Q1Y key b x y) Z hlt q;clear g h q
   cases z with
   |true=>
    have I:=Q02 (show Holds lb (scL key b (l.take (j+1)))by rw[n,Q5b _ _ _ _ rfl];exact f);have HB:=Q02 B;have u:=Q02 a;clear n f B a m;go_wp2;go_roundw
    case rel=>exact⟨j+1,v,lb,by go_num,by omega,HB.out.kept (KBq.alloc (Kaq _) _),T,V,I.out,by omega,u.out.alloc u.out.size _⟩
    case measure=>simp[intOf];omega
   |false=>
    have G:Q1X key b x y=Q1Y key b x y:=by rw[Q1X,if_pos ⟨hk,N,E⟩]
    have Y:=fun W=>G ▸ Q9n key b x y false W
    obtain⟨p0,p1,p2⟩:=Qj1 wr (.int .i64 x) (.int .i64 y) (.bool false) 119
    have hs:wr.heap.size < (wr.alloc (Obj.cells #[Value.int IntKind.i64 x,Value.int IntKind.i64 y,Value.bool false] 119)).heap.size:=by simp
    have D:BrdV w.heap.size v (wr.alloc (Obj.cells #[Value.int IntKind.i64 x,Value.int IntKind.i64 y,Value.bool false] 119)) lb:=B.kept (KBq.alloc (Kaq _) _);have A:Below w.heap.size w (wr.alloc (Obj.cells #[Value.int IntKind.i64 x,Value.int IntKind.i64 y,Value.bool false] 119)):=a.alloc a.size _;have I:=Q02 (fun l2 (h2:Same (lb++[(x,Q1Y key b x y)]) l2 (lb.length+1))=>(show Holds l2 (scL key b (l.take (j+1)))by rw[n,Q4m _ _ _ _ rfl];exact f.push m h2))
    have HL:=Q02 (fun l2 (h2:Same (lb++[(x,Q1Y key b x y)]) l2 (lb.length+1))=>(show l2.length<=j+1 by rw[h2.1];simp;omega));clear n f m;go_wp2_with fail;clear O P R;generalize (wr.alloc (Obj.cells #[Value.int IntKind.i64 x,Value.int IntKind.i64 y,Value.bool false] 119))=w0 at *;have H:=Q02 D;have t:=Q02 A;generalize hscg:Q1Y key b x y=sc at *;clear D A B a hscg G
    go_region_with (first|(go_at_call 192;refine(Y _).mono ?_;rintro e w1 ⟨rfl,c⟩;replace c:Below w0.heap.size w0 w1:=(KHq KBq).trans c;have q0:=(c.cell (p:=⟨wr.heap.size,0,none⟩) hs).trans p0;have q1:=(c.cell (p:=⟨wr.heap.size,1,none⟩) hs).trans p1;have q2:=(c.cell (p:=⟨wr.heap.size,2,none⟩) hs).trans p2)|(go_at_call 152;refine(pushH_any w.heap.size v lb x sc w1 (H.out.kept c) V ⟨i0,by omega⟩ T (by omega)).mono ?_;rintro e w2 ⟨rfl,g2,c2,l2,M,U,F,X,J⟩))
    all_goals (
     go_wp2;go_roundw
     case rel=>exact⟨j+1,_,l2,by go_num,by omega,M.v,U,X,I.out l2 F,HL.out l2 F,(t.out.trans (c.mono t.out.size)).trans J⟩
     case measure=>simp[intOf];omega)
  ·have e:j=l.length:=by omega
   subst e;rw[List.take_of_length_le (Kaq _)]at f;go_wp2;go_ret;exact⟨_,v,lb,rfl,B,T,V,f,Kaq _,a⟩
theorem Q8O (o:Option Addr) (c C:Nat) (l:List Sc) (w:World) (d:RdL Q7i C w o l) (f:0 < l.length):
  Calls Tryz.prog 219 #[.slice o l.length c] w fun e i=>e=.returned (.int .i64 (l.getD 0 (0,0)).1)/\w=i:=by
 rcases d with d|⟨b,off,rfl,h,a⟩
 ·subst d;simp at f
 have g:=RdL.sc a 0 f;clear a;generalize l.getD 0 (0,0)=x at *;obtain⟨m,n⟩:=x;simp only[Nat.zero_mul,Nat.add_zero]at g;obtain⟨j,k⟩:=g
 have z:(0:Int) < (l.length:Int):=by omega
 go_enter Tryz.func219,Tryz.ntmps219;go_wp2;go_ret;exact⟨rfl,rfl⟩
def Qg1 (lb:List Sc) (p:List Int):Prop:=
 (lb=[]/\p=[])\/(lb.length=1/\p=[(lb.getD 0 (0,0)).1,(lb.getD 0 (0,0)).1])\/
 ∃l2,QiQ lb l2/\HeapP l2 l2.length/\0 < l2.length/\p=[(lb.getD 0 (0,0)).1,(l2.getD 0 (0,0)).1]
theorem Q6X (w:World) (base:Nat) (x y:Int) (a:base<=w.heap.size):Q9U (w.alloc (.cells #[.int .i64 x,.int .i64 y] 3)) base (.slice (some ⟨w.heap.size,0,none⟩) 2 2) [x,y]:=by
 have:=World.ownsRow_lit (base:=base) (e:=3) (size:=1) w #[.int .i64 x,.int .i64 y] 2 a (by unfold maxLen;omega) rfl;exact this
theorem QbR (k:Nat) (v:Value) (lb:List Sc) (w:World) (q:BrdV k v w lb) (P:HeapP lb lb.length) (X:okD lb) (I:lb.length<=1000):
  Calls Tryz.prog 189 #[.iface 262 (.pointer (some ⟨k,0,none⟩))] w fun e N=> ∃M p,e=.returned M/\Qg1 lb p/\Q9U N k M p/\Below k w N:=by
 have eN:∀args w,(callFunc 214 args).run Tryz.prog w=.ok (.enter 214 args) w:=enters_of Tryz.func214 (by kernel_rfl) rfl
 have Z:∀args w,(callFunc 219 args).run Tryz.prog w=.ok (.enter 219 args) w:=enters_of Tryz.func219 (by kernel_rfl) rfl
 obtain⟨o,c,rfl⟩:=q.slice;have D:=q.cell;have L:=Q0q Q51 D;have H:=q.lt
 by_cases h0:lb.length=0
 ·have e:lb=[]:=List.eq_nil_of_length_eq_zero h0
  subst e;simp only[List.length_nil]at L;go_enter Tryz.func189,Tryz.ntmps189;go_wp2_with (first|(go_at_call 214;refine(Q3p _ _ _ _).mono ?_;rintro e u ⟨rfl,rfl⟩));go_ret;exact⟨_,[],rfl,.inl ⟨rfl,rfl⟩,KLq _ _ _ _,KBq⟩
 ·have m:0 < lb.length:=by omega
  have U:((lb.length:Int)==0)=false:=by rw[beq_eq_false_iff_ne];omega
  have O:=Q02 h0;obtain⟨g,Y,G⟩:=ownsRow_form q.row m;simp only[Value.slice.injEq]at G;obtain⟨rfl,_,rfl⟩:=G;have C:Brd k g c w lb:=⟨q.box,q.row⟩;have t:=C.row.rd;obtain⟨n,J⟩:∃n,n+1=lb.length:=⟨lb.length - 1,by omega⟩;have l:=popH_any k g c lb n w C J X P (by omega);have a:=Q8O (some ⟨g,0,none⟩) c w.heap.size lb w t m;generalize hfst:(lb.getD 0 (0,0)).1=fst at a;have x:=Q02 hfst;clear h0 J hfst;go_enter Tryz.func189,Tryz.ntmps189;go_wp2_with (first|(go_at_call 214;refine(Q3p _ _ _ _).mono ?_;rintro e u ⟨rfl,rfl⟩));rw[Q0q (f:=219) ?hm D]
  case hm=>kernel_rfl
  go_wp2_with (first|(go_at_call 219;refine a.mono ?_;rintro e u ⟨rfl,rfl⟩));refine l.mono ?_;rintro e y ⟨⟨v3,rfl⟩,l2,i,r,d,s,h⟩;have R:=i.v.lt
  have T:l2.length<=1000:=by have:=d.1;omega
  have F:=Q0q Q51 i.cell;clear L l a t q C D
  by_cases h2:l2.length=0
  ·have e:l2=[]:=List.eq_nil_of_length_eq_zero h2
   subst e;simp only[List.length_nil]at F;have B:Hid (Qg1 lb [fst,fst]):=.inr (.inl ⟨by have:=d.1;simpa using this.symm,by rw[x.out]⟩);have A:=Q02 (Q6X y k fst fst (by omega));have z:=Q02 h;clear d r s h x;go_wp2_with (first|(go_at_call 214;refine(Q3p _ _ _ _).mono ?_;rintro e u ⟨rfl,rfl⟩));go_ret;exact⟨_,[fst,fst],rfl,B.out,A.out,z.out.alloc (by omega) _⟩
  ·have b:0 < l2.length:=by omega
   have V:((l2.length:Int)==0)=false:=by rw[beq_eq_false_iff_ne];omega
   have E:=i.cell;have j:=Q8O (some ⟨g,0,none⟩) c y.heap.size l2 y i.row.rd b;have B:Hid (Qg1 lb [fst,(l2.getD 0 (0,0)).1]):=.inr (.inr ⟨l2,d,r,b,by rw[x.out]⟩);generalize (l2.getD 0 (0,0)).1=snd at *;have A:=Q02 (Q6X y k fst snd (by omega));have z:=Q02 h;clear d r s h x h2;go_wp2_with (first|(go_at_call 214;refine(Q3p _ _ _ _).mono ?_;rintro e u ⟨rfl,rfl⟩));rw[Q0q (f:=219) ?hm2 E]
   case hm2=>kernel_rfl
   go_wp2_with (first|(go_at_call 219;refine j.mono ?_;rintro e u ⟨rfl,rfl⟩));go_ret;exact⟨_,[fst,snd],rfl,B.out,A.out,z.out.alloc (by omega) _⟩
def Q15 (p:Option Sc × Option Sc) (x:Sc):Option Sc × Option Sc:=
 match p with
 |(none,t)=>(some x,none)
 |(some o,t)=>if o.2 < x.2 then(some x,some o)else
  match t with
  |none=>(some o,some x)
  |some u=>if u.2 < x.2 then(some o,some x)else(some o,some u)
def Q5Q (l:List Sc):Option Sc × Option Sc:=l.foldl Q15 (none,none)
theorem Q9W (l:List Sc) (x:Sc):Q5Q (l++[x])=Q15 (Q5Q l) x:=by simp[Q5Q]
def Q8e (p:Option Sc × Option Sc):List Int:=
 match p with
 |(none,_)=> []
 |(some o,none)=> [o.1,o.1]
 |(some o,some t)=> [o.1,t.1]
def QiC (l:List Sc) (p:Option Sc × Option Sc):Prop:=
 match p with
 |(none,t)=>l=[]/\t=none
 |(some o,none)=>l=[o]
 |(some o,some t)=>o∈l/\t∈l/\t≠o/\(∀z∈l,Q45 o<=Q45 z)/\(∀z∈l,z≠o->Q45 t<=Q45 z)
theorem QbC {o x:Sc} (ho:okS o) (hx:okS x) (h:o.2 < x.2):Q45 x < Q45 o:=by unfold Q45 okS at *;omega
theorem Qbr {o x:Sc} (ho:okS o) (hx:okS x) (hid:o.1 < x.1) (h:¬o.2 < x.2):Q45 o < Q45 x:=by unfold Q45 okS at *;omega
theorem Qcl {a b:Sc} (j:okS a) (k:okS b) (h:Q45 a=Q45 b):a=b:=by
 obtain⟨c,d⟩:=a;obtain⟨f,g⟩:=b;unfold Q45 okS at *;dsimp only at *
 have i:d=g:=by omega
 have h2:c=f:=by omega
 rw[i,h2]
theorem QfH {l:List Sc} {p:Option Sc × Option Sc} {x:Sc} (h:QiC l p) (j:∀z∈l,okS z) (m:okS x) (f:∀z∈l,z.1 < x.1):QiC (l++[x]) (Q15 p x):=by
 have g:∀z∈l,z≠x:=fun z a e=>by have:=f z a;rw[e]at this;omega
 obtain⟨A,w⟩:=p
 cases A with
 |none=>
  obtain⟨q,h2⟩:l=[]/\w=none:=h;subst q h2
  rfl
 |some o=>
  cases w with
  |none=>
   have q:l=[o]:=h;subst q;have n:=j o (by simp);have oi:=f o (by simp);unfold Q15
   by_cases hlt:o.2 < x.2
   ·simp only[if_pos hlt]
    have:=QbC n m hlt;refine⟨by simp,by simp,fun e=>g o (by simp) e,fun z a=>?_,fun z a k=>?_⟩
    ·simp at a;rcases a with e|e <;> subst e <;> omega
    ·simp at a;rcases a with e|e
     ·subst e;omega
     ·exact absurd e k
   ·simp only[if_neg hlt]
    have:=Qbr n m oi hlt;refine⟨by simp,by simp,fun e=>g o (by simp) e.symm,fun z a=>?_,fun z a d=>?_⟩
    ·simp at a;rcases a with e|e <;> subst e <;> omega
    ·simp at a;rcases a with e|e
     ·exact absurd e d
     ·subst e;omega
  |some t=>
   obtain⟨i,s,u,b,c⟩:o∈l/\t∈l/\t≠o/\(∀z∈l,Q45 o<=Q45 z)/\(∀z∈l,z≠o->Q45 t<=Q45 z):=h;have n:=j o i;have v:=j t s;have oi:=f o i;have B:=f t s;unfold Q15
   by_cases hlt:o.2 < x.2
   ·simp only[if_pos hlt]
    have y:=QbC n m hlt;refine⟨by simp,List.mem_append.2 (.inl i),g o i,fun z a=>?_,fun z a k=>?_⟩
    ·rcases List.mem_append.1 a with a|a
     ·have:=b z a;omega
     ·simp at a;subst a;omega
    ·rcases List.mem_append.1 a with a|a
     ·exact b z a
     ·simp at a;exact absurd a k
   ·simp only[if_neg hlt]
    have y:=Qbr n m oi hlt
    by_cases hlt2:t.2 < x.2
    ·simp only[if_pos hlt2]
     have r:=QbC v m hlt2;refine⟨List.mem_append.2 (.inl i),by simp,fun e=>g o i e.symm,fun z a=>?_,fun z a d=>?_⟩
     ·rcases List.mem_append.1 a with a|a
      ·exact b z a
      ·simp at a;subst a;omega
     ·rcases List.mem_append.1 a with a|a
      ·have:=c z a d;omega
      ·simp at a;subst a;omega
    ·simp only[if_neg hlt2]
     have r:=Qbr v m B hlt2;refine⟨List.mem_append.2 (.inl i),List.mem_append.2 (.inl s),u,fun z a=>?_,fun z a d=>?_⟩
     ·rcases List.mem_append.1 a with a|a
      ·exact b z a
      ·simp at a;subst a;omega
     ·rcases List.mem_append.1 a with a|a
      ·exact c z a d
      ·simp at a;subst a;omega
theorem QgV {lb a:List Sc} {p:Option Sc × Option Sc} {q:List Int} (c:QiC a p) (b:∀z∈a,okS z) (v:Holds lb a) (V:HeapP lb lb.length) (T:Qg1 lb q):q=Q8e p:=by
 have hm:=v.2.1;obtain⟨F,G⟩:=p
 rcases T with⟨m,h2⟩|⟨m,h2⟩|⟨l2,C,x,r,h2⟩
 ·subst m h2
  have:a=[]:=List.eq_nil_of_length_eq_zero v.1.symm;subst this
  cases F with
  |none=>rfl
  |some o=>
   cases G with
   |none=>cases(c:[]=[o])
   |some t=>exact absurd c.1 (by simp)
 ·obtain⟨o,w⟩:∃o,a=[o]:=List.length_eq_one_iff.1 (v.1.symm.trans m)
  subst w
  have u:lb.getD 0 (0,0)=o:=by
   have:=(hm (lb.getD 0 (0,0))).1 ⟨0,by omega,rfl⟩
   simpa using this
  rw[h2,u]
  cases F with
  |none=>cases(c.1:[o]=[])
  |some o'=>
   cases G with
   |none=>have:[o]=[o']:=c;simp at this;subst this;rfl
   |some t=>
    obtain⟨I,J,L,_⟩:o'∈[o]/\t∈[o]/\t≠o'/\_:=c;simp at I J;rw[I,J]at L;exact absurd rfl L
 ·have X:=C.1
  have U:=v.2.2;have j:lb.getD 0 (0,0)∈a:=(hm _).1 ⟨0,by omega,rfl⟩
  have H:∀z∈a,Q45 (lb.getD 0 (0,0))<=Q45 z:=fun z E=>by
   obtain⟨i,hi,e⟩:=(hm z).2 E;have:=heap_top V i hi;unfold fr at this;rw[e]at this;exact this
  obtain⟨O,M,d,l⟩:=(C.2 (l2.getD 0 (0,0))).1 ⟨0,r,rfl⟩;have s:l2.getD 0 (0,0)∈a:=(hm _).1 ⟨O,d,l⟩
  have k:l2.getD 0 (0,0)≠lb.getD 0 (0,0):=fun e=>by
   have:=U O 0 d (by omega) (l.trans e);omega
  have f:∀z∈a,z≠lb.getD 0 (0,0)->Q45 (l2.getD 0 (0,0))<=Q45 z:=fun z E B=>by
   obtain⟨i,hi,e⟩:=(hm z).2 E
   have A:1<=i:=by
    rcases Nat.eq_zero_or_pos i with h|h
    ·subst h;exact absurd e.symm B
    ·exact h
   obtain⟨Y,y,P⟩:=(C.2 z).2 ⟨i,A,hi,e⟩;have:=heap_top x Y y;unfold fr at this;rw[P]at this;exact this
  cases F with
  |none=>have:a=[]:=c.1;rw[this]at j;cases j
  |some o=>
   cases G with
   |none=>
    have m:a=[o]:=c;rw[m]at j s;simp at j s;exact absurd (s.trans j.symm) k
   |some t=>
    obtain⟨w,N,D,n,g⟩:o∈a/\t∈a/\t≠o/\(∀z∈a,Q45 o<=Q45 z)/\(∀z∈a,z≠o->Q45 t<=Q45 z):=c;have u:lb.getD 0 (0,0)=o:=Qcl (b _ j) (b o w) (Int.le_antisymm (H o w) (n _ j));rw[u]at k f;have R:l2.getD 0 (0,0)=t:=Qcl (b _ s) (b t N) (Int.le_antisymm (f t N D) (g _ s k));rw[h2,u,R]
    rfl
def Qch (key b:Int) (x:Bk):Sc:=(x.1,Q1Y key b x.1 x.2.1)
def QfD (key b:Int) (l:List Bk) (v:Int) (q:Option Sc):Prop:=(v= -1/\q=none)\/∃k:Nat,v=(k:Int)/\k < l.length/\q=some (Qch key b (l.getD k (0,0,false)))
theorem Qf4 {key b:Int} {l:List Bk} {j:Nat} {x y:Int} (c:j < l.length) (f:l.getD j (0,0,false)=(x,y,false)):Q5Q (scL key b (l.take (j+1)))=Q15 (Q5Q (scL key b (l.take j))) (Qch key b (x,y,false)):=by
 have a:=Q11 Q16 l j c;rw[show l.getD j Q16.d=l.getD j (0,0,false)from rfl,f]at a;rw[a,Q4m _ _ _ _ rfl,Q9W];rfl
theorem Qez {key b:Int} {l:List Bk} {j:Nat} {x y:Int} (c:j < l.length) (f:l.getD j (0,0,false)=(x,y,true)):Q5Q (scL key b (l.take (j+1)))=Q5Q (scL key b (l.take j)):=by
 have a:=Q11 Q16 l j c;rw[show l.getD j Q16.d=l.getD j (0,0,false)from rfl,f]at a;rw[a,Q5b _ _ _ _ rfl]
theorem Q4j {l:List Bk} (h:Q0b l=true) {k:Nat} (hk:k < l.length) {x y:Int} {z:Bool} (hxy:l.getD k (0,0,false)=(x,y,z)):0<=x/\x < 6/\1<=y/\y<=100:=Q5L.1 (Qai h hk hxy)
theorem QdC (key b:Int) (o:Option Addr) (cap:Nat) (l:List Bk) (w:World) (hR:RdK w.heap.size w o l) (am:l.length<=1000) (hk:Q1D key=true) (ah:0<=b/\b < 8) (hl:Q0b l=true):
  Calls Tryz.prog 150 #[.int .i64 key,.int .i64 b,.slice o l.length cap] w fun e w'=> ∃v,e=.returned v/\Q9U w' w.heap.size v (Q8e (Q5Q (scL key b l)))/\Below w.heap.size w w':=by
 obtain⟨ak,al⟩:=Q4F.1 hk
 have ai:=fun k (hk:k < l.length) x y z (m:l.getD k (0,0,false)=(x,y,z)) W=>have h:=Q4j hl hk m;Qb4 key b x y z W ak al ah.1 ah.2 h.1 h.2.1 (by omega) h.2.2.2
 have X:=Q02 ai;clear ai;go_enter Tryz.func150,Tryz.ntmps150;go_wp2
 go_loopw [7,8,9] (fun one two iv wr=> ∃(j:Nat) (v1 v2:Int),iv=.int .i64 j/\one=.int .i64 v1/\two=.int .i64 v2/\j<=l.length/\QfD key b l v1 (Q5Q (scL key b (l.take j))).1/\QfD key b l v2 (Q5Q (scL key b (l.take j))).2/\Below w.heap.size w wr)
  (fun _ _ iv _=>l.length - (intOf iv).toNat)
 case atStart=>exact⟨0, -1, -1,rfl,rfl,rfl,Kcq _,.inl ⟨rfl,by simp[scL,Q5Q]⟩,.inl ⟨rfl,by simp[scL,Q5Q]⟩,KBq⟩
 case round=>
  obtain⟨j,v1,v2,rfl,rfl,rfl,hj,E,i,f⟩:=hrel
  by_cases hlt:j < l.length
  ·rcases hR with hR|⟨bb,off,rfl,D,a⟩
   ·subst hR;simp at hlt
   have HC:=Q02 (fun k (hk:k < l.length) W (Y:Below w.heap.size w W)=>have h:=RdL.back (C:=w.heap.size) a k hk;(show W.cell? ⟨bb,off+k * 3,none⟩=some (.int .i64 (l.getD k (0,0,false)).1)/\W.cell? ⟨bb,off+k * 3+1,none⟩=some (.int .i64 (l.getD k (0,0,false)).2.1)/\W.cell? ⟨bb,off+k * 3+2,none⟩=some (.bool (l.getD k (0,0,false)).2.2)from⟨(Y.cell (p:=⟨bb,off+k * 3,none⟩) D).trans h.1,(Y.cell (p:=⟨bb,off+k * 3+1,none⟩) D).trans h.2.1,(Y.cell (p:=⟨bb,off+k * 3+2,none⟩) D).trans h.2.2⟩));clear a;have Z:=HC.out j hlt wr f
   obtain⟨x,y,z,m⟩:∃x y z,l.getD j (0,0,false)=(x,y,z):=⟨_,_,_,rfl⟩;rw[m]at Z;dsimp only at Z;obtain⟨c0,c1,c2⟩:=Z
   have z1:(j:Int) < (l.length:Int):=by omega
   cases z with
   |true=>
    have t:=Q02 (Qez (key:=key) (b:=b) hlt m);have G:=Q02 f;have H1:=Q02 E;have H2:=Q02 i;clear m f E i;go_wp2;go_roundw
    case rel=>exact⟨j+1,v1,v2,by go_num,rfl,rfl,by omega,by rw[t.out];exact H1.out,by rw[t.out];exact H2.out,G.out⟩
    case measure=>simp[intOf];omega
   |false=>
    have t:=Q02 (Qf4 (key:=key) (b:=b) hlt m);have M:=X.out j hlt x y false m;have HJ:Hid (QfD key b l (j:Int) (some (Qch key b (x,y,false)))):=.inr ⟨j,rfl,hlt,by rw[m]⟩;generalize hg:Qch key b (x,y,false)=sx at *;obtain⟨u,sc⟩:=sx
    have U:Q1Y key b x y=sc:=by simp[Qch]at hg;exact hg.2
    rw[U]at M;have G:=Q02 f;clear m f hg U;generalize Q5Q (scL key b (l.take j))=pp at *;obtain⟨p1,p2⟩:=pp;dsimp only at E i
    rcases E with⟨rfl,rfl⟩|⟨c,rfl,g,rfl⟩
    ·go_wp2_with fail
     refine(M wr).mono ?_;rintro e w1 ⟨rfl,L⟩;have H:=Q02 (G.out.trans (L.mono G.out.size));clear c0 c1 c2 M L i;go_wp2;go_roundw
     case rel=>exact⟨j+1,j, -1,by go_num,rfl,rfl,by omega,by rw[t.out];exact HJ.out,by rw[t.out];exact .inl ⟨rfl,rfl⟩,H.out⟩
     case measure=>simp[intOf];omega
    ·obtain⟨x1,y1,t1,A⟩:∃x y z,l.getD c (0,0,false)=(x,y,z):=⟨_,_,_,rfl⟩
     have aa:=X.out c g x1 y1 t1 A;have s:Hid (QfD key b l (c:Int) (some (Qch key b (x1,y1,t1)))):=.inr ⟨c,rfl,g,by rw[A]⟩;have O:=HC.out c g;rw[A]at t O;dsimp only at O;generalize hg1:Qch key b (x1,y1,t1)=s1 at *;obtain⟨q,d⟩:=s1
     have R:Q1Y key b x1 y1=d:=by simp[Qch]at hg1;exact hg1.2
     rw[R]at aa
     have z2:(c:Int) < (l.length:Int):=by omega
     have z3:¬((c:Int) < 0):=by omega
     have ae:=Q02 O;clear A hg1 R O;go_wp2_with fail;refine(M wr).mono ?_;rintro e w1 ⟨rfl,L⟩;have H:=Q02 (G.out.trans (L.mono G.out.size));obtain⟨d0,d1,d2⟩:=ae.out w1 H.out;clear c0 c1 c2 M L;go_wp2_with fail;refine(aa w1).mono ?_;rintro e w2 ⟨rfl,af⟩;have I:=Q02 (H.out.trans (af.mono H.out.size));clear d0 d1 d2 aa af
     by_cases hgt:d < sc
     ·have J:Hid (Q15 (some (q,d),p2) (u,sc)=(some (u,sc),some (q,d))):=by simp[Q15,hgt,Hid]
      clear i;go_wp2;go_roundw
      case rel=>exact⟨j+1,j,c,by go_num,rfl,rfl,by omega,by rw[t.out,J.out];exact HJ.out,by rw[t.out,J.out];exact s.out,I.out⟩
      case measure=>simp[intOf];omega
     ·rcases i with⟨rfl,rfl⟩|⟨r,rfl,n,rfl⟩
      ·have J:Hid (Q15 (some (q,d),none) (u,sc)=(some (q,d),some (u,sc))):=by simp[Q15,hgt,Hid]
       go_wp2;go_roundw
       case rel=>exact⟨j+1,c,j,by go_num,rfl,rfl,by omega,by rw[t.out,J.out];exact s.out,by rw[t.out,J.out];exact HJ.out,I.out⟩
       case measure=>simp[intOf];omega
      ·obtain⟨x2,y2,t2,B⟩:∃x y z,l.getD r (0,0,false)=(x,y,z):=⟨_,_,_,rfl⟩
       have ab:=X.out r n x2 y2 t2 B;have aj:Hid (QfD key b l (r:Int) (some (Qch key b (x2,y2,t2)))):=.inr ⟨r,rfl,n,by rw[B]⟩;have P:=HC.out r n;rw[B]at t P;dsimp only at P;generalize hg2:Qch key b (x2,y2,t2)=s2 at *;obtain⟨ac,F⟩:=s2
       have T:Q1Y key b x2 y2=F:=by simp[Qch]at hg2;exact hg2.2
       rw[T]at ab
       have z4:(r:Int) < (l.length:Int):=by omega
       have z5:¬((r:Int) < 0):=by omega
       obtain⟨f0,f1,f2⟩:=P w2 I.out;clear B hg2 T P;go_wp2_with fail;refine(ab w2).mono ?_;rintro e w3 ⟨rfl,ag⟩;have ad:=Q02 (I.out.trans (ag.mono I.out.size));clear f0 f1 f2 ab ag
       by_cases hgt2:F < sc
       ·have J:Hid (Q15 (some (q,d),some (ac,F)) (u,sc)=(some (q,d),some (u,sc))):=by unfold Hid;simp only[Q15,if_neg (show ¬d < sc by omega),if_pos hgt2]
        go_wp2;go_roundw
        case rel=>exact⟨j+1,c,j,by go_num,rfl,rfl,by omega,by rw[t.out,J.out];exact s.out,by rw[t.out,J.out];exact HJ.out,ad.out⟩
        case measure=>simp[intOf];omega
       ·have J:Hid (Q15 (some (q,d),some (ac,F)) (u,sc)=(some (q,d),some (ac,F))):=by unfold Hid;simp only[Q15,if_neg (show ¬d < sc by omega),if_neg (show ¬F < sc by omega)]
        go_wp2;go_roundw
        case rel=>exact⟨j+1,c,r,by go_num,rfl,rfl,by omega,by rw[t.out,J.out];exact s.out,by rw[t.out,J.out];exact aj.out,ad.out⟩
        case measure=>simp[intOf];omega
  ·have e:j=l.length:=by omega
   subst e;rw[List.take_of_length_le (Kaq _)]at E i;have HQ:=Q02 (show Q5Q (scL key b l)=((Q5Q (scL key b l)).1,(Q5Q (scL key b l)).2)from rfl);generalize (Q5Q (scL key b l)).1=p1 at *;generalize (Q5Q (scL key b l)).2=p2 at *;have G:=Q02 f
   have z0:¬(l.length:Int) < (l.length:Int):=by omega
   rcases E with⟨rfl,rfl⟩|⟨c,rfl,g,rfl⟩
   ·clear f i
    go_wp2;go_ret;exact⟨_,rfl,by rw[HQ.out];exact KLq _ _ _ _,G.out⟩
   ·rcases hR with hR|⟨bb,off,rfl,D,a⟩
    ·subst hR;simp at g
    have h1:=RdL.back (C:=w.heap.size) a c g;have c1:=(f.cell (p:=⟨bb,off+c * 3,none⟩) D).trans h1.1
    have z2:(c:Int) < (l.length:Int):=by omega
    have z3:¬((c:Int) < 0):=by omega
    have s:Hid ((Qch key b (l.getD c (0,0,false))).1=(l.getD c (0,0,false)).1):=rfl;generalize Qch key b (l.getD c (0,0,false))=s1 at *
    rcases i with⟨rfl,rfl⟩|⟨r,rfl,n,rfl⟩
    ·have HO:=Q02 (fun W (Y:w.heap.size<=W.heap.size)=>Q6X W w.heap.size (l.getD c (0,0,false)).1 (l.getD c (0,0,false)).1 Y)
     have V:Hid (Q8e (Q5Q (scL key b l))=[(l.getD c (0,0,false)).1,(l.getD c (0,0,false)).1]):=by unfold Hid;rw[HQ.out];show[s1.1,s1.1]=_;rw[s.out]
     generalize (l.getD c (0,0,false)).1=x1 at *;have N:=G.out.size;clear f a h1;go_wp2
     go_region
     all_goals go_wp2
     all_goals go_ret
     all_goals exact⟨_,rfl,by rw[V.out];exact(HO.out wr N).drew,(G.out.alloc N _).drew⟩
    ·have h2:=RdL.back (C:=w.heap.size) a r n
     have c2:=(f.cell (p:=⟨bb,off+r * 3,none⟩) D).trans h2.1
     have z4:(r:Int) < (l.length:Int):=by omega
     have z5:¬((r:Int) < 0):=by omega
     have HO:=Q02 (fun W (Y:w.heap.size<=W.heap.size)=>Q6X W w.heap.size (l.getD c (0,0,false)).1 (l.getD r (0,0,false)).1 Y)
     have V:Hid (Q8e (Q5Q (scL key b l))=[(l.getD c (0,0,false)).1,(l.getD r (0,0,false)).1]):=by unfold Hid;rw[HQ.out];show[s1.1,(Qch key b (l.getD r (0,0,false))).1]=_;rw[s.out];rfl
     generalize (l.getD c (0,0,false)).1=x1 at *;generalize (l.getD r (0,0,false)).1=x2 at *;have N:=G.out.size;clear f a h1 h2;go_wp2
     go_region
     all_goals go_wp2
     all_goals go_ret
     all_goals exact⟨_,rfl,by rw[V.out];exact(HO.out wr N).drew,(G.out.alloc N _).drew⟩
def Q14 (key b:Int) (l:List Bk):List Int:=if Q1D key=true/\(0<=b/\b < 8)/\Q0b l=true then Q8e (Q5Q (scL key b l))else[]
theorem Q9Y (key b:Int) (l:List Bk):(Q14 key b l).length<=2:=by
 unfold Q14
 split
 ·unfold Q8e;split <;> simp
 ·simp
theorem Q47 {l:List Bk} (h:Q0b l=true):l.length<=6:=by
 have key:∀j,j < l.length->(j:Int)<=(l.getD j (0,0,false)).1:=fun j=>by
  induction j with
  |zero=>
   intro d;obtain⟨x,y,z,a⟩:∃x y z,l.getD 0 (0,0,false)=(x,y,z):=⟨_,_,_,rfl⟩;have:=Q4j h d a;rw[a];simpa using this.1
  |succ j ih=>
   intro d;have c:=ih (by omega);have h2:=Q5j h (j+1) d j (by omega);omega
 rcases Nat.lt_or_ge 6 l.length with b|b
 ·obtain⟨x,y,z,a⟩:∃x y z,l.getD 6 (0,0,false)=(x,y,z):=⟨_,_,_,rfl⟩
  have c:=key 6 b;have h2:=Q4j h b a;rw[a]at c;dsimp only at c;omega
 ·exact b
theorem Q8P {key b:Int} {l:List Bk} (h:Q0b l=true) {z:Sc} (c:z∈scL key b l):okS z:=by
 obtain⟨i,hi,e⟩:=Qb7 c;obtain⟨x,y,t,a⟩:∃x y z,l.getD i (0,0,false)=(x,y,z):=⟨_,_,_,rfl⟩;have:=Q4j h hi a;rw[a]at e;unfold okS;rw[<-e];dsimp only;omega
theorem Q9C {l:List Bk} (h:Q0b l=true) (j:Nat):Q0b (l.take j)=true:=by
 rw[Q1k]at *;intro i hi
 have a:i < l.length:=by simp at hi;omega
 have b:i < j:=by simp at hi;omega
 have:=h i a;unfold Qce at *
 have c:(l.take j).getD i (0,0,false)=l.getD i (0,0,false):=by simp[KFq,List.getElem?_take,b]
 have d:(l.take j).getD (i - 1) (0,0,false)=l.getD (i - 1) (0,0,false):=by simp[KFq,List.getElem?_take,show i - 1 < j by omega]
 rw[c,d];exact this
theorem QgL {key b:Int} {l:List Bk} (h:Q0b l=true):QiC (scL key b l) (Q5Q (scL key b l)):=by
 have k:∀j,j<=l.length->QiC (scL key b (l.take j)) (Q5Q (scL key b (l.take j))):=fun j=>by
  induction j with
  |zero=>intro _;exact⟨by simp[scL],by simp[scL,Q5Q]⟩
  |succ j ih=>
   intro p;have g:=ih (by omega);obtain⟨x,y,z,c⟩:∃x y z,l.getD j (0,0,false)=(x,y,z):=⟨_,_,_,rfl⟩;have a:=Q11 Q16 l j (by omega);rw[show l.getD j Q16.d=l.getD j (0,0,false)from rfl,c]at a
   cases z with
   |true=>rw[a,Q5b _ _ _ _ rfl];exact g
   |false=>
    rw[a,Q4m _ _ _ _ rfl,Q9W];have n:=Q4j h (by omega) c;refine QfH g (fun z m=>Q8P (Q9C h j) m) ⟨n.1,by dsimp only;omega⟩ (fun z m=>?_);obtain⟨i,hi,e⟩:=Qb7 m
    have f:i < j:=by simp at hi;omega
    have:=Q5j h j (by omega) i f;rw[c]at this;rw[show(l.take j).getD i (0,0,false)=l.getD i (0,0,false)by simp[KFq,List.getElem?_take,f]]at e;rw[<-e];exact this
 have:=k l.length (Kaq _);rw[List.take_of_length_le (Kaq _)]at this;exact this
theorem Q8q (key b:Int) (o:Option Addr) (cap:Nat) (l:List Bk) (w:World) (A:RdK w.heap.size w o l) (u:l.length<=1048576):
  Calls Tryz.prog 184 #[.int .i64 key,.int .i64 b,.slice o l.length cap] w fun e E=> ∃v,e=.returned v/\Q9U E w.heap.size v (Q14 key b l)/\Below w.heap.size w E:=by
 have a:=fun w=>Q0T key w
 have d:=fun w=>Q2l b w
 have f:=Q2Q o cap l w A u
 by_cases hk:Q1D key=true
 ·rw[hk]at a
  by_cases hbk:0<=b/\b < 8
  ·rw[show(decide (0<=b) && decide (b < 8))=true by simp[hbk]]at d
   by_cases hl:Q0b l=true
   ·rw[hl]at f
    have i:=Q02 (show Q14 key b l=Q8e (Q5Q (scL key b l))by rw[Q14,if_pos ⟨hk,hbk,hl⟩]);have I:=Q47 hl;go_enter Tryz.func184,Tryz.ntmps184;go_wp2_with (first|(go_at_call 115;refine(a _).mono ?_;rintro e n ⟨rfl,rfl⟩)|(go_at_call 143;refine(d _).mono ?_;rintro e n ⟨rfl,rfl⟩)|(go_at_call 175;refine f.mono ?_;rintro e F ⟨rfl,c⟩));refine(Q9A key b o cap l F ((A.kept c (Kaq _)).le c.size) (by omega) hk hbk hl).mono ?_;rintro e L ⟨k,v,lb,rfl,t,m,y,j,g,r⟩
    have B:lb.length<=1000:=by
     have M:=j.1
     have h2:(scL key b l).length<=l.length:=by unfold scL;rw[List.length_map];exact List.length_filter_le _ _
     omega
    have h:=QbR k v lb L t m y B;clear f;go_wp2_with fail;refine h.mono ?_;rintro e N ⟨J,p,rfl,D,x,s⟩;have C:=QgV (QgL hl) (fun z hz=>Q8P hl hz) j m D;have H:=Q02 (Q04 (C ▸ x) (Kdq c.size g));have G:=Q02 ((c.trans (r.mono c.size)).trans (s.mono (Kdq c.size g)));clear x c r s A D C h t m y j;go_wp2;go_ret;exact⟨J,rfl,by rw[i.out];exact H.out,G.out⟩
   ·rw[Bool.eq_false_iff.2 hl]at f
    have i:=Q02 (show Q14 key b l=[]by rw[Q14,if_neg (fun q=>hl q.2.2)]);go_enter Tryz.func184,Tryz.ntmps184;go_wp2_with (first|(go_at_call 115;refine(a _).mono ?_;rintro e n ⟨rfl,rfl⟩)|(go_at_call 143;refine(d _).mono ?_;rintro e n ⟨rfl,rfl⟩)|(go_at_call 175;refine f.mono ?_;rintro e F ⟨rfl,c⟩));go_ret;exact⟨_,rfl,by rw[i.out];exact KLq _ _ _ _,c⟩
  ·rw[show(decide (0<=b) && decide (b < 8))=false by simpa using hbk]at d
   have i:=Q02 (show Q14 key b l=[]by rw[Q14,if_neg (fun q=>hbk q.2.1)]);go_enter Tryz.func184,Tryz.ntmps184;go_wp2_with (first|(go_at_call 115;refine(a _).mono ?_;rintro e n ⟨rfl,rfl⟩)|(go_at_call 143;refine(d _).mono ?_;rintro e n ⟨rfl,rfl⟩));go_ret;exact⟨_,rfl,by rw[i.out];exact KLq _ _ _ _,KBq⟩
 ·rw[Bool.eq_false_iff.2 hk]at a
  have i:=Q02 (show Q14 key b l=[]by rw[Q14,if_neg (fun q=>hk q.1)]);go_enter Tryz.func184,Tryz.ntmps184;go_wp2_with (first|(go_at_call 115;refine(a _).mono ?_;rintro e n ⟨rfl,rfl⟩));go_ret;exact⟨_,rfl,by rw[i.out];exact KLq _ _ _ _,KBq⟩
theorem ownL.rds {α:Type} {L:Lay α} {e:TypeId} {w:World} {base n c:Nat} {o:Option Addr} {l:List α} (h:ownL L e w base (.slice o n c) l):RdL L w.heap.size w o l:=by
 obtain⟨f,d,a,b⟩:=h.open;injection a with e1 e2 e3;rw[e1];exact b
theorem Q2n {w:World} {j k s1 s2 q r:Nat} {f h:TypeId} {b i:Value} {s t:List Value} (m:w.ownsRow j f s1 b q s) (h2:w.ownsRow k h s2 i r t) (n:f≠h):b.ownBlock=none\/b.ownBlock≠i.ownBlock:=by
 rcases m.2 with⟨rfl,_⟩|⟨g,cap,l,rfl,_,p,_⟩
 ·exact .inl rfl
 ·right
  rcases h2.2 with⟨rfl,_⟩|⟨u,c,d,rfl,_,a,_⟩
  ·simp[Value.ownBlock]
  ·intro e
   simp[Value.ownBlock]at e;subst e;rw[p]at a;simp at a;exact n a.2
theorem QgY:(3:TypeId)≠47:=by decide
def hv (hs:List Hd) (i:Nat):Value:=.slice (hs.getD i (none,0,0)).1 (hs.getD i (none,0,0)).2.1 (hs.getD i (none,0,0)).2.2
structure Tab (R:Nat->List Int) (k:Nat) (w:World) (base:Nat) (hs:List Hd):Prop where
 len:hs.length=k
 row:∀i,i < k->Q9U w base (hv hs i) (R i)
 apart:∀i j,i < k->j < k->i≠j->(hv hs i).ownBlock=none\/(hv hs i).ownBlock≠(hv hs j).ownBlock
theorem Tab.nil (R:Nat->List Int) (w:World) (base:Nat):Tab R 0 w base []:=⟨rfl,fun i h=>absurd h (KMq _),fun i _ h=>absurd h (KMq _)⟩
theorem Tab.kept {R:Nat->List Int} {k:Nat} {w w':World} {base:Nat} {hs:List Hd} (h:Tab R k w base hs) (hb:Below w.heap.size w w'):Tab R k w' base hs:=
 ⟨h.len,fun i hi=>Q03 (h.row i hi) hb,h.apart⟩
theorem Tab.grown {R:Nat->List Int} {k:Nat} {w a:World} {base:Nat} {hs:List Hd} {r:Option Nat} (h:Tab R k w base hs) (b:w.grownBy a r) (c:∀i,i < k->(hv hs i).ownBlock=none\/(hv hs i).ownBlock≠r):Tab R k a base hs:=
 ⟨h.len,fun i hi=>(h.row i hi).kept b (c i hi),h.apart⟩
theorem Tab.other {R:Nat->List Int} {k:Nat} {w c:World} {base d s2 j:Nat} {hs:List Hd} {a:TypeId} {b:Value} {l:List Value} (h:Tab R k w base hs) (h2:w.ownsRow d a s2 b j l) (f:3≠a) (g:w.grownBy c b.ownBlock):Tab R k c base hs:=
 h.grown g fun i hi=>Q2n (h.row i hi) h2 f
theorem Q63 {hs:List Hd} {x:Hd} {i:Nat} (h:i < hs.length):hv (hs++[x]) i=hv hs i:=by
 unfold hv;rw[KFq,List.getElem?_append_left h,<-KFq]
theorem Qb9 {hs:List Hd} {x:Hd}:hv (hs++[x]) hs.length=.slice x.1 x.2.1 x.2.2:=by
 unfold hv;rw[KFq,List.getElem?_append_right (Kaq _),Nat.sub_self];rfl
theorem Tab.snoc {R:Nat->List Int} {k:Nat} {w:World} {base q:Nat} {hs:List Hd} {o:Option Addr} {m c:Nat} (h:Tab R k w base hs) (f:∀i,i < k->∀b,(hv hs i).ownBlock=some b->b < q) (l:base<=q)
  (p:Q9U w q (.slice o m c) (R k)):Tab R (k+1) w base (hs++[(o,m,c)]):=by
 have r:=h.len
 have d:hv (hs++[(o,m,c)]) k=.slice o m c:=by rw[<-r];exact Qb9
 refine⟨by simp[r],fun i hi=>?_,fun i j hi t n=>?_⟩
 ·rcases Nat.lt_succ_iff_lt_or_eq.1 hi with a|a
  ·rw[Q63 (by omega)];exact h.row i a
  ·subst a;rw[d];exact Q04 p l
 ·rcases Nat.lt_succ_iff_lt_or_eq.1 hi with a|a
  ·rw[Q63 (by omega)]
   rcases Nat.lt_succ_iff_lt_or_eq.1 t with g|g
   ·rw[Q63 (by omega)];exact h.apart i j a g n
   ·subst g;rw[d]
    cases hob:(hv hs i).ownBlock with
    |none=>exact .inl rfl
    |some b=>
     right
     intro e;have s:=f i a b hob;have h2:=(p.lt b e.symm).1;omega
  ·subst a
   rw[d]
   cases hob:(Value.slice o m c).ownBlock with
   |none=>exact .inl rfl
   |some b=>
    right
    rw[Q63 (by omega)];intro e;have s:=f j (by omega) b e.symm;have h2:=(p.lt b hob).1;omega
theorem Tab.lt {R:Nat->List Int} {k:Nat} {w:World} {base:Nat} {hs:List Hd} (h:Tab R k w base hs):∀i,i < k->∀b,(hv hs i).ownBlock=some b->b < w.heap.size:=
 fun i hi b e=>((h.row i hi).lt b e).2
def Q3z (R:Nat->List Int) (n:Nat):List (List Int):=(List.range n).map R
theorem Q1m (R:Nat->List Int) (n:Nat):(Q3z R n).length=n:=by simp[Q3z]
theorem Q2f (R:Nat->List Int) (n i:Nat) (h:i < n):(Q3z R n).getD i []=R i:=by simp[Q3z,h]
theorem Tab.rd {R:Nat->List Int} {n:Nat} {w:World} {base d m c:Nat} {hs:List Hd} {o:Option Addr} (h:Tab R n w base hs) (f:ownL Q0E 47 w d (.slice o m c) hs):RdLL w.heap.size w o (Q3z R n):=by
 refine⟨hs,by rw[h.len,Q1m],ownL.rds f,fun i hi=>?_⟩;rw[Q1m]at hi;rw[Q2f R n i hi];have b:=h.row i hi;obtain⟨j,g,a,_⟩:=ownL.open (L:=Q2m) b;unfold hv at a;injection a with e1 e2 e3;exact⟨e2,ownL.rds (L:=Q2m) b⟩
def OwnT (w:World) (base:Nat) (v:Value) (n:Nat) (R:Nat->List Int):Prop:=
 (v=.slice none 0 0/\n=0)\/∃g hs,v=.slice (some ⟨g,0,none⟩) n n/\ownL Q0E 47 w base v hs/\Tab R n w base hs
theorem OwnT.open {w:World} {base n:Nat} {v:Value} {R:Nat->List Int} (h:OwnT w base v n R):∃o c,v=.slice o n c/\RdLL w.heap.size w o (Q3z R n):=by
 rcases h with⟨rfl,rfl⟩|⟨g,hs,rfl,a,b⟩
 ·exact⟨none,0,rfl,[],rfl,.inl rfl,fun i hi=>by simp[Q3z]at hi⟩
 ·exact⟨_,_,rfl,b.rd a⟩
def st (R:Nat->List Int) (k:Int):Nat->Int
 |0=>k
 |i+1=>st R k i+(R i).length
theorem Stp.cellP {lo hi:Nat} {w c:World} {p:Addr} {u:Value} (s:Stp lo hi w c) (h:w.cell? p=some u) (d:p.block < lo\/hi<=p.block):c.cell? p=some u:=by
 have b:p.block < w.heap.size:=by
  rcases Nat.lt_or_ge p.block w.heap.size with a|a
  ·exact a
  ·simp[World.cell?,Array.getElem?_eq_none a]at h
 have e:=s.block p.block b d;simp only[World.cell?,e]at h ⊢;exact h
def RiV {α:Type} (L:Lay α) (lo hi:Nat) (w:World) (v:Value) (l:List α):Prop:=∃o c,v=.slice o l.length c/\RdLo L lo hi w o l
theorem RiV.step {α:Type} {L:Lay α} {a b lo hi:Nat} {w m:World} {v:Value} {l:List α} (h:RiV L a b w v l) (s:Stp lo hi w m) (u:hi<=a\/b<=lo):RiV L a b m v l:=by
 obtain⟨o,c,e,r⟩:=h;refine⟨o,c,e, ?_⟩
 rcases r with r|⟨g,off,t,n,p,r⟩
 ·exact .inl r
 ·refine .inr ⟨g,off,t,n,p,fun i f j q=>?_⟩
  have h:=r i f j q;have x:(L.cs (l.getD i L.d)).length=L.k:=L.len _;rw[KGq (by omega)]at h ⊢;exact s.cellP h (by simp only;omega)
theorem RiV.mono {α:Type} {L:Lay α} {a b d f:Nat} {w:World} {v:Value} {l:List α} (h:RiV L a b w v l) (j:d<=a) (h2:b<=f):RiV L d f w v l:=by
 obtain⟨o,c,e,r⟩:=h;refine⟨o,c,e, ?_⟩
 rcases r with r|⟨g,off,i,k,m,r⟩
 ·exact .inl r
 ·exact .inr ⟨g,off,i,by omega,by omega,r⟩
theorem RiV.open {α:Type} {L:Lay α} {a b:Nat} {w:World} {v:Value} {l:List α} (h:RiV L a b w v l):∃o c,v=.slice o l.length c/\RdL L b w o l:=by
 obtain⟨o,c,e,r⟩:=h;exact⟨o,c,e,r.rd⟩
theorem InRow.ri {α:Type} {L:Lay α} {e:TypeId} {lo hi:Nat} {w:World} {v:Value} {l:List α} (h:InL L e lo hi w v l):RiV L lo hi w v l:=by
 obtain⟨o,c,a,r⟩:=InL.rd (L:=L) h;refine⟨o,c,a, ?_⟩
 rcases r with r|⟨g,off,b,d,r⟩
 ·exact .inl r
 ·refine .inr ⟨g,off,b,(h.1.lt g (by rw[a,b];rfl)).1,d,r⟩
def RiRows {α:Type} (Q:Nat->Nat->World->Value->α->Prop) (d:α) (lo hi:Nat) (w:World) (v:Value) (xs:List α):Prop:=∃hs:List Hd,hs.length=xs.length/\RiV Q0E lo hi w v hs/\∀i,i < xs.length->Q lo hi w (hv hs i) (xs.getD i d)
structure Stps {α:Type} (Q:Nat->Nat->World->Value->α->Prop):Prop where
 go:∀{a b lo hi:Nat} {w w':World} {v:Value} {x:α},Q a b w v x->Stp lo hi w w'->(hi<=a\/b<=lo)->Q a b w' v x
structure Monos {α:Type} (Q:Nat->Nat->World->Value->α->Prop):Prop where
 go:∀{a b a' b':Nat} {w:World} {v:Value} {x:α},Q a b w v x->a'<=a->b<=b'->Q a' b' w v x
theorem RiRows.step {α:Type} {Q:Nat->Nat->World->Value->α->Prop} {d:α} (hQ:Stps Q):Stps (RiRows Q d):=⟨fun ⟨hs,h0,h1,h2⟩ s hd=>⟨hs,h0,h1.step s hd,fun i hi=>hQ.go (h2 i hi) s hd⟩⟩
theorem RiRows.mono {α:Type} {Q:Nat->Nat->World->Value->α->Prop} {d:α} (hQ:Monos Q):Monos (RiRows Q d):=⟨fun ⟨hs,h0,h1,h2⟩ k1 k2=>⟨hs,h0,h1.mono k1 k2,fun i hi=>hQ.go (h2 i hi) k1 k2⟩⟩
abbrev RiI:=RiV Q2m
abbrev RiT:=RiRows RiI []
abbrev RiR:=RiRows RiT []
theorem RiI.stp:Stps RiI:=⟨fun h s hd=>RiV.step h s hd⟩
theorem RiI.mon:Monos RiI:=⟨fun h h1 h2=>RiV.mono h h1 h2⟩
theorem RiT.stp:Stps RiT:=RiRows.step RiI.stp
theorem RiT.mon:Monos RiT:=RiRows.mono RiI.mon
theorem RiR.stp:Stps RiR:=RiRows.step RiT.stp
theorem RiR.mon:Monos RiR:=RiRows.mono RiT.mon
theorem RiT.rd {a b:Nat} {w:World} {v:Value} {ll:List (List Int)} (h:RiT a b w v ll):∃o c,v=.slice o ll.length c/\RdLL b w o ll:=by
 obtain⟨hs,f,g,h2⟩:=h;obtain⟨o,c,e,r⟩:=g.open;refine⟨o,c,by rw[e,f],hs,f,r,fun i hi=>?_⟩;obtain⟨l,k,d,j⟩:=(h2 i hi).open;unfold hv at d;injection d with e1 e2 e3;exact⟨e2,by rw[e1];exact j⟩
theorem RiR.at {a C:Nat} {w:World} {o:Option Addr} {n c:Nat} {d:List (List (List Int))} (h:RiR a C w (.slice o n c) d) (k:C<=w.heap.size) (i:Nat) (hi:i < d.length):
  ∃b off f g,o=some ⟨b,off,none⟩/\b < w.heap.size/\w.cell? ⟨b,off+i,none⟩=some (.slice f (d.getD i []).length g)/\RdLL w.heap.size w f (d.getD i []):=by
 obtain⟨hs,m,p,h2⟩:=h;obtain⟨v,u,e,r⟩:=p.open;injection e with e1 e2 e3;subst e1
 rcases r with r|⟨b,off,s,q,r⟩
 ·subst r;simp at m;omega
 ·have l:=RdL.head r i (by omega)
  obtain⟨f,g,j,t⟩:=RiT.rd (h2 i hi);unfold hv at j;rw[j]at l;exact⟨b,off,f,g,s,Kbq q k,l,t.le k⟩
structure Rw {α:Type} (Q:Nat->Nat->World->Value->α->Prop) (d:α) (xs:List α) (lo hi:Nat) (w:World) (hs:List Hd) (L H:Nat->Nat):Prop where
 len:hs.length=xs.length
 bd:∀i,i < xs.length->lo<=L i/\H i<=hi
 sep:∀i j,i < j->j < xs.length->H i<=L j
 row:∀i,i < xs.length->Q (L i) (H i) w (hv hs i) (xs.getD i d)
theorem Rw.nil {α:Type} (Q:Nat->Nat->World->Value->α->Prop) (d:α) (lo hi:Nat) (w:World) (L H:Nat->Nat):Rw Q d [] lo hi w [] L H:=⟨rfl,fun i h=>absurd h (KMq _),fun i j _ h=>absurd h (KMq _),fun i h=>absurd h (KMq _)⟩
theorem Rw.step {α:Type} {Q:Nat->Nat->World->Value->α->Prop} {d:α} {f:List α} {a b lo hi:Nat} {w g:World} {hs:List Hd} {L H:Nat->Nat} (j:Stps Q) (h:Rw Q d f a b w hs L H) (s:Stp lo hi w g) (k:∀i,i < f.length->hi<=L i\/H i<=lo):Rw Q d f a b g hs L H:=
 ⟨h.len,h.bd,h.sep,fun i c=>j.go (h.row i c) s (k i c)⟩
theorem Rw.kept {α:Type} {Q:Nat->Nat->World->Value->α->Prop} {d:α} {f:List α} {a b:Nat} {w c:World} {hs:List Hd} {L H:Nat->Nat} (g:Stps Q) (h:Rw Q d f a b w hs L H) (j:Below w.heap.size w c):Rw Q d f a b c hs L H:=
 h.step g (Stp.of (lo:=0) (hi:=0) j) (fun i _=> .inl (Kcq _))
theorem Rw.mono {α:Type} {Q:Nat->Nat->World->Value->α->Prop} {d:α} {g:List α} {a b c f:Nat} {w:World} {hs:List Hd} {L H:Nat->Nat} (h:Rw Q d g a b w hs L H) (j:c<=a) (h2:b<=f):Rw Q d g c f w hs L H:=
 ⟨h.len,fun i hi=>⟨Kdq j (h.bd i hi).1,Kdq (h.bd i hi).2 h2⟩,h.sep,h.row⟩
theorem Rw.snoc {α:Type} {Q:Nat->Nat->World->Value->α->Prop} {d:α} {f:List α} {lo b l2 h2:Nat} {w:World} {hs:List Hd} {L H:Nat->Nat} {o:Option Addr} {m c:Nat} {x:α} (h:Rw Q d f lo b w hs L H) (s:b<=l2) (r:lo<=l2) (t:l2<=h2) (q:Q l2 h2 w (.slice o m c) x):
  Rw Q d (f++[x]) lo h2 w (hs++[(o,m,c)]) (fun i=>if i < f.length then L i else l2) (fun i=>if i < f.length then H i else h2):=by
 have g:=h.len;refine⟨by simp[g],fun i hi=>?_,fun i j l p=>?_,fun i hi=>?_⟩
 ·by_cases a:i < f.length
  ·have:=h.bd i a;simp only[a,if_true];omega
  ·simp only[a,if_false];omega
 ·simp at p
  have a:i < f.length:=by omega
  by_cases hj':j < f.length
  ·simp only[a,hj',if_true];exact h.sep i j l hj'
  ·have:=h.bd i a;simp only[a,hj',if_true,if_false];omega
 ·by_cases a:i < f.length
  ·have k:(f++[x]).getD i d=f.getD i d:=by rw[KFq,List.getElem?_append_left a,<-KFq]
   simp only[a,if_true];rw[Q63 (by omega),k];exact h.row i a
  ·have n:i=f.length:=by simp at hi;omega
   subst n
   have k:(f++[x]).getD f.length d=x:=by simp
   simp only[Nat.lt_irrefl,if_false];rw[k,<-g,Qb9];exact q
def Qhe (v:Value) (n:Nat) (L H:Nat->Nat):Prop:=∀i,i < n->∀b,v.ownBlock=some b->b < L i\/H i<=b
def InRows {α:Type} (Q:Nat->Nat->World->Value->α->Prop) (d:α) (T:TypeId) (lo hi:Nat) (w:World) (v:Value) (xs:List α):Prop:=∃hs L H,InL Q0E T lo hi w v hs/\Rw Q d xs lo hi w hs L H/\Qhe v xs.length L H
theorem InRows.step {α:Type} {Q:Nat->Nat->World->Value->α->Prop} {d:α} {T:TypeId} (c:Stps Q):Stps (InRows Q d T):=⟨fun ⟨hs,L,H,b,a,h2⟩ s f=>
 ⟨hs,L,H,InRow.step b s f,a.step c s (fun i hi=>by have:=a.bd i hi;omega),h2⟩⟩
theorem InRows.mono {α:Type} {Q:Nat->Nat->World->Value->α->Prop} {d:α} {T:TypeId}:Monos (InRows Q d T):=⟨fun ⟨hs,L,H,h0,h1,h2⟩ k1 k2=>
 ⟨hs,L,H,InRow.mono h0 k1 k2,h1.mono k1 k2,h2⟩⟩
theorem InRows.ri {α:Type} {Q Q':Nat->Nat->World->Value->α->Prop} {d:α} {T:TypeId} (hm:Monos Q') (f:∀{lo hi:Nat} {w:World} {v:Value} {x:α},Q lo hi w v x->Q' lo hi w v x) {lo hi:Nat} {w:World} {v:Value} {b:List α} (h:InRows Q d T lo hi w v b):RiRows Q' d lo hi w v b:=by
 obtain⟨hs,L,H,c,a,h2⟩:=h;exact⟨hs,a.len,InRow.ri c,fun i hi=>hm.go (f (a.row i hi)) (a.bd i hi).1 (a.bd i hi).2⟩
abbrev InI:=InL Q2m 3
abbrev InT:=InRows InI [] 47
abbrev InR:=InRows InT [] 51
theorem InI.stp:Stps InI:=⟨fun h s hd=>InRow.step h s hd⟩
theorem InT.stp:Stps InT:=InRows.step InI.stp
theorem InR.stp:Stps InR:=InRows.step InT.stp
theorem InT.ri {lo hi:Nat} {w:World} {v:Value} {ll:List (List Int)} (h:InT lo hi w v ll):RiT lo hi w v ll:=InRows.ri RiI.mon (fun q=>InRow.ri q) h
theorem InR.ri {lo hi:Nat} {w:World} {v:Value} {ll:List (List (List Int))} (h:InR lo hi w v ll):RiR lo hi w v ll:=InRows.ri RiT.mon (fun q=>InT.ri q) h
def Q1d (R1 R2:List (List (List Int))):Bool:=decide (R1.length=R2.length) && (List.range R1.length).all (fun i=>Q10 (R1.getD i []) (R2.getD i [])==0)
theorem bC7 {C b j:Nat} {w w':World} {u:Value} (h:Below C w w') (hc:w.cell? ⟨b,j,none⟩=some u) (hz:b < C):w'.cell? ⟨b,j,none⟩=some u:=(h.cell (p:=⟨b,j,none⟩) hz).trans hc
theorem RiRows.atS {α:Type} {Q:Nat->Nat->World->Value->α->Prop} {d:α} {a C:Nat} {w:World} {o:Option Addr} {n c:Nat} {f:List α} (h:RiRows Q d a C w (.slice o n c) f) (p:C<=w.heap.size) (i:Nat) (hi:i < f.length):∃b off u,o=some ⟨b,off,none⟩/\b < C/\w.cell? ⟨b,off+i,none⟩=some u/\Q a C w u (f.getD i d):=by
 obtain⟨hs,g,j,h2⟩:=h;obtain⟨q,m,e,r⟩:=j.open;injection e with e1 e2 e3;subst e1
 rcases r with r|⟨b,off,l,k,r⟩
 ·subst r;simp at g;omega
 ·exact⟨b,off,hv hs i,l,k,RdL.head r i (by omega),h2 i hi⟩
theorem Q6o {R1 R2:List (List (List Int))} {i:Nat} (hi:i < R1.length) (h:Q10 (R1.getD i []) (R2.getD i [])≠0):Q1d R1 R2=false:=by
 unfold Q1d;rw[Bool.and_eq_false_iff]
 right
 rw[List.all_eq_false];exact⟨i,by simpa using hi,by simpa using h⟩
theorem Q3Z {R1 R2:List (List (List Int))} (a:R1.length=R2.length) (h:∀i,i < R1.length->Q10 (R1.getD i []) (R2.getD i [])=0):Q1d R1 R2=true:=by
 unfold Q1d;rw[decide_eq_true a,Bool.true_and,List.all_eq_true];intro i hi;rw[h i (by simpa using hi)]
 rfl
theorem Q5p {R1 R2:List (List (List Int))} (hl:R1.length≠R2.length):Q1d R1 R2=false:=by
 unfold Q1d;rw[decide_eq_false hl];rfl
theorem RdK.cells3 {C:Nat} {w:World} {o:Option Addr} {l:List Bk} (h:RdK C w o l) (j:Nat) (a:j < l.length):∃g off,o=some ⟨g,off,none⟩/\g < C/\w.cell? ⟨g,off+j * 3,none⟩=some (.int .i64 (l.getD j (0,0,false)).1)/\w.cell? ⟨g,off+j * 3+1,none⟩=some (.int .i64 (l.getD j (0,0,false)).2.1)/\w.cell? ⟨g,off+j * 3+2,none⟩=some (.bool (l.getD j (0,0,false)).2.2):=by
 rcases h with r|⟨b,off,d,c,r⟩
 ·subst r;exact absurd a (KMq _)
 ·exact⟨b,off,d,c,r j a 0 (by decide),r j a 1 (by decide),r j a 2 (by decide)⟩
theorem Q4w (l:List Bk) (k:Nat) (h:k < l.length):l.take (k+1)=l.take k++[l.getD k (0,0,false)]:=Q11 Q16 l k h
theorem Qbh (X Y:Option Addr) (s B c1 c2:Nat) (m l2:List Bk) (w:World) (n:s=m.length) (r:B=l2.length) (U:RdK w.heap.size w X m) (h2:RdK w.heap.size w Y l2) (H:m.length<=1048576) (I:l2.length<=1048576):
  Calls Tryz.prog 137 #[.slice X s c1,.slice Y B c2] w fun e w'=>e=.returned (.bool (decide (m=l2)))/\Below w.heap.size w w':=by
 have t:=Q02 n;have u:=Q02 r;have H1:=Q02 U;have H2:=Q02 h2
 by_cases hlen:s=B
 ·subst hlen
  rw[<-n]at H;clear n r U h2 I;go_enter Tryz.func137,Tryz.ntmps137;go_wp2
  go_loopw [4,13] (fun rv i wr=> ∃k:Nat,k<=s/\i=.int .i64 (k:Int)/\rv=.bool false/\Hid (m.take k=l2.take k)/\Hid (Below w.heap.size w wr))
   (fun _ i _=>s - (intOf i).toNat)
  case atStart=>exact⟨0,Kcq _,rfl,rfl,rfl,KBq⟩
  case round=>
   rename World=>wr
   obtain⟨k,hk,rfl,rfl,J,a⟩:=hrel
   by_cases hlt:k < s
   ·have V:(k:Int) < (s:Int):=by omega
    obtain⟨g1,f1,rfl,j,N,O,P⟩:=RdK.cells3 H1.out k (by rw[<-t.out];exact hlt);obtain⟨g2,f2,rfl,l,b0,R,T⟩:=RdK.cells3 H2.out k (by rw[<-u.out];exact hlt);have Ga0:=Grown.cell (bC7 a.out N j) (Kbq j a.out.size);have Ga1:=Grown.cell (bC7 a.out O j) (Kbq j a.out.size);have Ga2:=Grown.cell (bC7 a.out P j) (Kbq j a.out.size);have Gb0:=Grown.cell (bC7 a.out b0 l) (Kbq l a.out.size);have Gb1:=Grown.cell (bC7 a.out R l) (Kbq l a.out.size);have Gb2:=Grown.cell (bC7 a.out T l) (Kbq l a.out.size)
    have L:=Q02 (Q4w m k (by rw[<-t.out];exact hlt));have M:=Q02 (Q4w l2 k (by rw[<-u.out];exact hlt))
    have v:Hid (m=l2->m.getD k (0,0,false)=l2.getD k (0,0,false)):=fun h=>by rw[h]
    clear N O P b0 R T;generalize m.getD k (0,0,false)=d at *;generalize l2.getD k (0,0,false)=e at *
    by_cases hde:d=e
    ·subst hde
     obtain⟨y,z,A⟩:=d;dsimp only at Ga0 Ga1 Ga2 Gb0 Gb1 Gb2;clear v;go_wp2
     (refine Q09 (by kernel_rfl) (by kernel_rfl) ?_;intro q;(repeat (go_big_quiet_step (fail)));(with_reducible refine wpQuiet_nil ?_);intro _ g;obtain⟨x,f⟩:=g;subst f)
     have c:=Q02 (a.out.trans (x.b.mono a.out.size));go_wp2;go_roundw
     case rel=>exact⟨k+1,by omega,by go_num,rfl,(by unfold Hid;rw[L.out,M.out,J.out]),c.out⟩
     case measure=>simp[intOf];omega
    ·have D:Hid (m≠l2):=fun h=>hde (v.out h)
     obtain⟨y,z,A⟩:=d;obtain⟨E,F,G⟩:=e;dsimp only at Ga0 Ga1 Ga2 Gb0 Gb1 Gb2
     have p:¬(y=E/\z=F/\A=G):=fun h=>hde (by rw[h.1,h.2.1,h.2.2])
     clear hde v L M
     by_cases q0:y=E
     ·subst q0
      by_cases q1:z=F
      ·subst q1
       have Z:¬A=G:=fun h=>p ⟨rfl,rfl,h⟩
       clear p
       cases A <;> cases G <;> first|exact absurd rfl Z|skip
       all_goals clear Z
       all_goals go_wp2
       all_goals (refine Q09 (by kernel_rfl) (by kernel_rfl) ?_;intro q;(repeat (go_big_quiet_step (fail)));(with_reducible refine wpQuiet_nil ?_);intro _ g;obtain⟨x,f⟩:=g;subst f)
       all_goals have c:=Q02 (a.out.trans (x.b.mono a.out.size))
       all_goals go_wp2
       all_goals go_ret
       all_goals exact⟨Q08 (decide_eq_false D.out).symm,c.out⟩
      ·clear p
       have ab:(z==F)=false:=by simpa using q1
       go_wp2
       (refine Q09 (by kernel_rfl) (by kernel_rfl) ?_;intro q;(repeat (go_big_quiet_step (fail)));(with_reducible refine wpQuiet_nil ?_);intro _ g;obtain⟨x,f⟩:=g;subst f)
       have c:=Q02 (a.out.trans (x.b.mono a.out.size));go_wp2;go_ret;exact⟨Q08 (decide_eq_false D.out).symm,c.out⟩
     ·clear p
      have aa:(y==E)=false:=by simpa using q0
      go_wp2
      (refine Q09 (by kernel_rfl) (by kernel_rfl) ?_;intro q;(repeat (go_big_quiet_step (fail)));(with_reducible refine wpQuiet_nil ?_);intro _ g;obtain⟨x,f⟩:=g;subst f)
      have c:=Q02 (a.out.trans (x.b.mono a.out.size));go_wp2;go_ret;exact⟨Q08 (decide_eq_false D.out).symm,c.out⟩
   ·have e:k=s:=by omega
    subst e
    have C:Hid (m=l2):=by
     have h:=J.out;rw[List.take_of_length_le (by rw[<-t.out];exact Kaq _),List.take_of_length_le (by rw[<-u.out];exact Kaq _)]at h;exact h
    go_wp2;go_ret;exact⟨Q08 (decide_eq_true C.out).symm,a.out⟩
 ·have C:Hid (m≠l2):=fun h=>hlen (by rw[n,r,h])
  have p:¬((s:Int)=(B:Int)):=by omega
  clear n r hlen;go_enter Tryz.func137,Tryz.ntmps137;go_wp2;go_ret;exact⟨Q08 (decide_eq_false C.out).symm,KBq⟩
theorem Q9y (d f:Option Addr) (g h m n:Nat) (aa bb:List (List Int)) (w:World) (a:m=aa.length) (b:n=bb.length) (j:RdLL w.heap.size w d aa) (k:RdLL w.heap.size w f bb) (t:aa.length<=1048576) (lb:bb.length<=1048576)
  (p:∀i,i < aa.length->(aa.getD i []).length<=1048576) (r:∀i,i < bb.length->(bb.getD i []).length<=1048576):
  Calls Tryz.prog 139 #[.slice d m g,.slice f n h] w fun e u=>e=.returned (.bool (Q10 aa bb==0))/\Below w.heap.size w u:=by
 have c:=Q02 (Q9B d f g h aa bb w j k t lb p r);rw[<-a,<-b]at c;clear j k p r a b;generalize Q10 aa bb=q at *;go_enter Tryz.func139,Tryz.ntmps139;go_wp2_with fail;refine c.out.mono ?_;rintro e v ⟨rfl,l⟩;have s:=Q02 l;clear l c;go_wp2;go_ret;exact⟨rfl,s.out⟩
theorem QcX (R T:Option Addr) (c B O c2:Nat) (R1 R2:List (List (List Int))) (w:World) (f:c=R1.length) (g:B=R2.length) (E:RiR 0 w.heap.size w (.slice R c O) R1) (h2:RiR 0 w.heap.size w (.slice T B c2) R2) (l1:c<=1048576) (I:∀i,i < R1.length->(R1.getD i []).length<=1048576) (L:∀i,i < R1.length->∀j,j < (R1.getD i []).length->((R1.getD i []).getD j []).length<=1048576) (J:∀i,i < R2.length->(R2.getD i []).length<=1048576) (M:∀i,i < R2.length->∀j,j < (R2.getD i []).length->((R2.getD i []).getD j []).length<=1048576):
  Calls Tryz.prog 138 #[.slice R c O,.slice T B c2,.func (Fn.func 139) #[] #[]] w fun e w'=>e=.returned (.bool (Q1d R1 R2))/\Below w.heap.size w w':=by
 have eS:∀args w,(callFunc 139 args).run Tryz.prog w=.ok (.enter 139 args) w:=enters_of Tryz.func139 (by kernel_rfl) rfl
 have m:=Q02 f;have u:=Q02 g;have Z:=Q02 E;have H2:=Q02 h2;have X1:=Q02 I;have Y1:=Q02 L;have X2:=Q02 J;have Y2:=Q02 M
 by_cases hlen:c=B
 ·subst hlen
  clear f g E h2 I L J M;go_enter Tryz.func138,Tryz.ntmps138;go_wp2
  go_loopw [6,17] (fun rv i wr=> ∃k:Nat,k<=c/\i=.int .i64 (k:Int)/\rv=.bool false/\Hid (∀q,q < k->Q10 (R1.getD q []) (R2.getD q [])=0)/\Hid (Below w.heap.size w wr))
   (fun _ i _=>c - (intOf i).toNat)
  case atStart=>exact⟨0,Kcq _,rfl,rfl,fun q h=>absurd h (KMq _),KBq⟩
  case round=>
   rename World=>wr
   obtain⟨k,hk,rfl,rfl,N,a⟩:=hrel
   by_cases hlt:k < c
   ·have P:(k:Int) < (c:Int):=by omega
    have d:k < R1.length:=by rw[<-m.out];exact hlt
    have p:k < R2.length:=by rw[<-u.out];exact hlt
    obtain⟨g1,f1,u1,rfl,F,x,X⟩:=RiRows.atS Z.out (Kaq _) k d;obtain⟨g2,f2,u2,rfl,G,y,Y⟩:=RiRows.atS H2.out (Kaq _) k p;obtain⟨o3,c3,rfl,U⟩:=RiT.rd X;obtain⟨o4,c4,rfl,V⟩:=RiT.rd Y;replace x:=bC7 a.out x F;replace y:=bC7 a.out y G;obtain⟨m1,r⟩:∃n,(R1.getD k []).length=n:=⟨_,rfl⟩;obtain⟨m2,s⟩:∃n,(R2.getD k []).length=n:=⟨_,rfl⟩;rw[r]at x;rw[s]at y
    have b:=Q02 (Q9y o3 o4 c3 c4 m1 m2 (R1.getD k []) (R2.getD k []) wr r.symm s.symm ((U.kept a.out (Kaq _)).le a.out.size) ((V.kept a.out (Kaq _)).le a.out.size) (X1.out k d) (X2.out k p) (Y1.out k d) (Y2.out k p));have v:=Q02 (fun h=>Q6o (R1:=R1) (R2:=R2) d h);have D:=N;clear X Y U V r s;obtain⟨q,A⟩:∃q,Q10 (R1.getD k []) (R2.getD k [])=q:=⟨_,rfl⟩;rw[A]at b v;have HQ:=Q02 A;clear A
    by_cases h0:q=0
    ·subst h0
     go_wp2_with fail;refine b.out.mono ?_;rintro e v1 ⟨rfl,z⟩;have l:=Q02 (a.out.trans (z.mono a.out.size))
     have C:Hid (∀q,q < k+1->Q10 (R1.getD q []) (R2.getD q [])=0):=fun q A=>by
      rcases Nat.lt_succ_iff_lt_or_eq.1 A with h|h
      ·exact D.out q h
      ·rw[h];exact HQ.out
     clear z b x y;go_wp2;go_roundw
     case rel=>exact⟨k+1,by omega,by go_num,rfl,C.out,l.out⟩
     case measure=>simp[intOf];omega
    ·have t:=Q02 (v.out h0)
     have H:(q==0)=false:=by simpa using h0
     rw[H]at b;go_wp2_with fail;refine b.out.mono ?_;rintro e v1 ⟨rfl,z⟩;have l:=Q02 (a.out.trans (z.mono a.out.size));clear z b x y;go_wp2;go_ret;exact⟨Q08 t.out.symm,l.out⟩
   ·have e:k=c:=by omega
    subst e;have t:Hid (Q1d R1 R2=true):=Q3Z (by rw[<-m.out,<-u.out]) (fun i hi=>N.out i (by rw[m.out];exact hi));go_wp2;go_ret;exact⟨Q08 t.out.symm,a.out⟩
 ·have t:Hid (Q1d R1 R2=false):=Q5p (by rw[<-f,<-g];exact hlen)
  have aa:¬((c:Int)=(B:Int)):=by omega
  clear f g hlen E h2 I L J M;go_enter Tryz.func138,Tryz.ntmps138;go_wp2;go_ret;exact⟨Q08 t.out.symm,KBq⟩
def QdI (S:Nat->Nat):Nat->Nat
 |0=> 0
 |n+1=>QdI S n+S n
theorem Q55 (S:Nat->Nat) (m:Nat) (h:∀i,S i<=m):∀n,QdI S n<=m * n
 |0=>Kcq _
 |n+1=>by have:=Q55 S m h n;have:=h n;unfold QdI;rw[Nat.mul_succ];omega
def Qih (ll:List (List Int)) (i:Nat):Nat:=(ll.getD i []).length
def szT (ll:List (List Int)):Nat:=QdI (Qih ll) ll.length
def Qbu (lll:List (List (List Int))) (i:Nat):Nat:=szT (lll.getD i [])
def szR (lll:List (List (List Int))):Nat:=QdI (Qbu lll) lll.length
def QfS (key:Int) (l:List Bk):Nat:=if Q1D key=true/\Q0b l=true then 8 else 0
theorem Q8M {wr:World} {base g:Nat} {hs:List Hd} {k n:Nat} {o:Option Addr} {m c:Nat} (j:k < n) (i:hs.length=k) (h:wr.ownsRow base 47 1 (.slice (some ⟨g,0,none⟩) n n) n ((hs++List.replicate (n - k) Q0E.d).flatMap Q0E.cs)):
  (wr.setCell ⟨g,k,none⟩ (.slice o m c)).ownsRow base 47 1 (.slice (some ⟨g,0,none⟩) n n) n (((hs++[(o,m,c)])++List.replicate (n - (k+1)) Q0E.d).flatMap Q0E.cs):=by
 have b:=(h.stored k (.slice o m c)).1;rw[QaK Q0E rfl (a:=(o,m,c)) rfl]at b
 have f:n - k=(n - (k+1))+1:=by omega
 rw[f,List.replicate_succ,List.set_append_right _ _ (by omega),i,Nat.sub_self,List.set_cons_zero]at b;rw[List.append_assoc];exact b
theorem Q78 (key:Int) (o:Option Addr) (cap:Nat) (l:List Bk) (w:World) (L:RdK w.heap.size w o l) (z:l.length<=1048576):
  Calls Tryz.prog 163 #[.int .i64 key,.slice o l.length cap] w fun e w'=> ∃v,e=.returned v/\OwnT w' w.heap.size v (QfS key l) (fun b=>Q14 key b l)/\Below w.heap.size w w':=by
 have a:=fun w=>Q0T key w
 have j:=Q2Q o cap l w L z
 by_cases hk:Q1D key=true
 ·rw[hk]at a
  by_cases hl:Q0b l=true
  ·rw[hl]at j
   have E:=Q02 (show QfS key l=8 by rw[QfS,if_pos ⟨hk,hl⟩]);have HP:=Q02 (fun (b:Nat) W h=>Q8q key b o cap l W h z);obtain⟨i0,hi,U,V,X⟩:=info_parts Q6W;go_enter Tryz.func163,Tryz.ntmps163;go_wp2_with (first|(go_at_call 115;refine(a _).mono ?_;rintro e w1 ⟨rfl,rfl⟩)|(go_at_call 175;refine j.mono ?_;rintro e r ⟨rfl,g⟩)|(at_make;refine wpList_make_full _ rfl _ _ 51 rfl r.heap.size 47 i0 (.slice none 0 0) 1 Tryz.underlying51 hi U V _ _ _ _ 8 rfl rfl rfl rfl ?b2 ?b3 ?b4 ?_))
   case b2=>rw[X];omega
   case b3=>unfold maxLen;omega
   case b4=>simp
   intro Z A n;have H:Below r.heap.size r Z:=KBq.grown n (Kaq _) (fun k h=>by cases h);have C:Below w.heap.size w Z:=g.trans (H.mono g.size);have J:w.heap.size<=r.heap.size:=g.size
   have D:Z.ownsRow w.heap.size 47 1 (.slice (some ⟨r.heap.size,0,none⟩) 8 8) 8 ((([]:List Hd)++List.replicate (8 - 0) Q0E.d).flatMap Q0E.cs):=by
    rw[List.nil_append,Nat.sub_zero,<-Q3B Q0E (.slice none 0 0) rfl,show Q0E.k=1 from rfl,Nat.mul_one];exact Q04 A J
   clear A n H j g;go_wp2
   go_loopw [18] (fun iv wr=> ∃(k:Nat) (hs:List Hd),k<=8/\iv=.int .i64 k/\wr.ownsRow w.heap.size 47 1 (.slice (some ⟨r.heap.size,0,none⟩) 8 8) 8 ((hs++List.replicate (8 - k) Q0E.d).flatMap Q0E.cs)/\Tab (fun b=>Q14 key b l) k wr w.heap.size hs/\Below w.heap.size w wr)
    (fun iv _=> 8 - (intOf iv).toNat)
   case atStart=>exact⟨0,[],Kcq _,rfl,D,Tab.nil _ _ _,C⟩
   case round=>
    obtain⟨k,hs,ab,rfl,t,x,f⟩:=hrel
    by_cases hlt:k < 8
    ·have hp:=HP.out k wr ((L.kept f (Kaq _)).le f.size)
     have N:=Q02 t;have B:=Q02 x;have F:=Q02 f
     have z1:(k:Int) < 8:=by omega
     have HR:=Q02 L;clear t x f D C L;go_wp2_with fail;refine hp.mono ?_;rintro e w4 ⟨v4,rfl,y,s⟩;obtain⟨Y,R,e4,_⟩:=y.open;rw[e4]at y ⊢;have i:=Q02 (Q03 N.out s)
     have T:((hs++List.replicate (8 - k) Q0E.d).flatMap Q0E.cs).length=8:=by rw[Q0l,List.length_append,List.length_replicate,B.out.len,show Q0E.k=1 from rfl];omega
     have I:=i.out.cellAt k (by omega);have aa:=i.out.frozenAt k;obtain⟨u,hu⟩:∃u,w4.cell? ⟨r.heap.size,k,none⟩=some u:=⟨_,I.trans (KGq (by omega))⟩;have O:=Q02 (Q8M (o:=Y) (m:=(Q14 key k l).length) (c:=R) hlt B.out.len i.out);have G:=(B.out.kept s).snoc B.out.lt F.out.size y;have P:=Q02 (G.other i.out QgY (i.out.stored k (.slice Y (Q14 key k l).length R)).2);have M:=Q02 ((F.out.trans (s.mono F.out.size)).setCell (p:=⟨r.heap.size,k,none⟩) J (.slice Y (Q14 key k l).length R));clear y s I G e4 hp T
     generalize (Q14 key k l).length=q at *;go_wp2;go_roundw
     case rel=>exact⟨k+1,_,by omega,by go_num,O.out,P.out,M.out⟩
     case measure=>simp[intOf];omega
    ·have e:k=8:=by omega
     subst e;have N:=Q02 t;have B:=Q02 x;have F:=Q02 f;clear t x f D C;go_wp2;go_ret;refine⟨_,rfl,.inr ⟨r.heap.size,hs,by rw[E.out];rfl, ?_,by rw[E.out];exact B.out⟩,F.out⟩;have h1:=N.out;rw[Nat.sub_self,List.replicate_zero,List.append_nil]at h1;unfold ownL;rw[B.out.len];exact h1
  ·rw[Bool.eq_false_iff.2 hl]at j
   have E:=Q02 (show QfS key l=0 by rw[QfS,if_neg (fun q=>hl q.2)]);go_enter Tryz.func163,Tryz.ntmps163;go_wp2_with (first|(go_at_call 115;refine(a _).mono ?_;rintro e w1 ⟨rfl,rfl⟩)|(go_at_call 175;refine j.mono ?_;rintro e r ⟨rfl,g⟩));go_ret;exact⟨_,rfl,.inl ⟨rfl,E.out⟩,g⟩
 ·rw[Bool.eq_false_iff.2 hk]at a
  have E:=Q02 (show QfS key l=0 by rw[QfS,if_neg (fun q=>hk q.1)]);go_enter Tryz.func163,Tryz.ntmps163;go_wp2_with (first|(go_at_call 115;refine(a _).mono ?_;rintro e w1 ⟨rfl,rfl⟩));go_ret;exact⟨_,rfl,.inl ⟨rfl,E.out⟩,KBq⟩
end Go.Proofs.YtpneolgdghbinaaGreat
