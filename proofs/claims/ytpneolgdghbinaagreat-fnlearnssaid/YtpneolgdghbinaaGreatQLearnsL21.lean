/- Several texts in one: SContest, STwo, PairMath, SPair, SPair2, STab, RowsP, SBSame, LRing, STab2. -/
import Derived.Test.YtpneolgdghbinaaGreatQLearnsL17
import Derived.Test.YtpneolgdghbinaaGreatQLearnsL20
namespace Go.Proofs.YtpneolgdghbinaaGreat
open Go.ChangeShapes Go.WideShapes Go.ChangeAt Go.RowKit Go.Joins
set_option linter.unusedVariables false
set_option linter.unusedSimpArgs false
set_option maxRecDepth 100000
set_option maxHeartbeats 40000000
def scL (k b:Int) (l:List Bk):List Sc:=(l.filter (fun x=> !x.2.2)).map (fun x=> (x.1,Q2a k b x.1 x.2.1))
theorem Q5a (k b:Int) (l:List Bk) (x:Bk) (h:x.2.2=true):scL k b (l++[x])=scL k b l:=by simp [scL,h]
theorem Q4q (k b:Int) (l:List Bk) (x:Bk) (h:x.2.2=false):scL k b (l++[x])=scL k b l++[(x.1,Q2a k b x.1 x.2.1)]:=by simp [scL,h]
def Holds (lb ls:List Sc):Prop:=lb.length=ls.length∧(∀z,(∃i,i < lb.length∧lb.getD i (0,0)=z)↔z∈ls)∧Qj8 lb lb.length
theorem Qcf {l:List Sc} {z:Sc}:(∃i,i < l.length∧l.getD i (0,0)=z)↔z∈l:=by
 constructor
 ·rintro ⟨i,hi,rfl⟩
  rw [show l.getD i (0,0)=l[i] by simp [hi]];exact List.getElem_mem hi
 ·intro h
  obtain ⟨i,hi,e⟩:=List.getElem_of_mem h;exact ⟨i,hi,by simp [hi,e]⟩
theorem Holds.push {lb c d:List Sc} {x:Sc} (h:Holds lb d) (f:x∉d) (hs:Same (lb++[x]) c (lb.length+1)):Holds c (d++[x]):=by
 have g:(lb++[x]).length=lb.length+1:=by simp
 have a:c.length=lb.length+1:=hs.1.trans g;refine ⟨by rw [a,h.1];simp,fun z=> ?_, ?_⟩
 ·rw [a,hs.2.1 z,←g,Qcf,List.mem_append,List.mem_append,←h.2.1 z,Qcf]
 ·rw [a]
  refine hs.2.2 (fun i j hi k e=> ?_)
  rcases Nat.lt_or_ge i lb.length with b|b <;> rcases Nat.lt_or_ge j lb.length with h2|h2
  ·rw [Q17 b,Q17 h2] at e;exact h.2.2 i j b h2 e
  ·rw [Q17 b,show j=lb.length by omega,Q1Z] at e
   exact absurd ((h.2.1 x).1 ⟨i,b,e⟩) f
  ·rw [show i=lb.length by omega,Q1Z,Q17 h2] at e
   exact absurd ((h.2.1 x).1 ⟨j,h2,e.symm⟩) f
  ·omega
theorem Qbh {key b:Int} {l:List Bk} {z:Sc} (h:z∈scL key b l):∃i,i < l.length∧(l.getD i (0,0,false)).1=z.1:=by
 unfold scL at h;obtain ⟨x,a,e⟩:=List.mem_map.1 h;obtain ⟨i,hi,c⟩:=List.getElem_of_mem (List.mem_filter.1 a).1;exact ⟨i,hi,by rw [←e];simp [hi,c]⟩
theorem Q5C {l:List Bk} (h:Q0e l=true):∀j,j < l.length→∀i,i < j→(l.getD i (0,0,false)).1 < (l.getD j (0,0,false)).1:=fun j=> by
 induction j with
 |zero=> intro _ i hi;omega
 |succ j ih=>
  intro c i hi
  have b:(l.getD j (0,0,false)).1 < (l.getD (j+1) (0,0,false)).1:=by
   have:=Q1x.1 h (j+1) c;unfold QcI at this;simp only [Bool.and_eq_true,Bool.or_eq_true,decide_eq_true_eq,Nat.add_sub_cancel] at this
   rcases this.2 with a|a
   ·omega
   ·exact a
  rcases Nat.lt_or_ge i j with h2|h2
  ·exact Int.lt_trans (ih (by omega) i h2) b
  ·rw [show i=j by omega];exact b
theorem QiS {key b:Int} {l:List Bk} {j:Nat} {x y:Int} {z:Bool} {s:Int} (h:Q0e l=true) (d:j < l.length) (c:l.getD j (0,0,false)=(x,y,z)):(x,s)∉scL key b (l.take j):=fun hm=> by
 obtain ⟨i,hi,e⟩:=Qbh hm
 have a:i < j:=by simp at hi;omega
 have:=Q5C h j d i a;rw [c] at this;rw [show (l.take j).getD i (0,0,false)=l.getD i (0,0,false) by simp [List.getD_eq_getElem?_getD,List.getElem?_take,a]] at e;dsimp only at e this;omega
theorem BrdV.kept {k:Nat} {v:Value} {w w':World} {l:List Sc} (h:BrdV k v w l) (hb:Below w.heap.size w w'):BrdV k v w' l:=⟨(hb.block k h.lt).trans h.box,Q03 h.row hb⟩
theorem Qae {l:List Bk} {j:Nat} {x y:Int} {z:Bool} (c:Q0e l=true) (b:j < l.length) (a:l.getD j (0,0,false)=(x,y,z)):Q3X x y=true:=by
 have:=Q1x.1 c j b;unfold QcI at this;rw [a] at this;exact (Bool.and_eq_true_iff.1 this).1
theorem Q92 (key b:Int) (o:Option Addr) (cap:Nat) (l:List Bk) (w:World) (U:RdK w.heap.size w o l) (aa:l.length≤1000) (hk:Q1P key=true) (M:0≤b∧b < 8) (Z:Q0e l=true):
  Calls Tryz.prog 190 #[.int .i64 key,.int .i64 b,.slice o l.length cap] w fun e w'=> ∃k v lb,e=.returned (.iface 262 (.pointer (some ⟨k,0,none⟩)))∧BrdV k v w' lb∧HeapP lb lb.length∧okD lb∧Holds lb (scL key b l)∧w.heap.size≤k∧Below w.heap.size w w':=by
 go_enter Tryz.func190,Tryz.ntmps190;go_wp2
 go_loopw [13] (fun iv wr=> ∃(j:Nat) (v:Value) (lb:List Sc),iv=.int .i64 j∧j≤l.length∧BrdV w.heap.size v wr lb∧HeapP lb lb.length∧okD lb∧Holds lb (scL key b (l.take j))∧lb.length≤j∧Below w.heap.size w wr)
  (fun iv _=> l.length - (intOf iv).toNat)
 case atStart=>
  refine ⟨0,.slice none 0 0,[],rfl,Kcq _,⟨World.alloc_heap_new w _,World.ownsRow_nil _ _ _ _⟩,fun i h1 h2=> by simp at h2,fun i hi=> by simp at hi,⟨rfl,fun z=> by simp [scL],fun i j hi=> by simp at hi⟩,Kcq _,(Below.refl _ _).alloc (Kaq _) _⟩
 case round=>
  obtain ⟨j,v,lb,rfl,hj,E,V,X,f,ab,a⟩:=hrel
  by_cases hlt:j < l.length
  ·rcases U with U|⟨bb,off,rfl,r,h⟩
   ·subst U;simp at hlt
   obtain ⟨x,y,z,n⟩:∃x y z,l.getD j (0,0,false)=(x,y,z):=⟨_,_,_,rfl⟩;have q:=RdL.back (C:=w.heap.size) h j hlt;rw [n] at q;have T:=bKq0v0v0 a q.1 r;have J:=bKq0v0v0 a q.2.1 r;have P:=bKq0v0v0 a q.2.2 r;have g:=Q18 Q1d l j hlt;rw [show l.getD j Q1d.d=l.getD j (0,0,false) from rfl,n] at g;have t:=Qae Z hlt n;obtain ⟨i0,i1,g0,g1⟩:=Q5m.1 t;have m:=QiS (key:=key) (b:=b) (s:=Q2a key b x y) Z hlt n;clear h q n
   cases z with
   |true=>
    have I:=Q01 (show Holds lb (scL key b (l.take (j+1))) by rw [g,Q5a _ _ _ _ rfl];exact f);have HB:=Q01 E;have u:=Q01 a;clear g f E a m;go_wp2;go_roundw
    case rel=> exact ⟨j+1,v,lb,by go_num,by omega,HB.out.kept ((Below.refl _ _).alloc (Kaq _) _),V,X,I.out,by omega,u.out.alloc u.out.size _⟩
    case measure=> simp [intOf];omega
   |false=>
    have F:Q2f key b x y=Q2a key b x y:=by rw [Q2f,if_pos ⟨hk,M,t⟩]
    have N:=fun W=> F ▸ Q8X key b x y false W
    obtain ⟨p0,p1,p2⟩:=Qjh wr (.int .i64 x) (.int .i64 y) (.bool false) 119
    have hs:wr.heap.size < (wr.alloc (Obj.cells #[Value.int IntKind.i64 x,Value.int IntKind.i64 y,Value.bool false] 119)).heap.size:=by simp
    have G:BrdV w.heap.size v (wr.alloc (Obj.cells #[Value.int IntKind.i64 x,Value.int IntKind.i64 y,Value.bool false] 119)) lb:=E.kept ((Below.refl _ _).alloc (Kaq _) _);have D:Below w.heap.size w (wr.alloc (Obj.cells #[Value.int IntKind.i64 x,Value.int IntKind.i64 y,Value.bool false] 119)):=a.alloc a.size _;have I:=Q01 (fun l2 (h2:Same (lb++[(x,Q2a key b x y)]) l2 (lb.length+1))=> (show Holds l2 (scL key b (l.take (j+1))) by rw [g,Q4q _ _ _ _ rfl];exact f.push m h2))
    have HL:=Q01 (fun l2 (h2:Same (lb++[(x,Q2a key b x y)]) l2 (lb.length+1))=> (show l2.length≤j+1 by rw [h2.1];simp;omega));clear g f m;go_wp2_with fail;clear T J P;generalize (wr.alloc (Obj.cells #[Value.int IntKind.i64 x,Value.int IntKind.i64 y,Value.bool false] 119))=w0 at *;have H:=Q01 G;have B:=Q01 D;generalize hscg:Q2a key b x y=sc at *;clear G D E a hscg F
    go_region_with (first|(go_at_call 192;refine (N _).mono ?_;rintro e w1 ⟨rfl,c⟩;replace c:Below w0.heap.size w0 w1:=(Below.drew (Below.refl _ _)).trans c;have q0:=(c.cell (p:=⟨wr.heap.size,0,none⟩) hs).trans p0;have q1:=(c.cell (p:=⟨wr.heap.size,1,none⟩) hs).trans p1;have q2:=(c.cell (p:=⟨wr.heap.size,2,none⟩) hs).trans p2)|(go_at_call 152;refine (pushH_any w.heap.size v lb x sc w1 (H.out.kept c) X ⟨i0,by omega⟩ V (by omega)).mono ?_;rintro e w2 ⟨rfl,g2,c2,l2,R,Y,A,L,O⟩))
    all_goals (
     go_wp2;go_roundw
     case rel=> exact ⟨j+1,_,l2,by go_num,by omega,R.v,Y,L,I.out l2 A,HL.out l2 A,(B.out.trans (c.mono B.out.size)).trans O⟩
     case measure=> simp [intOf];omega)
  ·have e:j=l.length:=by omega
   subst e;rw [List.take_of_length_le (Kaq _)] at f;go_wp2;go_ret;exact ⟨_,v,lb,rfl,E,V,X,f,Kaq _,a⟩
theorem Q8O (o:Option Addr) (c C:Nat) (l:List Sc) (w:World) (d:RdL Q85 C w o l) (f:0 < l.length):
  Calls Tryz.prog 219 #[.slice o l.length c] w fun e i=> e=.returned (.int .i64 (l.getD 0 (0,0)).1)∧w=i:=by
 rcases d with d|⟨b,off,rfl,h,a⟩
 ·subst d;simp at f
 have g:=RdL.sc a 0 f;clear a;generalize l.getD 0 (0,0)=x at *;obtain ⟨m,k⟩:=x;simp only [Nat.zero_mul,Nat.add_zero] at g;obtain ⟨n,j⟩:=g
 have z:(0:Int) < (l.length:Int):=by omega
 go_enter Tryz.func219,Tryz.ntmps219;go_wp2;go_ret;exact ⟨rfl,rfl⟩
def Qgl (lb:List Sc) (p:List Int):Prop:=
 (lb=[]∧p=[])∨(lb.length=1∧p=[(lb.getD 0 (0,0)).1,(lb.getD 0 (0,0)).1])∨
 ∃l2,Qj0 lb l2∧HeapP l2 l2.length∧0 < l2.length∧p=[(lb.getD 0 (0,0)).1,(l2.getD 0 (0,0)).1]
theorem Q70 (w:World) (base:Nat) (x y:Int) (a:base≤w.heap.size):Qa6 (w.alloc (.cells #[.int .i64 x,.int .i64 y] 3)) base (.slice (some ⟨w.heap.size,0,none⟩) 2 2) [x,y]:=by
 have:=World.ownsRow_lit (base:=base) (e:=3) (size:=1) w #[.int .i64 x,.int .i64 y] 2 a (by unfold maxLen;omega) rfl;exact this
theorem Qc2 (k:Nat) (v:Value) (lb:List Sc) (w:World) (q:BrdV k v w lb) (T:HeapP lb lb.length) (U:okD lb) (H:lb.length≤1000):
  Calls Tryz.prog 189 #[.iface 262 (.pointer (some ⟨k,0,none⟩))] w fun e L=> ∃v' p,e=.returned v'∧Qgl lb p∧Qa6 L k v' p∧Below k w L:=by
 have Z:∀args w,(callFunc 214 args).run Tryz.prog w=.ok (.enter 214 args) w:=enters_of Tryz.func214 (by kernel_rfl) rfl
 have eB:∀args w,(callFunc 219 args).run Tryz.prog w=.ok (.enter 219 args) w:=enters_of Tryz.func219 (by kernel_rfl) rfl
 obtain ⟨o,c,rfl⟩:=q.slice;have F:=q.cell;have M:=Q0r Q56 F;have G:=q.lt
 by_cases h0:lb.length=0
 ·have e:lb=[]:=List.eq_nil_of_length_eq_zero h0
  subst e;simp only [List.length_nil] at M;go_enter Tryz.func189,Tryz.ntmps189;go_wp2_with (first|(go_at_call 214;refine (Q3A _ _ _ _).mono ?_;rintro e t ⟨rfl,rfl⟩));go_ret;exact ⟨_,[],rfl,.inl ⟨rfl,rfl⟩,World.ownsRow_nil _ _ _ _,Below.refl _ _⟩
 ·have m:0 < lb.length:=by omega
  have R:((lb.length:Int)==0)=false:=by rw [beq_eq_false_iff_ne];omega
  have N:=Q01 h0;obtain ⟨g,Y,I⟩:=ownsRow_form q.row m;simp only [Value.slice.injEq] at I;obtain ⟨rfl,_,rfl⟩:=I;have z:Brd k g c w lb:=⟨q.box,q.row⟩;have u:=z.row.rd;obtain ⟨n,J⟩:∃n,n+1=lb.length:=⟨lb.length - 1,by omega⟩;have l:=popH_any k g c lb n w z J U T (by omega);have a:=Q8O (some ⟨g,0,none⟩) c w.heap.size lb w u m;generalize hfst:(lb.getD 0 (0,0)).1=fst at a;have y:=Q01 hfst;clear h0 J hfst;go_enter Tryz.func189,Tryz.ntmps189;go_wp2_with (first|(go_at_call 214;refine (Q3A _ _ _ _).mono ?_;rintro e t ⟨rfl,rfl⟩));rw [Q0r (f:=219) ?hm F]
  case hm=> kernel_rfl
  go_wp2_with (first|(go_at_call 219;refine a.mono ?_;rintro e t ⟨rfl,rfl⟩));refine l.mono ?_;rintro e x ⟨⟨X,rfl⟩,l2,i,r,d,s,h⟩;have V:=i.v.lt
  have O:l2.length≤1000:=by have:=d.1;omega
  have B:=Q0r Q56 i.cell;clear M l a u q z F
  by_cases h2:l2.length=0
  ·have e:l2=[]:=List.eq_nil_of_length_eq_zero h2
   subst e;simp only [List.length_nil] at B;have D:Hid (Qgl lb [fst,fst]):=.inr (.inl ⟨by have:=d.1;simpa using this.symm,by rw [y.out]⟩);have A:=Q01 (Q70 x k fst fst (by omega));have E:=Q01 h;clear d r s h y;go_wp2_with (first|(go_at_call 214;refine (Q3A _ _ _ _).mono ?_;rintro e t ⟨rfl,rfl⟩));go_ret;exact ⟨_,[fst,fst],rfl,D.out,A.out,E.out.alloc (by omega) _⟩
  ·have b:0 < l2.length:=by omega
   have P:((l2.length:Int)==0)=false:=by rw [beq_eq_false_iff_ne];omega
   have C:=i.cell;have j:=Q8O (some ⟨g,0,none⟩) c x.heap.size l2 x i.row.rd b;have D:Hid (Qgl lb [fst,(l2.getD 0 (0,0)).1]):=.inr (.inr ⟨l2,d,r,b,by rw [y.out]⟩);generalize (l2.getD 0 (0,0)).1=snd at *;have A:=Q01 (Q70 x k fst snd (by omega));have E:=Q01 h;clear d r s h y h2;go_wp2_with (first|(go_at_call 214;refine (Q3A _ _ _ _).mono ?_;rintro e t ⟨rfl,rfl⟩));rw [Q0r (f:=219) ?hm2 C]
   case hm2=> kernel_rfl
   go_wp2_with (first|(go_at_call 219;refine j.mono ?_;rintro e t ⟨rfl,rfl⟩));go_ret;exact ⟨_,[fst,snd],rfl,D.out,A.out,E.out.alloc (by omega) _⟩
def Q1c (p:Option Sc × Option Sc) (x:Sc):Option Sc × Option Sc:=
 match p with
 |(none,t)=> (some x,none)
 |(some o,t)=> if o.2 < x.2 then (some x,some o) else
  match t with
  |none=> (some o,some x)
  |some u=> if u.2 < x.2 then (some o,some x) else (some o,some u)
def Q5T (l:List Sc):Option Sc × Option Sc:=l.foldl Q1c (none,none)
theorem Qa0 (l:List Sc) (x:Sc):Q5T (l++[x])=Q1c (Q5T l) x:=by simp [Q5T]
def Q8i (p:Option Sc × Option Sc):List Int:=
 match p with
 |(none,_)=> []
 |(some o,none)=> [o.1,o.1]
 |(some o,some t)=> [o.1,t.1]
def Qiq (l:List Sc) (p:Option Sc × Option Sc):Prop:=
 match p with
 |(none,t)=> l=[]∧t=none
 |(some o,none)=> l=[o]
 |(some o,some t)=> o∈l∧t∈l∧t≠o∧(∀z∈l,Q4i o≤Q4i z)∧(∀z∈l,z≠o→Q4i t≤Q4i z)
theorem Qbd {o x:Sc} (ho:okS o) (hx:okS x) (h:o.2 < x.2):Q4i x < Q4i o:=by unfold Q4i okS at *;omega
theorem Qc3 {o x:Sc} (ho:okS o) (hx:okS x) (hid:o.1 < x.1) (h:¬o.2 < x.2):Q4i o < Q4i x:=by unfold Q4i okS at *;omega
theorem Qcy {a b:Sc} (k:okS a) (j:okS b) (h:Q4i a=Q4i b):a=b:=by
 obtain ⟨g,d⟩:=a;obtain ⟨f,c⟩:=b;unfold Q4i okS at *;dsimp only at *
 have i:d=c:=by omega
 have h2:g=f:=by omega
 rw [i,h2]
theorem Qfb {l:List Sc} {p:Option Sc × Option Sc} {x:Sc} (h:Qiq l p) (i:∀z∈l,okS z) (m:okS x) (g:∀z∈l,z.1 < x.1):Qiq (l++[x]) (Q1c p x):=by
 have f:∀z∈l,z≠x:=fun z a e=> by have:=g z a;rw [e] at this;omega
 obtain ⟨A,w⟩:=p
 cases A with
 |none=>
  obtain ⟨u,h2⟩:l=[]∧w=none:=h;subst u h2
  rfl
 |some o=>
  cases w with
  |none=>
   have u:l=[o]:=h;subst u;have n:=i o (by simp);have oi:=g o (by simp);unfold Q1c
   by_cases hlt:o.2 < x.2
   ·simp only [if_pos hlt]
    have:=Qbd n m hlt;refine ⟨by simp,by simp,fun e=> f o (by simp) e,fun z a=> ?_,fun z a k=> ?_⟩
    ·simp at a;rcases a with e|e <;> subst e <;> omega
    ·simp at a;rcases a with e|e
     ·subst e;omega
     ·exact absurd e k
   ·simp only [if_neg hlt]
    have:=Qc3 n m oi hlt;refine ⟨by simp,by simp,fun e=> f o (by simp) e.symm,fun z a=> ?_,fun z a d=> ?_⟩
    ·simp at a;rcases a with e|e <;> subst e <;> omega
    ·simp at a;rcases a with e|e
     ·exact absurd e d
     ·subst e;omega
  |some t=>
   obtain ⟨j,r,q,b,c⟩:o∈l∧t∈l∧t≠o∧(∀z∈l,Q4i o≤Q4i z)∧(∀z∈l,z≠o→Q4i t≤Q4i z):=h;have n:=i o j;have v:=i t r;have oi:=g o j;have y:=g t r;unfold Q1c
   by_cases hlt:o.2 < x.2
   ·simp only [if_pos hlt]
    have B:=Qbd n m hlt;refine ⟨by simp,List.mem_append.2 (.inl j),f o j,fun z a=> ?_,fun z a k=> ?_⟩
    ·rcases List.mem_append.1 a with a|a
     ·have:=b z a;omega
     ·simp at a;subst a;omega
    ·rcases List.mem_append.1 a with a|a
     ·exact b z a
     ·simp at a;exact absurd a k
   ·simp only [if_neg hlt]
    have B:=Qc3 n m oi hlt
    by_cases hlt2:t.2 < x.2
    ·simp only [if_pos hlt2]
     have s:=Qbd v m hlt2;refine ⟨List.mem_append.2 (.inl j),by simp,fun e=> f o j e.symm,fun z a=> ?_,fun z a d=> ?_⟩
     ·rcases List.mem_append.1 a with a|a
      ·exact b z a
      ·simp at a;subst a;omega
     ·rcases List.mem_append.1 a with a|a
      ·have:=c z a d;omega
      ·simp at a;subst a;omega
    ·simp only [if_neg hlt2]
     have s:=Qc3 v m y hlt2;refine ⟨List.mem_append.2 (.inl j),List.mem_append.2 (.inl r),q,fun z a=> ?_,fun z a d=> ?_⟩
     ·rcases List.mem_append.1 a with a|a
      ·exact b z a
      ·simp at a;subst a;omega
     ·rcases List.mem_append.1 a with a|a
      ·exact c z a d
      ·simp at a;subst a;omega
theorem QgM {lb a:List Sc} {p:Option Sc × Option Sc} {q:List Int} (c:Qiq a p) (b:∀z∈a,okS z) (u:Holds lb a) (V:HeapP lb lb.length) (T:Qgl lb q):q=Q8i p:=by
 have hm:=u.2.1;obtain ⟨E,H⟩:=p
 rcases T with ⟨s,h2⟩|⟨s,h2⟩|⟨l2,B,G,m,h2⟩
 ·subst s h2
  have:a=[]:=List.eq_nil_of_length_eq_zero u.1.symm;subst this
  cases E with
  |none=> rfl
  |some o=>
   cases H with
   |none=> cases (c:[]=[o])
   |some t=> exact absurd c.1 (by simp)
 ·obtain ⟨o,w⟩:∃o,a=[o]:=List.length_eq_one_iff.1 (u.1.symm.trans s)
  subst w
  have v:lb.getD 0 (0,0)=o:=by
   have:=(hm (lb.getD 0 (0,0))).1 ⟨0,by omega,rfl⟩
   simpa using this
  rw [h2,v]
  cases E with
  |none=> cases (c.1:[o]=[])
  |some o'=>
   cases H with
   |none=> have:[o]=[o']:=c;simp at this;subst this;rfl
   |some t=>
    obtain ⟨O,I,J,_⟩:o'∈[o]∧t∈[o]∧t≠o'∧_:=c;simp at O I;rw [O,I] at J;exact absurd rfl J
 ·have U:=B.1
  have R:=u.2.2;have j:lb.getD 0 (0,0)∈a:=(hm _).1 ⟨0,by omega,rfl⟩
  have A:∀z∈a,Q4i (lb.getD 0 (0,0))≤Q4i z:=fun z F=> by
   obtain ⟨i,hi,e⟩:=(hm z).2 F;have:=heap_top V i hi;unfold fr at this;rw [e] at this;exact this
  obtain ⟨L,M,f,r⟩:=(B.2 (l2.getD 0 (0,0))).1 ⟨0,m,rfl⟩;have l:l2.getD 0 (0,0)∈a:=(hm _).1 ⟨L,f,r⟩
  have g:l2.getD 0 (0,0)≠lb.getD 0 (0,0):=fun e=> by
   have:=R L 0 f (by omega) (r.trans e);omega
  have d:∀z∈a,z≠lb.getD 0 (0,0)→Q4i (l2.getD 0 (0,0))≤Q4i z:=fun z F C=> by
   obtain ⟨i,hi,e⟩:=(hm z).2 F
   have y:1≤i:=by
    rcases Nat.eq_zero_or_pos i with h|h
    ·subst h;exact absurd e.symm C
    ·exact h
   obtain ⟨X,D,P⟩:=(B.2 z).2 ⟨i,y,hi,e⟩;have:=heap_top G X D;unfold fr at this;rw [P] at this;exact this
  cases E with
  |none=> have:a=[]:=c.1;rw [this] at j;cases j
  |some o=>
   cases H with
   |none=>
    have s:a=[o]:=c;rw [s] at j l;simp at j l;exact absurd (l.trans j.symm) g
   |some t=>
    obtain ⟨w,N,x,n,k⟩:o∈a∧t∈a∧t≠o∧(∀z∈a,Q4i o≤Q4i z)∧(∀z∈a,z≠o→Q4i t≤Q4i z):=c;have v:lb.getD 0 (0,0)=o:=Qcy (b _ j) (b o w) (Int.le_antisymm (A o w) (n _ j));rw [v] at g d;have Y:l2.getD 0 (0,0)=t:=Qcy (b _ l) (b t N) (Int.le_antisymm (d t N x) (k _ l g));rw [h2,v,Y]
    rfl
def QcE (key b:Int) (x:Bk):Sc:=(x.1,Q2a key b x.1 x.2.1)
def QfI (key b:Int) (l:List Bk) (v:Int) (q:Option Sc):Prop:=(v= -1∧q=none)∨∃k:Nat,v=(k:Int)∧k < l.length∧q=some (QcE key b (l.getD k (0,0,false)))
theorem QfY {key b:Int} {l:List Bk} {j:Nat} {x y:Int} (f:j < l.length) (c:l.getD j (0,0,false)=(x,y,false)):Q5T (scL key b (l.take (j+1)))=Q1c (Q5T (scL key b (l.take j))) (QcE key b (x,y,false)):=by
 have a:=Q18 Q1d l j f;rw [show l.getD j Q1d.d=l.getD j (0,0,false) from rfl,c] at a;rw [a,Q4q _ _ _ _ rfl,Qa0];rfl
theorem QfD {key b:Int} {l:List Bk} {j:Nat} {x y:Int} (f:j < l.length) (c:l.getD j (0,0,false)=(x,y,true)):Q5T (scL key b (l.take (j+1)))=Q5T (scL key b (l.take j)):=by
 have a:=Q18 Q1d l j f;rw [show l.getD j Q1d.d=l.getD j (0,0,false) from rfl,c] at a;rw [a,Q5a _ _ _ _ rfl]
theorem Q4C {l:List Bk} (h:Q0e l=true) {k:Nat} (hk:k < l.length) {x y:Int} {z:Bool} (hxy:l.getD k (0,0,false)=(x,y,z)):0≤x∧x < 6∧1≤y∧y≤100:=Q5m.1 (Qae h hk hxy)
theorem Qdr (key b:Int) (o:Option Addr) (cap:Nat) (l:List Bk) (w:World) (hR:RdK w.heap.size w o l) (al:l.length≤1000) (hk:Q1P key=true) (ac:0≤b∧b < 8) (hl:Q0e l=true):
  Calls Tryz.prog 150 #[.int .i64 key,.int .i64 b,.slice o l.length cap] w fun e w'=> ∃v,e=.returned v∧Qa6 w' w.heap.size v (Q8i (Q5T (scL key b l)))∧Below w.heap.size w w':=by
 obtain ⟨ak,aj⟩:=Q3g.1 hk
 have ad:=fun k (hk:k < l.length) x y z (m:l.getD k (0,0,false)=(x,y,z)) W=> have h:=Q4C hl hk m;Qbl key b x y z W ak aj ac.1 ac.2 h.1 h.2.1 (by omega) h.2.2.2
 have aa:=Q01 ad;clear ad;go_enter Tryz.func150,Tryz.ntmps150;go_wp2
 go_loopw [7,8,9] (fun one two iv wr=> ∃(j:Nat) (v1 v2:Int),iv=.int .i64 j∧one=.int .i64 v1∧two=.int .i64 v2∧j≤l.length∧QfI key b l v1 (Q5T (scL key b (l.take j))).1∧QfI key b l v2 (Q5T (scL key b (l.take j))).2∧Below w.heap.size w wr)
  (fun _ _ iv _=> l.length - (intOf iv).toNat)
 case atStart=> exact ⟨0, -1, -1,rfl,rfl,rfl,Kcq _,.inl ⟨rfl,by simp [scL,Q5T]⟩,.inl ⟨rfl,by simp [scL,Q5T]⟩,Below.refl _ _⟩
 case round=>
  obtain ⟨j,v1,v2,rfl,rfl,rfl,hj,D,i,f⟩:=hrel
  by_cases hlt:j < l.length
  ·rcases hR with hR|⟨bb,off,rfl,E,a⟩
   ·subst hR;simp at hlt
   have HC:=Q01 (fun k (hk:k < l.length) W (hW:Below w.heap.size w W)=> have h:=RdL.back (C:=w.heap.size) a k hk;(show W.cell? ⟨bb,off+k * 3,none⟩=some (.int .i64 (l.getD k (0,0,false)).1)∧W.cell? ⟨bb,off+k * 3+1,none⟩=some (.int .i64 (l.getD k (0,0,false)).2.1)∧W.cell? ⟨bb,off+k * 3+2,none⟩=some (.bool (l.getD k (0,0,false)).2.2) from ⟨(hW.cell (p:=⟨bb,off+k * 3,none⟩) E).trans h.1,(hW.cell (p:=⟨bb,off+k * 3+1,none⟩) E).trans h.2.1,(hW.cell (p:=⟨bb,off+k * 3+2,none⟩) E).trans h.2.2⟩));clear a;have ab:=HC.out j hlt wr f
   obtain ⟨x,y,z,m⟩:∃x y z,l.getD j (0,0,false)=(x,y,z):=⟨_,_,_,rfl⟩;rw [m] at ab;dsimp only at ab;obtain ⟨c0,c1,c2⟩:=ab
   have z1:(j:Int) < (l.length:Int):=by omega
   cases z with
   |true=>
    have s:=Q01 (QfD (key:=key) (b:=b) hlt m);have G:=Q01 f;have H1:=Q01 D;have H2:=Q01 i;clear m f D i;go_wp2;go_roundw
    case rel=> exact ⟨j+1,v1,v2,by go_num,rfl,rfl,by omega,by rw [s.out];exact H1.out,by rw [s.out];exact H2.out,G.out⟩
    case measure=> simp [intOf];omega
   |false=>
    have s:=Q01 (QfY (key:=key) (b:=b) hlt m);have N:=aa.out j hlt x y false m;have HJ:Hid (QfI key b l (j:Int) (some (QcE key b (x,y,false)))):=.inr ⟨j,rfl,hlt,by rw [m]⟩;generalize hg:QcE key b (x,y,false)=sx at *;obtain ⟨u,sc⟩:=sx
    have T:Q2a key b x y=sc:=by simp [QcE] at hg;exact hg.2
    rw [T] at N;have G:=Q01 f;clear m f hg T;generalize Q5T (scL key b (l.take j))=pp at *;obtain ⟨p1,p2⟩:=pp;dsimp only at D i
    rcases D with ⟨rfl,rfl⟩|⟨c,rfl,g,rfl⟩
    ·go_wp2_with fail
     refine (N wr).mono ?_;rintro e w1 ⟨rfl,I⟩;have H:=Q01 (G.out.trans (I.mono G.out.size));clear c0 c1 c2 N I i;go_wp2;go_roundw
     case rel=> exact ⟨j+1,j, -1,by go_num,rfl,rfl,by omega,by rw [s.out];exact HJ.out,by rw [s.out];exact .inl ⟨rfl,rfl⟩,H.out⟩
     case measure=> simp [intOf];omega
    ·obtain ⟨x1,y1,t1,B⟩:∃x y z,l.getD c (0,0,false)=(x,y,z):=⟨_,_,_,rfl⟩
     have V:=aa.out c g x1 y1 t1 B;have t:Hid (QfI key b l (c:Int) (some (QcE key b (x1,y1,t1)))):=.inr ⟨c,rfl,g,by rw [B]⟩;have O:=HC.out c g;rw [B] at s O;dsimp only at O;generalize hg1:QcE key b (x1,y1,t1)=s1 at *;obtain ⟨n,d⟩:=s1
     have R:Q2a key b x1 y1=d:=by simp [QcE] at hg1;exact hg1.2
     rw [R] at V
     have z2:(c:Int) < (l.length:Int):=by omega
     have z3:¬((c:Int) < 0):=by omega
     have ah:=Q01 O;clear B hg1 R O;go_wp2_with fail;refine (N wr).mono ?_;rintro e w1 ⟨rfl,I⟩;have H:=Q01 (G.out.trans (I.mono G.out.size));obtain ⟨d0,d1,d2⟩:=ah.out w1 H.out;clear c0 c1 c2 N I;go_wp2_with fail;refine (V w1).mono ?_;rintro e w2 ⟨rfl,ag⟩;have J:=Q01 (H.out.trans (ag.mono H.out.size));clear d0 d1 d2 V ag
     by_cases hgt:d < sc
     ·have M:Hid (Q1c (some (n,d),p2) (u,sc)=(some (u,sc),some (n,d))):=by simp [Q1c,hgt,Hid]
      clear i;go_wp2;go_roundw
      case rel=> exact ⟨j+1,j,c,by go_num,rfl,rfl,by omega,by rw [s.out,M.out];exact HJ.out,by rw [s.out,M.out];exact t.out,J.out⟩
      case measure=> simp [intOf];omega
     ·rcases i with ⟨rfl,rfl⟩|⟨r,rfl,q,rfl⟩
      ·have M:Hid (Q1c (some (n,d),none) (u,sc)=(some (n,d),some (u,sc))):=by simp [Q1c,hgt,Hid]
       go_wp2;go_roundw
       case rel=> exact ⟨j+1,c,j,by go_num,rfl,rfl,by omega,by rw [s.out,M.out];exact t.out,by rw [s.out,M.out];exact HJ.out,J.out⟩
       case measure=> simp [intOf];omega
      ·obtain ⟨x2,y2,t2,A⟩:∃x y z,l.getD r (0,0,false)=(x,y,z):=⟨_,_,_,rfl⟩
       have Y:=aa.out r q x2 y2 t2 A;have ai:Hid (QfI key b l (r:Int) (some (QcE key b (x2,y2,t2)))):=.inr ⟨r,rfl,q,by rw [A]⟩;have P:=HC.out r q;rw [A] at s P;dsimp only at P;generalize hg2:QcE key b (x2,y2,t2)=s2 at *;obtain ⟨Z,F⟩:=s2
       have U:Q2a key b x2 y2=F:=by simp [QcE] at hg2;exact hg2.2
       rw [U] at Y
       have z4:(r:Int) < (l.length:Int):=by omega
       have z5:¬((r:Int) < 0):=by omega
       obtain ⟨f0,f1,f2⟩:=P w2 J.out;clear A hg2 U P;go_wp2_with fail;refine (Y w2).mono ?_;rintro e w3 ⟨rfl,ae⟩;have af:=Q01 (J.out.trans (ae.mono J.out.size));clear f0 f1 f2 Y ae
       by_cases hgt2:F < sc
       ·have M:Hid (Q1c (some (n,d),some (Z,F)) (u,sc)=(some (n,d),some (u,sc))):=by unfold Hid;simp only [Q1c,if_neg (show ¬d < sc by omega),if_pos hgt2]
        go_wp2;go_roundw
        case rel=> exact ⟨j+1,c,j,by go_num,rfl,rfl,by omega,by rw [s.out,M.out];exact t.out,by rw [s.out,M.out];exact HJ.out,af.out⟩
        case measure=> simp [intOf];omega
       ·have M:Hid (Q1c (some (n,d),some (Z,F)) (u,sc)=(some (n,d),some (Z,F))):=by unfold Hid;simp only [Q1c,if_neg (show ¬d < sc by omega),if_neg (show ¬F < sc by omega)]
        go_wp2;go_roundw
        case rel=> exact ⟨j+1,c,r,by go_num,rfl,rfl,by omega,by rw [s.out,M.out];exact t.out,by rw [s.out,M.out];exact ai.out,af.out⟩
        case measure=> simp [intOf];omega
  ·have e:j=l.length:=by omega
   subst e;rw [List.take_of_length_le (Kaq _)] at D i;have HQ:=Q01 (show Q5T (scL key b l)=((Q5T (scL key b l)).1,(Q5T (scL key b l)).2) from rfl);generalize (Q5T (scL key b l)).1=p1 at *;generalize (Q5T (scL key b l)).2=p2 at *;have G:=Q01 f
   have z0:¬(l.length:Int) < (l.length:Int):=by omega
   rcases D with ⟨rfl,rfl⟩|⟨c,rfl,g,rfl⟩
   ·clear f i
    go_wp2;go_ret;exact ⟨_,rfl,by rw [HQ.out];exact World.ownsRow_nil _ _ _ _,G.out⟩
   ·rcases hR with hR|⟨bb,off,rfl,E,a⟩
    ·subst hR;simp at g
    have h1:=RdL.back (C:=w.heap.size) a c g;have c1:=(f.cell (p:=⟨bb,off+c * 3,none⟩) E).trans h1.1
    have z2:(c:Int) < (l.length:Int):=by omega
    have z3:¬((c:Int) < 0):=by omega
    have t:Hid ((QcE key b (l.getD c (0,0,false))).1=(l.getD c (0,0,false)).1):=rfl;generalize QcE key b (l.getD c (0,0,false))=s1 at *
    rcases i with ⟨rfl,rfl⟩|⟨r,rfl,q,rfl⟩
    ·have HO:=Q01 (fun W (hW:w.heap.size≤W.heap.size)=> Q70 W w.heap.size (l.getD c (0,0,false)).1 (l.getD c (0,0,false)).1 hW)
     have X:Hid (Q8i (Q5T (scL key b l))=[(l.getD c (0,0,false)).1,(l.getD c (0,0,false)).1]):=by unfold Hid;rw [HQ.out];show [s1.1,s1.1]=_;rw [t.out]
     generalize (l.getD c (0,0,false)).1=x1 at *;have L:=G.out.size;clear f a h1;go_wp2
     go_region
     all_goals go_wp2
     all_goals go_ret
     all_goals exact ⟨_,rfl,by rw [X.out];exact (HO.out wr L).drew,(G.out.alloc L _).drew⟩
    ·have h2:=RdL.back (C:=w.heap.size) a r q
     have c2:=(f.cell (p:=⟨bb,off+r * 3,none⟩) E).trans h2.1
     have z4:(r:Int) < (l.length:Int):=by omega
     have z5:¬((r:Int) < 0):=by omega
     have HO:=Q01 (fun W (hW:w.heap.size≤W.heap.size)=> Q70 W w.heap.size (l.getD c (0,0,false)).1 (l.getD r (0,0,false)).1 hW)
     have X:Hid (Q8i (Q5T (scL key b l))=[(l.getD c (0,0,false)).1,(l.getD r (0,0,false)).1]):=by unfold Hid;rw [HQ.out];show [s1.1,(QcE key b (l.getD r (0,0,false))).1]=_;rw [t.out];rfl
     generalize (l.getD c (0,0,false)).1=x1 at *;generalize (l.getD r (0,0,false)).1=x2 at *;have L:=G.out.size;clear f a h1 h2;go_wp2
     go_region
     all_goals go_wp2
     all_goals go_ret
     all_goals exact ⟨_,rfl,by rw [X.out];exact (HO.out wr L).drew,(G.out.alloc L _).drew⟩
def Q19 (key b:Int) (l:List Bk):List Int:=if Q1P key=true∧(0≤b∧b < 8)∧Q0e l=true then Q8i (Q5T (scL key b l)) else []
theorem Q9Z (key b:Int) (l:List Bk):(Q19 key b l).length≤2:=by
 unfold Q19
 split
 ·unfold Q8i;split <;> simp
 ·simp
theorem Q4k {l:List Bk} (h:Q0e l=true):l.length≤6:=by
 have key:∀j,j < l.length→(j:Int)≤(l.getD j (0,0,false)).1:=fun j=> by
  induction j with
  |zero=>
   intro c;obtain ⟨x,y,z,a⟩:∃x y z,l.getD 0 (0,0,false)=(x,y,z):=⟨_,_,_,rfl⟩;have:=Q4C h c a;rw [a];simpa using this.1
  |succ j ih=>
   intro c;have d:=ih (by omega);have h2:=Q5C h (j+1) c j (by omega);omega
 rcases Nat.lt_or_ge 6 l.length with b|b
 ·obtain ⟨x,y,z,a⟩:∃x y z,l.getD 6 (0,0,false)=(x,y,z):=⟨_,_,_,rfl⟩
  have d:=key 6 b;have h2:=Q4C h b a;rw [a] at d;dsimp only at d;omega
 ·exact b
theorem Q8N {key b:Int} {l:List Bk} (h:Q0e l=true) {z:Sc} (c:z∈scL key b l):okS z:=by
 obtain ⟨i,hi,e⟩:=Qbh c;obtain ⟨x,y,t,a⟩:∃x y z,l.getD i (0,0,false)=(x,y,z):=⟨_,_,_,rfl⟩;have:=Q4C h hi a;rw [a] at e;unfold okS;rw [←e];dsimp only;omega
theorem Q9L {l:List Bk} (h:Q0e l=true) (j:Nat):Q0e (l.take j)=true:=by
 rw [Q1x] at *;intro i hi
 have b:i < l.length:=by simp at hi;omega
 have a:i < j:=by simp at hi;omega
 have:=h i b;unfold QcI at *
 have c:(l.take j).getD i (0,0,false)=l.getD i (0,0,false):=by simp [List.getD_eq_getElem?_getD,List.getElem?_take,a]
 have d:(l.take j).getD (i - 1) (0,0,false)=l.getD (i - 1) (0,0,false):=by simp [List.getD_eq_getElem?_getD,List.getElem?_take,show i - 1 < j by omega]
 rw [c,d];exact this
theorem Qgp {key b:Int} {l:List Bk} (h:Q0e l=true):Qiq (scL key b l) (Q5T (scL key b l)):=by
 have k:∀j,j≤l.length→Qiq (scL key b (l.take j)) (Q5T (scL key b (l.take j))):=fun j=> by
  induction j with
  |zero=> intro _;exact ⟨by simp [scL],by simp [scL,Q5T]⟩
  |succ j ih=>
   intro p;have g:=ih (by omega);obtain ⟨x,y,z,c⟩:∃x y z,l.getD j (0,0,false)=(x,y,z):=⟨_,_,_,rfl⟩;have a:=Q18 Q1d l j (by omega);rw [show l.getD j Q1d.d=l.getD j (0,0,false) from rfl,c] at a
   cases z with
   |true=> rw [a,Q5a _ _ _ _ rfl];exact g
   |false=>
    rw [a,Q4q _ _ _ _ rfl,Qa0];have n:=Q4C h (by omega) c;refine Qfb g (fun z m=> Q8N (Q9L h j) m) ⟨n.1,by dsimp only;omega⟩ (fun z m=> ?_);obtain ⟨i,hi,e⟩:=Qbh m
    have f:i < j:=by simp at hi;omega
    have:=Q5C h j (by omega) i f;rw [c] at this;rw [show (l.take j).getD i (0,0,false)=l.getD i (0,0,false) by simp [List.getD_eq_getElem?_getD,List.getElem?_take,f]] at e;rw [←e];exact this
 have:=k l.length (Kaq _);rw [List.take_of_length_le (Kaq _)] at this;exact this
theorem Q88 (key b:Int) (o:Option Addr) (cap:Nat) (l:List Bk) (w:World) (A:RdK w.heap.size w o l) (r:l.length≤1048576):
  Calls Tryz.prog 184 #[.int .i64 key,.int .i64 b,.slice o l.length cap] w fun e D=> ∃v,e=.returned v∧Qa6 D w.heap.size v (Q19 key b l)∧Below w.heap.size w D:=by
 have a:=fun w=> Q10 key w
 have d:=fun w=> Q2y b w
 have f:=Q34 o cap l w A r
 by_cases hk:Q1P key=true
 ·rw [hk] at a
  by_cases hbk:0≤b∧b < 8
  ·rw [show (decide (0≤b) && decide (b < 8))=true by simp [hbk]] at d
   by_cases hl:Q0e l=true
   ·rw [hl] at f
    have j:=Q01 (show Q19 key b l=Q8i (Q5T (scL key b l)) by rw [Q19,if_pos ⟨hk,hbk,hl⟩]);have H:=Q4k hl;go_enter Tryz.func184,Tryz.ntmps184;go_wp2_with (first|(go_at_call 115;refine (a _).mono ?_;rintro e n ⟨rfl,rfl⟩)|(go_at_call 143;refine (d _).mono ?_;rintro e n ⟨rfl,rfl⟩)|(go_at_call 175;refine f.mono ?_;rintro e E ⟨rfl,c⟩));refine (Q92 key b o cap l E ((A.kept c (Kaq _)).le c.size) (by omega) hk hbk hl).mono ?_;rintro e I ⟨k,v,lb,rfl,t,m,s,i,g,x⟩
    have B:lb.length≤1000:=by
     have N:=i.1
     have h2:(scL key b l).length≤l.length:=by unfold scL;rw [List.length_map];exact List.length_filter_le _ _
     omega
    have h:=Qc2 k v lb I t m s B;clear f;go_wp2_with fail;refine h.mono ?_;rintro e M ⟨G,p,rfl,C,u,y⟩;have F:=QgM (Qgp hl) (fun z hz=> Q8N hl hz) i m C;have J:=Q01 (Q04 (F ▸ u) (Kdq c.size g));have L:=Q01 ((c.trans (x.mono c.size)).trans (y.mono (Kdq c.size g)));clear u c x y A C F h t m s i;go_wp2;go_ret;exact ⟨G,rfl,by rw [j.out];exact J.out,L.out⟩
   ·rw [Bool.eq_false_iff.2 hl] at f
    have j:=Q01 (show Q19 key b l=[] by rw [Q19,if_neg (fun q=> hl q.2.2)]);go_enter Tryz.func184,Tryz.ntmps184;go_wp2_with (first|(go_at_call 115;refine (a _).mono ?_;rintro e n ⟨rfl,rfl⟩)|(go_at_call 143;refine (d _).mono ?_;rintro e n ⟨rfl,rfl⟩)|(go_at_call 175;refine f.mono ?_;rintro e E ⟨rfl,c⟩));go_ret;exact ⟨_,rfl,by rw [j.out];exact World.ownsRow_nil _ _ _ _,c⟩
  ·rw [show (decide (0≤b) && decide (b < 8))=false by simpa using hbk] at d
   have j:=Q01 (show Q19 key b l=[] by rw [Q19,if_neg (fun q=> hbk q.2.1)]);go_enter Tryz.func184,Tryz.ntmps184;go_wp2_with (first|(go_at_call 115;refine (a _).mono ?_;rintro e n ⟨rfl,rfl⟩)|(go_at_call 143;refine (d _).mono ?_;rintro e n ⟨rfl,rfl⟩));go_ret;exact ⟨_,rfl,by rw [j.out];exact World.ownsRow_nil _ _ _ _,Below.refl _ _⟩
 ·rw [Bool.eq_false_iff.2 hk] at a
  have j:=Q01 (show Q19 key b l=[] by rw [Q19,if_neg (fun q=> hk q.1)]);go_enter Tryz.func184,Tryz.ntmps184;go_wp2_with (first|(go_at_call 115;refine (a _).mono ?_;rintro e n ⟨rfl,rfl⟩));go_ret;exact ⟨_,rfl,by rw [j.out];exact World.ownsRow_nil _ _ _ _,Below.refl _ _⟩
theorem ownL.rds {α:Type} {L:Lay α} {e:TypeId} {w:World} {base n c:Nat} {o:Option Addr} {l:List α} (h:ownL L e w base (.slice o n c) l):RdL L w.heap.size w o l:=by
 obtain ⟨d,f,a,b⟩:=h.open;injection a with e1 e2 e3;rw [e1];exact b
theorem Q2z {w:World} {n j s1 s2 r p:Nat} {d f:TypeId} {b c:Value} {q k:List Value} (s:w.ownsRow n d s1 b r q) (h2:w.ownsRow j f s2 c p k) (l:d≠f):b.ownBlock=none∨b.ownBlock≠c.ownBlock:=by
 rcases s.2 with ⟨rfl,_⟩|⟨g,cap,m,rfl,_,t,_⟩
 ·exact .inl rfl
 ·right
  rcases h2.2 with ⟨rfl,_⟩|⟨u,i,h,rfl,_,a,_⟩
  ·simp [Value.ownBlock]
  ·intro e
   simp [Value.ownBlock] at e;subst e;rw [t] at a;simp at a;exact l a.2
theorem QgQ:(3:TypeId)≠47:=by decide
def hv (hs:List Hd) (i:Nat):Value:=.slice (hs.getD i (none,0,0)).1 (hs.getD i (none,0,0)).2.1 (hs.getD i (none,0,0)).2.2
structure Tab (R:Nat→List Int) (k:Nat) (w:World) (base:Nat) (hs:List Hd):Prop where
 len:hs.length=k
 row:∀i,i < k→Qa6 w base (hv hs i) (R i)
 apart:∀i j,i < k→j < k→i≠j→(hv hs i).ownBlock=none∨(hv hs i).ownBlock≠(hv hs j).ownBlock
theorem Tab.nil (R:Nat→List Int) (w:World) (base:Nat):Tab R 0 w base []:=⟨rfl,fun i h=> absurd h (Nat.not_lt_zero _),fun i _ h=> absurd h (Nat.not_lt_zero _)⟩
theorem Tab.kept {R:Nat→List Int} {k:Nat} {w w':World} {base:Nat} {hs:List Hd} (h:Tab R k w base hs) (hb:Below w.heap.size w w'):Tab R k w' base hs:=
 ⟨h.len,fun i hi=> Q03 (h.row i hi) hb,h.apart⟩
theorem Tab.grown {R:Nat→List Int} {k:Nat} {w a:World} {base:Nat} {hs:List Hd} {r:Option Nat} (h:Tab R k w base hs) (c:w.grownBy a r) (b:∀i,i < k→(hv hs i).ownBlock=none∨(hv hs i).ownBlock≠r):Tab R k a base hs:=
 ⟨h.len,fun i hi=> (h.row i hi).kept c (b i hi),h.apart⟩
theorem Tab.other {R:Nat→List Int} {k:Nat} {w b:World} {base d s2 f:Nat} {hs:List Hd} {c:TypeId} {a:Value} {g:List Value} (h:Tab R k w base hs) (h2:w.ownsRow d c s2 a f g) (j:3≠c) (l:w.grownBy b a.ownBlock):Tab R k b base hs:=
 h.grown l fun i hi=> Q2z (h.row i hi) h2 j
theorem Q64 {hs:List Hd} {x:Hd} {i:Nat} (h:i < hs.length):hv (hs++[x]) i=hv hs i:=by
 unfold hv;rw [List.getD_eq_getElem?_getD,List.getElem?_append_left h,←List.getD_eq_getElem?_getD]
theorem QbQ {hs:List Hd} {x:Hd}:hv (hs++[x]) hs.length=.slice x.1 x.2.1 x.2.2:=by
 unfold hv;rw [List.getD_eq_getElem?_getD,List.getElem?_append_right (Kaq _),Nat.sub_self];rfl
theorem Tab.snoc {R:Nat→List Int} {k:Nat} {w:World} {base n:Nat} {hs:List Hd} {o:Option Addr} {m c:Nat} (h:Tab R k w base hs) (f:∀i,i < k→∀b,(hv hs i).ownBlock=some b→b < n) (q:base≤n)
  (p:Qa6 w n (.slice o m c) (R k)):Tab R (k+1) w base (hs++[(o,m,c)]):=by
 have r:=h.len
 have d:hv (hs++[(o,m,c)]) k=.slice o m c:=by rw [←r];exact QbQ
 refine ⟨by simp [r],fun i hi=> ?_,fun i j hi s g=> ?_⟩
 ·rcases Nat.lt_succ_iff_lt_or_eq.1 hi with a|a
  ·rw [Q64 (by omega)];exact h.row i a
  ·subst a;rw [d];exact Q04 p q
 ·rcases Nat.lt_succ_iff_lt_or_eq.1 hi with a|a
  ·rw [Q64 (by omega)]
   rcases Nat.lt_succ_iff_lt_or_eq.1 s with l|l
   ·rw [Q64 (by omega)];exact h.apart i j a l g
   ·subst l;rw [d]
    cases hob:(hv hs i).ownBlock with
    |none=> exact .inl rfl
    |some b=>
     right
     intro e;have t:=f i a b hob;have h2:=(p.lt b e.symm).1;omega
  ·subst a
   rw [d]
   cases hob:(Value.slice o m c).ownBlock with
   |none=> exact .inl rfl
   |some b=>
    right
    rw [Q64 (by omega)];intro e;have t:=f j (by omega) b e.symm;have h2:=(p.lt b hob).1;omega
theorem Tab.lt {R:Nat→List Int} {k:Nat} {w:World} {base:Nat} {hs:List Hd} (h:Tab R k w base hs):∀i,i < k→∀b,(hv hs i).ownBlock=some b→b < w.heap.size:=
 fun i hi b e=> ((h.row i hi).lt b e).2
def Q3C (R:Nat→List Int) (n:Nat):List (List Int):=(List.range n).map R
theorem Q1y (R:Nat→List Int) (n:Nat):(Q3C R n).length=n:=by simp [Q3C]
theorem Q2k (R:Nat→List Int) (n i:Nat) (h:i < n):(Q3C R n).getD i []=R i:=by simp [Q3C,h]
theorem Tab.rd {R:Nat→List Int} {n:Nat} {w:World} {base d m c:Nat} {hs:List Hd} {o:Option Addr} (h:Tab R n w base hs) (f:ownL Q0H 47 w d (.slice o m c) hs):RdLL w.heap.size w o (Q3C R n):=by
 refine ⟨hs,by rw [h.len,Q1y],ownL.rds f,fun i hi=> ?_⟩;rw [Q1y] at hi;rw [Q2k R n i hi];have a:=h.row i hi;obtain ⟨g,j,b,_⟩:=ownL.open (L:=Q2w) a;unfold hv at b;injection b with e1 e2 e3;exact ⟨e2,ownL.rds (L:=Q2w) a⟩
def OwnT (w:World) (base:Nat) (v:Value) (n:Nat) (R:Nat→List Int):Prop:=
 (v=.slice none 0 0∧n=0)∨∃g hs,v=.slice (some ⟨g,0,none⟩) n n∧ownL Q0H 47 w base v hs∧Tab R n w base hs
theorem OwnT.open {w:World} {base n:Nat} {v:Value} {R:Nat→List Int} (h:OwnT w base v n R):∃o c,v=.slice o n c∧RdLL w.heap.size w o (Q3C R n):=by
 rcases h with ⟨rfl,rfl⟩|⟨g,hs,rfl,a,b⟩
 ·exact ⟨none,0,rfl,[],rfl,.inl rfl,fun i hi=> by simp [Q3C] at hi⟩
 ·exact ⟨_,_,rfl,b.rd a⟩
def st (R:Nat→List Int) (k:Int):Nat→Int
 |0=> k
 |i+1=> st R k i+(R i).length
theorem Stp.cellP {lo hi:Nat} {w c:World} {p:Addr} {u:Value} (s:Stp lo hi w c) (h:w.cell? p=some u) (d:p.block < lo∨hi≤p.block):c.cell? p=some u:=by
 have b:p.block < w.heap.size:=by
  rcases Nat.lt_or_ge p.block w.heap.size with a|a
  ·exact a
  ·simp [World.cell?,Array.getElem?_eq_none a] at h
 have e:=s.block p.block b d;simp only [World.cell?,e] at h ⊢;exact h
def RiV {α:Type} (L:Lay α) (lo hi:Nat) (w:World) (v:Value) (l:List α):Prop:=∃o c,v=.slice o l.length c∧RdLo L lo hi w o l
theorem RiV.step {α:Type} {L:Lay α} {a b lo hi:Nat} {w m:World} {v:Value} {l:List α} (h:RiV L a b w v l) (s:Stp lo hi w m) (x:hi≤a∨b≤lo):RiV L a b m v l:=by
 obtain ⟨o,c,e,r⟩:=h;refine ⟨o,c,e, ?_⟩
 rcases r with r|⟨g,off,p,n,t,r⟩
 ·exact .inl r
 ·refine .inr ⟨g,off,p,n,t,fun i f j q=> ?_⟩
  have h:=r i f j q;have u:(L.cs (l.getD i L.d)).length=L.k:=L.len _;rw [List.getElem?_eq_getElem (by omega)] at h ⊢;exact s.cellP h (by simp only;omega)
theorem RiV.mono {α:Type} {L:Lay α} {a b d f:Nat} {w:World} {v:Value} {l:List α} (h:RiV L a b w v l) (m:d≤a) (h2:b≤f):RiV L d f w v l:=by
 obtain ⟨o,c,e,r⟩:=h;refine ⟨o,c,e, ?_⟩
 rcases r with r|⟨g,off,i,j,k,r⟩
 ·exact .inl r
 ·exact .inr ⟨g,off,i,by omega,by omega,r⟩
theorem RiV.open {α:Type} {L:Lay α} {a b:Nat} {w:World} {v:Value} {l:List α} (h:RiV L a b w v l):∃o c,v=.slice o l.length c∧RdL L b w o l:=by
 obtain ⟨o,c,e,r⟩:=h;exact ⟨o,c,e,r.rd⟩
theorem InRow.ri {α:Type} {L:Lay α} {e:TypeId} {lo hi:Nat} {w:World} {v:Value} {l:List α} (h:InL L e lo hi w v l):RiV L lo hi w v l:=by
 obtain ⟨o,c,a,r⟩:=InL.rd (L:=L) h;refine ⟨o,c,a, ?_⟩
 rcases r with r|⟨g,off,b,d,r⟩
 ·exact .inl r
 ·refine .inr ⟨g,off,b,(h.1.lt g (by rw [a,b];rfl)).1,d,r⟩
def RiRows {α:Type} (Q:Nat→Nat→World→Value→α→Prop) (d:α) (lo hi:Nat) (w:World) (v:Value) (xs:List α):Prop:=∃hs:List Hd,hs.length=xs.length∧RiV Q0H lo hi w v hs∧∀i,i < xs.length→Q lo hi w (hv hs i) (xs.getD i d)
structure Stps {α:Type} (Q:Nat→Nat→World→Value→α→Prop):Prop where
 go:∀{a b lo hi:Nat} {w w':World} {v:Value} {x:α},Q a b w v x→Stp lo hi w w'→(hi≤a∨b≤lo)→Q a b w' v x
structure Monos {α:Type} (Q:Nat→Nat→World→Value→α→Prop):Prop where
 go:∀{a b a' b':Nat} {w:World} {v:Value} {x:α},Q a b w v x→a'≤a→b≤b'→Q a' b' w v x
theorem RiRows.step {α:Type} {Q:Nat→Nat→World→Value→α→Prop} {d:α} (hQ:Stps Q):Stps (RiRows Q d):=⟨fun ⟨hs,h0,h1,h2⟩ s hd=> ⟨hs,h0,h1.step s hd,fun i hi=> hQ.go (h2 i hi) s hd⟩⟩
theorem RiRows.mono {α:Type} {Q:Nat→Nat→World→Value→α→Prop} {d:α} (hQ:Monos Q):Monos (RiRows Q d):=⟨fun ⟨hs,h0,h1,h2⟩ k1 k2=> ⟨hs,h0,h1.mono k1 k2,fun i hi=> hQ.go (h2 i hi) k1 k2⟩⟩
abbrev RiI:=RiV Q2w
abbrev RiT:=RiRows RiI []
abbrev RiR:=RiRows RiT []
theorem RiI.stp:Stps RiI:=⟨fun h s hd=> RiV.step h s hd⟩
theorem RiI.mon:Monos RiI:=⟨fun h h1 h2=> RiV.mono h h1 h2⟩
theorem RiT.stp:Stps RiT:=RiRows.step RiI.stp
theorem RiT.mon:Monos RiT:=RiRows.mono RiI.mon
theorem RiR.stp:Stps RiR:=RiRows.step RiT.stp
theorem RiR.mon:Monos RiR:=RiRows.mono RiT.mon
theorem RiT.rd {a b:Nat} {w:World} {v:Value} {ll:List (List Int)} (h:RiT a b w v ll):∃o c,v=.slice o ll.length c∧RdLL b w o ll:=by
 obtain ⟨hs,d,j,h2⟩:=h;obtain ⟨o,c,e,r⟩:=j.open;refine ⟨o,c,by rw [e,d],hs,d,r,fun i hi=> ?_⟩;obtain ⟨k,l,f,g⟩:=(h2 i hi).open;unfold hv at f;injection f with e1 e2 e3;exact ⟨e2,by rw [e1];exact g⟩
theorem RiR.at {a C:Nat} {w:World} {o:Option Addr} {n c:Nat} {d:List (List (List Int))} (h:RiR a C w (.slice o n c) d) (l:C≤w.heap.size) (i:Nat) (hi:i < d.length):
  ∃b off f g,o=some ⟨b,off,none⟩∧b < w.heap.size∧w.cell? ⟨b,off+i,none⟩=some (.slice f (d.getD i []).length g)∧RdLL w.heap.size w f (d.getD i []):=by
 obtain ⟨hs,m,t,h2⟩:=h;obtain ⟨v,u,e,r⟩:=t.open;injection e with e1 e2 e3;subst e1
 rcases r with r|⟨b,off,p,q,r⟩
 ·subst r;simp at m;omega
 ·have j:=RdL.head r i (by omega)
  obtain ⟨f,g,k,s⟩:=RiT.rd (h2 i hi);unfold hv at k;rw [k] at j;exact ⟨b,off,f,g,p,Kbq q l,j,s.le l⟩
structure Rw {α:Type} (Q:Nat→Nat→World→Value→α→Prop) (d:α) (xs:List α) (lo hi:Nat) (w:World) (hs:List Hd) (L H:Nat→Nat):Prop where
 len:hs.length=xs.length
 bd:∀i,i < xs.length→lo≤L i∧H i≤hi
 sep:∀i j,i < j→j < xs.length→H i≤L j
 row:∀i,i < xs.length→Q (L i) (H i) w (hv hs i) (xs.getD i d)
theorem Rw.nil {α:Type} (Q:Nat→Nat→World→Value→α→Prop) (d:α) (lo hi:Nat) (w:World) (L H:Nat→Nat):Rw Q d [] lo hi w [] L H:=⟨rfl,fun i h=> absurd h (Nat.not_lt_zero _),fun i j _ h=> absurd h (Nat.not_lt_zero _),fun i h=> absurd h (Nat.not_lt_zero _)⟩
theorem Rw.step {α:Type} {Q:Nat→Nat→World→Value→α→Prop} {d:α} {f:List α} {a b lo hi:Nat} {w g:World} {hs:List Hd} {L H:Nat→Nat} (j:Stps Q) (h:Rw Q d f a b w hs L H) (s:Stp lo hi w g) (k:∀i,i < f.length→hi≤L i∨H i≤lo):Rw Q d f a b g hs L H:=
 ⟨h.len,h.bd,h.sep,fun i c=> j.go (h.row i c) s (k i c)⟩
theorem Rw.kept {α:Type} {Q:Nat→Nat→World→Value→α→Prop} {d:α} {c:List α} {a b:Nat} {w f:World} {hs:List Hd} {L H:Nat→Nat} (g:Stps Q) (h:Rw Q d c a b w hs L H) (j:Below w.heap.size w f):Rw Q d c a b f hs L H:=
 h.step g (Stp.of (lo:=0) (hi:=0) j) (fun i _=> .inl (Kcq _))
theorem Rw.mono {α:Type} {Q:Nat→Nat→World→Value→α→Prop} {d:α} {c:List α} {a b g f:Nat} {w:World} {hs:List Hd} {L H:Nat→Nat} (h:Rw Q d c a b w hs L H) (j:g≤a) (h2:b≤f):Rw Q d c g f w hs L H:=
 ⟨h.len,fun i hi=> ⟨Kdq j (h.bd i hi).1,Kdq (h.bd i hi).2 h2⟩,h.sep,h.row⟩
theorem Rw.snoc {α:Type} {Q:Nat→Nat→World→Value→α→Prop} {d:α} {f:List α} {lo b l2 h2:Nat} {w:World} {hs:List Hd} {L H:Nat→Nat} {o:Option Addr} {m c:Nat} {x:α} (h:Rw Q d f lo b w hs L H) (t:b≤l2) (p:lo≤l2) (s:l2≤h2) (q:Q l2 h2 w (.slice o m c) x):
  Rw Q d (f++[x]) lo h2 w (hs++[(o,m,c)]) (fun i=> if i < f.length then L i else l2) (fun i=> if i < f.length then H i else h2):=by
 have g:=h.len;refine ⟨by simp [g],fun i hi=> ?_,fun i j k r=> ?_,fun i hi=> ?_⟩
 ·by_cases a:i < f.length
  ·have:=h.bd i a;simp only [a,if_true];omega
  ·simp only [a,if_false];omega
 ·simp at r
  have a:i < f.length:=by omega
  by_cases hj':j < f.length
  ·simp only [a,hj',if_true];exact h.sep i j k hj'
  ·have:=h.bd i a;simp only [a,hj',if_true,if_false];omega
 ·by_cases a:i < f.length
  ·have l:(f++[x]).getD i d=f.getD i d:=by rw [List.getD_eq_getElem?_getD,List.getElem?_append_left a,←List.getD_eq_getElem?_getD]
   simp only [a,if_true];rw [Q64 (by omega),l];exact h.row i a
  ·have n:i=f.length:=by simp at hi;omega
   subst n
   have l:(f++[x]).getD f.length d=x:=by simp
   simp only [Nat.lt_irrefl,if_false];rw [l,←g,QbQ];exact q
def Qij (v:Value) (n:Nat) (L H:Nat→Nat):Prop:=∀i,i < n→∀b,v.ownBlock=some b→b < L i∨H i≤b
def InRows {α:Type} (Q:Nat→Nat→World→Value→α→Prop) (d:α) (T:TypeId) (lo hi:Nat) (w:World) (v:Value) (xs:List α):Prop:=∃hs L H,InL Q0H T lo hi w v hs∧Rw Q d xs lo hi w hs L H∧Qij v xs.length L H
theorem InRows.step {α:Type} {Q:Nat→Nat→World→Value→α→Prop} {d:α} {T:TypeId} (b:Stps Q):Stps (InRows Q d T):=⟨fun ⟨hs,L,H,f,a,h2⟩ s c=>
 ⟨hs,L,H,InRow.step f s c,a.step b s (fun i hi=> by have:=a.bd i hi;omega),h2⟩⟩
theorem InRows.mono {α:Type} {Q:Nat→Nat→World→Value→α→Prop} {d:α} {T:TypeId}:Monos (InRows Q d T):=⟨fun ⟨hs,L,H,h0,h1,h2⟩ k1 k2=>
 ⟨hs,L,H,InRow.mono h0 k1 k2,h1.mono k1 k2,h2⟩⟩
theorem InRows.ri {α:Type} {Q Q':Nat→Nat→World→Value→α→Prop} {d:α} {T:TypeId} (hm:Monos Q') (f:∀{lo hi:Nat} {w:World} {v:Value} {x:α},Q lo hi w v x→Q' lo hi w v x) {lo hi:Nat} {w:World} {v:Value} {b:List α} (h:InRows Q d T lo hi w v b):RiRows Q' d lo hi w v b:=by
 obtain ⟨hs,L,H,c,a,h2⟩:=h;exact ⟨hs,a.len,InRow.ri c,fun i hi=> hm.go (f (a.row i hi)) (a.bd i hi).1 (a.bd i hi).2⟩
abbrev InI:=InL Q2w 3
abbrev InT:=InRows InI [] 47
abbrev InR:=InRows InT [] 51
theorem InI.stp:Stps InI:=⟨fun h s hd=> InRow.step h s hd⟩
theorem InT.stp:Stps InT:=InRows.step InI.stp
theorem InR.stp:Stps InR:=InRows.step InT.stp
theorem InT.ri {lo hi:Nat} {w:World} {v:Value} {ll:List (List Int)} (h:InT lo hi w v ll):RiT lo hi w v ll:=InRows.ri RiI.mon (fun q=> InRow.ri q) h
theorem InR.ri {lo hi:Nat} {w:World} {v:Value} {ll:List (List (List Int))} (h:InR lo hi w v ll):RiR lo hi w v ll:=InRows.ri RiT.mon (fun q=> InT.ri q) h
def Q1z (R1 R2:List (List (List Int))):Bool:=decide (R1.length=R2.length) && (List.range R1.length).all (fun i=> Q1i (R1.getD i []) (R2.getD i [])==0)
theorem bC7 {C b j:Nat} {w w':World} {u:Value} (h:Below C w w') (hc:w.cell? ⟨b,j,none⟩=some u) (hz:b < C):w'.cell? ⟨b,j,none⟩=some u:=(h.cell (p:=⟨b,j,none⟩) hz).trans hc
theorem RiRows.atS {α:Type} {Q:Nat→Nat→World→Value→α→Prop} {d:α} {a C:Nat} {w:World} {o:Option Addr} {n c:Nat} {f:List α} (h:RiRows Q d a C w (.slice o n c) f) (q:C≤w.heap.size) (i:Nat) (hi:i < f.length):∃b off u,o=some ⟨b,off,none⟩∧b < C∧w.cell? ⟨b,off+i,none⟩=some u∧Q a C w u (f.getD i d):=by
 obtain ⟨hs,g,l,h2⟩:=h;obtain ⟨p,m,e,r⟩:=l.open;injection e with e1 e2 e3;subst e1
 rcases r with r|⟨b,off,j,k,r⟩
 ·subst r;simp at g;omega
 ·exact ⟨b,off,hv hs i,j,k,RdL.head r i (by omega),h2 i hi⟩
theorem Qa4 {R1 R2:List (List (List Int))} {i:Nat} (hi:i < R1.length) (h:Q1i (R1.getD i []) (R2.getD i [])≠0):Q1z R1 R2=false:=by
 unfold Q1z;rw [Bool.and_eq_false_iff]
 right
 rw [List.all_eq_false];exact ⟨i,by simpa using hi,by simpa using h⟩
theorem Q5I {R1 R2:List (List (List Int))} (a:R1.length=R2.length) (h:∀i,i < R1.length→Q1i (R1.getD i []) (R2.getD i [])=0):Q1z R1 R2=true:=by
 unfold Q1z;rw [decide_eq_true a,Bool.true_and,List.all_eq_true];intro i hi;rw [h i (by simpa using hi)]
 rfl
theorem Q9k {R1 R2:List (List (List Int))} (hl:R1.length≠R2.length):Q1z R1 R2=false:=by
 unfold Q1z;rw [decide_eq_false hl];rfl
theorem RdK.cells3 {C:Nat} {w:World} {o:Option Addr} {l:List Bk} (h:RdK C w o l) (j:Nat) (a:j < l.length):∃g off,o=some ⟨g,off,none⟩∧g < C∧w.cell? ⟨g,off+j * 3,none⟩=some (.int .i64 (l.getD j (0,0,false)).1)∧w.cell? ⟨g,off+j * 3+1,none⟩=some (.int .i64 (l.getD j (0,0,false)).2.1)∧w.cell? ⟨g,off+j * 3+2,none⟩=some (.bool (l.getD j (0,0,false)).2.2):=by
 rcases h with r|⟨b,off,c,d,r⟩
 ·subst r;exact absurd a (Nat.not_lt_zero _)
 ·exact ⟨b,off,c,d,r j a 0 (by decide),r j a 1 (by decide),r j a 2 (by decide)⟩
theorem Q8t (l:List Bk) (k:Nat) (h:k < l.length):l.take (k+1)=l.take k++[l.getD k (0,0,false)]:=Q18 Q1d l k h
theorem Qbc (L O:Option Addr) (r B c1 c2:Nat) (m l2:List Bk) (w:World) (n:r=m.length) (s:B=l2.length) (Z:RdK w.heap.size w L m) (h2:RdK w.heap.size w O l2) (F:m.length≤1048576) (D:l2.length≤1048576):
  Calls Tryz.prog 137 #[.slice L r c1,.slice O B c2] w fun e w'=> e=.returned (.bool (decide (m=l2)))∧Below w.heap.size w w':=by
 have v:=Q01 n;have x:=Q01 s;have H1:=Q01 Z;have H2:=Q01 h2
 by_cases hlen:r=B
 ·subst hlen
  rw [←n] at F;clear n s Z h2 D;go_enter Tryz.func137,Tryz.ntmps137;go_wp2
  go_loopw [4,13] (fun rv i wr=> ∃k:Nat,k≤r∧i=.int .i64 (k:Int)∧rv=.bool false∧Hid (m.take k=l2.take k)∧Hid (Below w.heap.size w wr))
   (fun _ i _=> r - (intOf i).toNat)
  case atStart=> exact ⟨0,Kcq _,rfl,rfl,rfl,Below.refl _ _⟩
  case round=>
   rename World=> wr
   obtain ⟨k,hk,rfl,rfl,Y,a⟩:=hrel
   by_cases hlt:k < r
   ·have R:(k:Int) < (r:Int):=by omega
    obtain ⟨g1,f1,rfl,j,M,V,P⟩:=RdK.cells3 H1.out k (by rw [←v.out];exact hlt);obtain ⟨g2,f2,rfl,l,b0,X,J⟩:=RdK.cells3 H2.out k (by rw [←x.out];exact hlt);have Ga0:=Grown.cell (bC7 a.out M j) (Kbq j a.out.size);have Ga1:=Grown.cell (bC7 a.out V j) (Kbq j a.out.size);have Ga2:=Grown.cell (bC7 a.out P j) (Kbq j a.out.size);have Gb0:=Grown.cell (bC7 a.out b0 l) (Kbq l a.out.size);have Gb1:=Grown.cell (bC7 a.out X l) (Kbq l a.out.size);have Gb2:=Grown.cell (bC7 a.out J l) (Kbq l a.out.size)
    have U:=Q01 (Q8t m k (by rw [←v.out];exact hlt));have N:=Q01 (Q8t l2 k (by rw [←x.out];exact hlt))
    have u:Hid (m=l2→m.getD k (0,0,false)=l2.getD k (0,0,false)):=fun h=> by rw [h]
    clear M V P b0 X J;generalize m.getD k (0,0,false)=d at *;generalize l2.getD k (0,0,false)=e at *
    by_cases hde:d=e
    ·subst hde
     obtain ⟨z,y,A⟩:=d;dsimp only at Ga0 Ga1 Ga2 Gb0 Gb1 Gb2;clear u;go_wp2
     (refine Q0b (by kernel_rfl) (by kernel_rfl) ?_;intro q;(repeat (go_big_quiet_step (fail)));(with_reducible refine wpQuiet_nil ?_);intro _ f;obtain ⟨t,g⟩:=f;subst g)
     have c:=Q01 (a.out.trans (t.b.mono a.out.size));go_wp2;go_roundw
     case rel=> exact ⟨k+1,by omega,by go_num,rfl,(by unfold Hid;rw [U.out,N.out,Y.out]),c.out⟩
     case measure=> simp [intOf];omega
    ·have I:Hid (m≠l2):=fun h=> hde (u.out h)
     obtain ⟨z,y,A⟩:=d;obtain ⟨E,C,H⟩:=e;dsimp only at Ga0 Ga1 Ga2 Gb0 Gb1 Gb2
     have p:¬(z=E∧y=C∧A=H):=fun h=> hde (by rw [h.1,h.2.1,h.2.2])
     clear hde u U N
     by_cases q0:z=E
     ·subst q0
      by_cases q1:y=C
      ·subst q1
       have T:¬A=H:=fun h=> p ⟨rfl,rfl,h⟩
       clear p
       cases A <;> cases H <;> first|exact absurd rfl T|skip
       all_goals clear T
       all_goals go_wp2
       all_goals (refine Q0b (by kernel_rfl) (by kernel_rfl) ?_;intro q;(repeat (go_big_quiet_step (fail)));(with_reducible refine wpQuiet_nil ?_);intro _ f;obtain ⟨t,g⟩:=f;subst g)
       all_goals have c:=Q01 (a.out.trans (t.b.mono a.out.size))
       all_goals go_wp2
       all_goals go_ret
       all_goals exact ⟨Q0d (decide_eq_false I.out).symm,c.out⟩
      ·clear p
       have ab:(y==C)=false:=by simpa using q1
       go_wp2
       (refine Q0b (by kernel_rfl) (by kernel_rfl) ?_;intro q;(repeat (go_big_quiet_step (fail)));(with_reducible refine wpQuiet_nil ?_);intro _ f;obtain ⟨t,g⟩:=f;subst g)
       have c:=Q01 (a.out.trans (t.b.mono a.out.size));go_wp2;go_ret;exact ⟨Q0d (decide_eq_false I.out).symm,c.out⟩
     ·clear p
      have aa:(z==E)=false:=by simpa using q0
      go_wp2
      (refine Q0b (by kernel_rfl) (by kernel_rfl) ?_;intro q;(repeat (go_big_quiet_step (fail)));(with_reducible refine wpQuiet_nil ?_);intro _ f;obtain ⟨t,g⟩:=f;subst g)
      have c:=Q01 (a.out.trans (t.b.mono a.out.size));go_wp2;go_ret;exact ⟨Q0d (decide_eq_false I.out).symm,c.out⟩
   ·have e:k=r:=by omega
    subst e
    have G:Hid (m=l2):=by
     have h:=Y.out;rw [List.take_of_length_le (by rw [←v.out];exact Kaq _),List.take_of_length_le (by rw [←x.out];exact Kaq _)] at h;exact h
    go_wp2;go_ret;exact ⟨Q0d (decide_eq_true G.out).symm,a.out⟩
 ·have G:Hid (m≠l2):=fun h=> hlen (by rw [n,s,h])
  have p:¬((r:Int)=(B:Int)):=by omega
  clear n s hlen;go_enter Tryz.func137,Tryz.ntmps137;go_wp2;go_ret;exact ⟨Q0d (decide_eq_false G.out).symm,Below.refl _ _⟩
theorem Q9I (f c:Option Addr) (g r p m:Nat) (aa bb:List (List Int)) (w:World) (b:p=aa.length) (a:m=bb.length) (l:RdLL w.heap.size w f aa) (k:RdLL w.heap.size w c bb) (t:aa.length≤1048576) (lb:bb.length≤1048576)
  (j:∀i,i < aa.length→(aa.getD i []).length≤1048576) (h:∀i,i < bb.length→(bb.getD i []).length≤1048576):
  Calls Tryz.prog 139 #[.slice f p g,.slice c m r] w fun e s=> e=.returned (.bool (Q1i aa bb==0))∧Below w.heap.size w s:=by
 have d:=Q01 (Q9H f c g r aa bb w l k t lb j h);rw [←b,←a] at d;clear l k j h b a;generalize Q1i aa bb=q at *;go_enter Tryz.func139,Tryz.ntmps139;go_wp2_with fail;refine d.out.mono ?_;rintro e v ⟨rfl,n⟩;have u:=Q01 n;clear n d;go_wp2;go_ret;exact ⟨rfl,u.out⟩
theorem QdM (N V:Option Addr) (c A T c2:Nat) (R1 R2:List (List (List Int))) (w:World) (f:c=R1.length) (d:A=R2.length) (M:RiR 0 w.heap.size w (.slice N c T) R1) (h2:RiR 0 w.heap.size w (.slice V A c2) R2) (l1:c≤1048576) (L:∀i,i < R1.length→(R1.getD i []).length≤1048576) (D:∀i,i < R1.length→∀j,j < (R1.getD i []).length→((R1.getD i []).getD j []).length≤1048576) (G:∀i,i < R2.length→(R2.getD i []).length≤1048576) (J:∀i,i < R2.length→∀j,j < (R2.getD i []).length→((R2.getD i []).getD j []).length≤1048576):
  Calls Tryz.prog 138 #[.slice N c T,.slice V A c2,.func (Fn.func 139) #[] #[]] w fun e w'=> e=.returned (.bool (Q1z R1 R2))∧Below w.heap.size w w':=by
 have eS:∀args w,(callFunc 139 args).run Tryz.prog w=.ok (.enter 139 args) w:=enters_of Tryz.func139 (by kernel_rfl) rfl
 have s:=Q01 f;have u:=Q01 d;have H1:=Q01 M;have H2:=Q01 h2;have X1:=Q01 L;have Y1:=Q01 D;have X2:=Q01 G;have Y2:=Q01 J
 by_cases hlen:c=A
 ·subst hlen
  clear f d M h2 L D G J;go_enter Tryz.func138,Tryz.ntmps138;go_wp2
  go_loopw [6,17] (fun rv i wr=> ∃k:Nat,k≤c∧i=.int .i64 (k:Int)∧rv=.bool false∧Hid (∀q,q < k→Q1i (R1.getD q []) (R2.getD q [])=0)∧Hid (Below w.heap.size w wr))
   (fun _ i _=> c - (intOf i).toNat)
  case atStart=> exact ⟨0,Kcq _,rfl,rfl,fun q h=> absurd h (Nat.not_lt_zero _),Below.refl _ _⟩
  case round=>
   rename World=> wr
   obtain ⟨k,hk,rfl,rfl,U,a⟩:=hrel
   by_cases hlt:k < c
   ·have Y:(k:Int) < (c:Int):=by omega
    have g:k < R1.length:=by rw [←s.out];exact hlt
    have p:k < R2.length:=by rw [←u.out];exact hlt
    obtain ⟨g1,f1,u1,rfl,H,t,P⟩:=RiRows.atS H1.out (Kaq _) k g;obtain ⟨g2,f2,u2,rfl,I,x,O⟩:=RiRows.atS H2.out (Kaq _) k p;obtain ⟨o3,c3,rfl,X⟩:=RiT.rd P;obtain ⟨o4,c4,rfl,R⟩:=RiT.rd O;replace t:=bC7 a.out t H;replace x:=bC7 a.out x I;obtain ⟨m1,r⟩:∃n,(R1.getD k []).length=n:=⟨_,rfl⟩;obtain ⟨Z,m⟩:∃n,(R2.getD k []).length=n:=⟨_,rfl⟩;rw [r] at t;rw [m] at x
    have b:=Q01 (Q9I o3 o4 c3 c4 m1 Z (R1.getD k []) (R2.getD k []) wr r.symm m.symm ((X.kept a.out (Kaq _)).le a.out.size) ((R.kept a.out (Kaq _)).le a.out.size) (X1.out k g) (X2.out k p) (Y1.out k g) (Y2.out k p));have v:=Q01 (fun h=> Qa4 (R1:=R1) (R2:=R2) g h);have F:=U;clear P O X R r m;obtain ⟨q,B⟩:∃q,Q1i (R1.getD k []) (R2.getD k [])=q:=⟨_,rfl⟩;rw [B] at b v;have HQ:=Q01 B;clear B
    by_cases h0:q=0
    ·subst h0
     go_wp2_with fail;refine b.out.mono ?_;rintro e v1 ⟨rfl,y⟩;have l:=Q01 (a.out.trans (y.mono a.out.size))
     have E:Hid (∀q,q < k+1→Q1i (R1.getD q []) (R2.getD q [])=0):=fun q B=> by
      rcases Nat.lt_succ_iff_lt_or_eq.1 B with h|h
      ·exact F.out q h
      ·rw [h];exact HQ.out
     clear y b t x;go_wp2;go_roundw
     case rel=> exact ⟨k+1,by omega,by go_num,rfl,E.out,l.out⟩
     case measure=> simp [intOf];omega
    ·have z:=Q01 (v.out h0)
     have C:(q==0)=false:=by simpa using h0
     rw [C] at b;go_wp2_with fail;refine b.out.mono ?_;rintro e v1 ⟨rfl,y⟩;have l:=Q01 (a.out.trans (y.mono a.out.size));clear y b t x;go_wp2;go_ret;exact ⟨Q0d z.out.symm,l.out⟩
   ·have e:k=c:=by omega
    subst e;have z:Hid (Q1z R1 R2=true):=Q5I (by rw [←s.out,←u.out]) (fun i hi=> U.out i (by rw [s.out];exact hi));go_wp2;go_ret;exact ⟨Q0d z.out.symm,a.out⟩
 ·have z:Hid (Q1z R1 R2=false):=Q9k (by rw [←f,←d];exact hlen)
  have aa:¬((c:Int)=(A:Int)):=by omega
  clear f d hlen M h2 L D G J;go_enter Tryz.func138,Tryz.ntmps138;go_wp2;go_ret;exact ⟨Q0d z.out.symm,Below.refl _ _⟩
def QdP (S:Nat→Nat):Nat→Nat
 |0=> 0
 |n+1=> QdP S n+S n
theorem Q5d (S:Nat→Nat) (m:Nat) (h:∀i,S i≤m):∀n,QdP S n≤m * n
 |0=> Kcq _
 |n+1=> by have:=Q5d S m h n;have:=h n;unfold QdP;rw [Nat.mul_succ];omega
def Qiu (ll:List (List Int)) (i:Nat):Nat:=(ll.getD i []).length
def szT (ll:List (List Int)):Nat:=QdP (Qiu ll) ll.length
def Qb8 (lll:List (List (List Int))) (i:Nat):Nat:=szT (lll.getD i [])
def szR (lll:List (List (List Int))):Nat:=QdP (Qb8 lll) lll.length
def Qgh (key:Int) (l:List Bk):Nat:=if Q1P key=true∧Q0e l=true then 8 else 0
theorem Q8w {wr:World} {base g:Nat} {hs:List Hd} {k n:Nat} {o:Option Addr} {m c:Nat} (j:k < n) (i:hs.length=k) (h:wr.ownsRow base 47 1 (.slice (some ⟨g,0,none⟩) n n) n ((hs++List.replicate (n - k) Q0H.d).flatMap Q0H.cs)):
  (wr.setCell ⟨g,k,none⟩ (.slice o m c)).ownsRow base 47 1 (.slice (some ⟨g,0,none⟩) n n) n (((hs++[(o,m,c)])++List.replicate (n - (k+1)) Q0H.d).flatMap Q0H.cs):=by
 have b:=(h.stored k (.slice o m c)).1;rw [Qa7 Q0H rfl (a:=(o,m,c)) rfl] at b
 have f:n - k=(n - (k+1))+1:=by omega
 rw [f,List.replicate_succ,List.set_append_right _ _ (by omega),i,Nat.sub_self,List.set_cons_zero] at b;rw [List.append_assoc];exact b
theorem Q7m (key:Int) (o:Option Addr) (cap:Nat) (l:List Bk) (w:World) (M:RdK w.heap.size w o l) (z:l.length≤1048576):
  Calls Tryz.prog 163 #[.int .i64 key,.slice o l.length cap] w fun e w'=> ∃v,e=.returned v∧OwnT w' w.heap.size v (Qgh key l) (fun b=> Q19 key b l)∧Below w.heap.size w w':=by
 have a:=fun w=> Q10 key w
 have j:=Q34 o cap l w M z
 by_cases hk:Q1P key=true
 ·rw [hk] at a
  by_cases hl:Q0e l=true
  ·rw [hl] at j
   have E:=Q01 (show Qgh key l=8 by rw [Qgh,if_pos ⟨hk,hl⟩]);have HP:=Q01 (fun (b:Nat) W h=> Q88 key b o cap l W h z);obtain ⟨i0,hi,Z,N,aa⟩:=info_parts Q6V;go_enter Tryz.func163,Tryz.ntmps163;go_wp2_with (first|(go_at_call 115;refine (a _).mono ?_;rintro e w1 ⟨rfl,rfl⟩)|(go_at_call 175;refine j.mono ?_;rintro e r ⟨rfl,f⟩)|(H;refine wpList_make_full _ rfl _ _ 51 rfl r.heap.size 47 i0 (.slice none 0 0) 1 Tryz.underlying51 hi Z N _ _ _ _ 8 rfl rfl rfl rfl ?b2 ?b3 ?b4 ?_))
   case b2=> rw [aa];omega
   case b3=> unfold maxLen;omega
   case b4=> simp
   intro V A n;have J:Below r.heap.size r V:=(Below.refl _ _).grown n (Kaq _) (fun k h=> by cases h);have B:Below w.heap.size w V:=f.trans (J.mono f.size);have I:w.heap.size≤r.heap.size:=f.size
   have C:V.ownsRow w.heap.size 47 1 (.slice (some ⟨r.heap.size,0,none⟩) 8 8) 8 ((([]:List Hd)++List.replicate (8 - 0) Q0H.d).flatMap Q0H.cs):=by
    rw [List.nil_append,Nat.sub_zero,←Q3B Q0H (.slice none 0 0) rfl,show Q0H.k=1 from rfl,Nat.mul_one];exact Q04 A I
   clear A n J j f;go_wp2
   go_loopw [18] (fun iv wr=> ∃(k:Nat) (hs:List Hd),k≤8∧iv=.int .i64 k∧wr.ownsRow w.heap.size 47 1 (.slice (some ⟨r.heap.size,0,none⟩) 8 8) 8 ((hs++List.replicate (8 - k) Q0H.d).flatMap Q0H.cs)∧Tab (fun b=> Q19 key b l) k wr w.heap.size hs∧Below w.heap.size w wr)
    (fun iv _=> 8 - (intOf iv).toNat)
   case atStart=> exact ⟨0,[],Kcq _,rfl,C,Tab.nil _ _ _,B⟩
   case round=>
    obtain ⟨k,hs,ac,rfl,s,t,g⟩:=hrel
    by_cases hlt:k < 8
    ·have hp:=HP.out k wr ((M.kept g (Kaq _)).le g.size)
     have U:=Q01 s;have D:=Q01 t;have L:=Q01 g
     have z1:(k:Int) < 8:=by omega
     have HR:=Q01 M;clear s t g C B M;go_wp2_with fail;refine hp.mono ?_;rintro e w4 ⟨v4,rfl,x,y⟩;obtain ⟨Y,R,e4,_⟩:=x.open;rw [e4] at x ⊢;have i:=Q01 (Q03 U.out y)
     have T:((hs++List.replicate (8 - k) Q0H.d).flatMap Q0H.cs).length=8:=by rw [Q0n,List.length_append,List.length_replicate,D.out.len,show Q0H.k=1 from rfl];omega
     have F:=i.out.cellAt k (by omega);have ab:=i.out.frozenAt k;obtain ⟨u,hu⟩:∃u,w4.cell? ⟨r.heap.size,k,none⟩=some u:=⟨_,F.trans (List.getElem?_eq_getElem (by omega))⟩;have P:=Q01 (Q8w (o:=Y) (m:=(Q19 key k l).length) (c:=R) hlt D.out.len i.out);have G:=(D.out.kept y).snoc D.out.lt L.out.size x;have O:=Q01 (G.other i.out QgQ (i.out.stored k (.slice Y (Q19 key k l).length R)).2);have X:=Q01 ((L.out.trans (y.mono L.out.size)).setCell (p:=⟨r.heap.size,k,none⟩) I (.slice Y (Q19 key k l).length R));clear x y F G e4 hp T
     generalize (Q19 key k l).length=q at *;go_wp2;go_roundw
     case rel=> exact ⟨k+1,_,by omega,by go_num,P.out,O.out,X.out⟩
     case measure=> simp [intOf];omega
    ·have e:k=8:=by omega
     subst e;have U:=Q01 s;have D:=Q01 t;have L:=Q01 g;clear s t g C B;go_wp2;go_ret;refine ⟨_,rfl,.inr ⟨r.heap.size,hs,by rw [E.out];rfl, ?_,by rw [E.out];exact D.out⟩,L.out⟩;have h1:=U.out;rw [Nat.sub_self,List.replicate_zero,List.append_nil] at h1;unfold ownL;rw [D.out.len];exact h1
  ·rw [Bool.eq_false_iff.2 hl] at j
   have E:=Q01 (show Qgh key l=0 by rw [Qgh,if_neg (fun q=> hl q.2)]);go_enter Tryz.func163,Tryz.ntmps163;go_wp2_with (first|(go_at_call 115;refine (a _).mono ?_;rintro e w1 ⟨rfl,rfl⟩)|(go_at_call 175;refine j.mono ?_;rintro e r ⟨rfl,f⟩));go_ret;exact ⟨_,rfl,.inl ⟨rfl,E.out⟩,f⟩
 ·rw [Bool.eq_false_iff.2 hk] at a
  have E:=Q01 (show Qgh key l=0 by rw [Qgh,if_neg (fun q=> hk q.1)]);go_enter Tryz.func163,Tryz.ntmps163;go_wp2_with (first|(go_at_call 115;refine (a _).mono ?_;rintro e w1 ⟨rfl,rfl⟩));go_ret;exact ⟨_,rfl,.inl ⟨rfl,E.out⟩,Below.refl _ _⟩
end Go.Proofs.YtpneolgdghbinaaGreat
