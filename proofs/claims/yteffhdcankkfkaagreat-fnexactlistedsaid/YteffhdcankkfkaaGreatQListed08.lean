/- Several texts in one: SHeap2, HeapMath. -/
import Derived.BigRegion
import Derived.Test.YteffhdcankkfkaaGreatQListed07
namespace Go.Proofs.YteffhdcankkfkaaGreat
open Go.ChangeShapes Go.WideShapes Go.ChangeAt Go.RowKit Go.Joins
set_option linter.unusedVariables false
set_option linter.unusedSimpArgs false
set_option maxRecDepth 100000
set_option maxHeartbeats 40000000
abbrev Sc:=Int × Int
def Qcq:Lay Sc:=⟨2,fun a=> [.int .i64 a.1,.int .i64 a.2],(0,0),fun _=>rfl⟩
abbrev QdT:=ownL Qcq 361
def Qbs (a b:Sc):Bool:=if a.2=b.2 then decide (a.1 < b.1)else decide (b.2 < a.2)
theorem RdL.sc {w:World} {b a:Nat} {l:List Sc} (h:∀i,i < l.length->∀j,j < Qcq.k->w.cell? ⟨b,a+i * Qcq.k+j,none⟩=(Qcq.cs (l.getD i Qcq.d))[j]?) (i:Nat) (hi:i < l.length):
  w.cell? ⟨b,a+i * 2,none⟩=some (.int .i64 (l.getD i (0,0)).1)/\w.cell? ⟨b,a+i * 2+1,none⟩=some (.int .i64 (l.getD i (0,0)).2):=
 ⟨h i hi 0 (by decide),h i hi 1 (by decide)⟩
def Q28 (l:List Sc) (i j:Nat):List Sc:=(l.set i (l.getD j (0,0))).set j (l.getD i (0,0))
theorem Q0J (l:List Sc) (i j:Nat):(Q28 l i j).length=l.length:=by simp[Q28]
theorem Q89 {α:Type} (L:Lay α) (b:L.k=2) {f g:Value} {a:α} (d:L.cs a=[f,g]):∀(l:List α) (i:Nat),((l.flatMap L.cs).set (i * 2) f).set (i * 2+1) g=(l.set i a).flatMap L.cs
 |[],i=>by simp
 |q::l,0=>by
  have c:=(L.len q).trans b
  match hc:L.cs q,c with
  |[q0,q1],_=>simp[d,hc]
 |q::l,i+1=>by
  have c:=(L.len q).trans b
  match hc:L.cs q,c with
  |[q0,q1],_=>
   rw[show(i+1) * 2=i * 2+1+1 by omega];simp only[List.flatMap_cons,hc,List.cons_append,List.nil_append,List.set_cons_succ];rw[Q89 L b d l i]
theorem Q0W {w:World} {p q:Addr} {x v:Value} (h:w.cell? q=some v):∃a,(w.setCell p x).cell? q=some a:=by
 by_cases e:p=q
 ·subst e;exact⟨x,World.cell?_setCell_same w p x h⟩
 ·exact⟨v,(World.cell?_setCell_other w p q x e).trans h⟩
theorem Q1g {a b c:World} {r:Option Nat} (h:a.grownBy b r) (k:b.grownBy c r):a.grownBy c r:=
 ⟨k.os.trans h.os,k.tape.trans h.tape,k.output.trans h.output,Kdq h.size k.size,fun i hi d=>(k.block i (Kbq hi h.size) d).trans (h.block i hi d)⟩
theorem Qc7 {w:World} {base g c:Nat} {l:List Sc} {n i:Nat} {x y:Int} (h:w.ownsRow base 361 2 (.slice (some ⟨g,0,none⟩) n c) n (l.flatMap Qcq.cs)):
  ((w.setCell ⟨g,i * 2,none⟩ (.int .i64 x)).setCell ⟨g,i * 2+1,none⟩ (.int .i64 y)).ownsRow base 361 2 (.slice (some ⟨g,0,none⟩) n c) n ((l.set i (x,y)).flatMap Qcq.cs)/\w.grownBy ((w.setCell ⟨g,i * 2,none⟩ (.int .i64 x)).setCell ⟨g,i * 2+1,none⟩ (.int .i64 y)) (some g):=by
 have b:=h.stored (i * 2) (.int .i64 x);have h2:=b.1.stored (i * 2+1) (.int .i64 y);rw[Q89 Qcq rfl (a:=(x,y)) rfl]at h2;exact⟨h2.1,Q1g b.2 h2.2⟩
theorem Qfz {w:World} {base g c:Nat} {l:List Sc} {i j:Nat} {b xs d f:Int} (h:QdT w base (.slice (some ⟨g,0,none⟩) l.length c) l) (hi:l.getD i (0,0)=(b,xs)) (n:l.getD j (0,0)=(d,f)):
  QdT ((((w.setCell ⟨g,i * 2,none⟩ (.int .i64 d)).setCell ⟨g,i * 2+1,none⟩ (.int .i64 f)).setCell ⟨g,j * 2,none⟩ (.int .i64 b)).setCell ⟨g,j * 2+1,none⟩ (.int .i64 xs)).drew base (.slice (some ⟨g,0,none⟩) l.length c) (Q28 l i j)/\
   w.grownBy ((((w.setCell ⟨g,i * 2,none⟩ (.int .i64 d)).setCell ⟨g,i * 2+1,none⟩ (.int .i64 f)).setCell ⟨g,j * 2,none⟩ (.int .i64 b)).setCell ⟨g,j * 2+1,none⟩ (.int .i64 xs)).drew (some g):=by
 have k:=Qc7 (i:=i) (x:=d) (y:=f) h;have h2:=Qc7 (i:=j) (x:=b) (y:=xs) k.1;have a:=Q1g k.2 h2.2;refine⟨?_,⟨a.os,a.tape,a.output,a.size,a.block⟩⟩;have m:=h2.1.drew;unfold QdT ownL Q28;rw[hi,n,show((l.set i (d,f)).set j (b,xs)).length=l.length by simp];exact m
theorem Q2Q (o:Option Addr) (n c:Nat) (w:World):Calls Tryz.prog 294 #[.slice o n c] w fun e w'=>e=.returned (.int .i64 n)/\w=w':=by
 go_enter Tryz.func294,Tryz.ntmps294;go_wp2;go_ret;exact⟨rfl,rfl⟩
theorem Q2G (o:Option Addr) (c:Nat) (l:List Sc) (i j:Nat) (w:World) (C:Nat) (g:RdL Qcq C w o l) (hi:i < l.length) (z:j < l.length) (p:l.length<=1048576):
  Calls Tryz.prog 295 #[.slice o l.length c,.int .i64 i,.int .i64 j] w fun e D=>e=.returned (.bool (Qbs (l.getD i (0,0)) (l.getD j (0,0))))/\∃q,D=w.drewN q:=by
 rcases g with g|⟨b,B,rfl,v,a⟩
 ·subst g;simp at hi
 have m:=RdL.sc a i hi;have n:=RdL.sc a j z;clear a;generalize l.getD i (0,0)=x at *;generalize l.getD j (0,0)=y at *;obtain⟨h,xs⟩:=x;obtain⟨k,d⟩:=y;dsimp only at m n;obtain⟨r,s⟩:=m;obtain⟨t,u⟩:=n
 have E:(i:Int) < (l.length:Int):=by omega
 have F:(j:Int) < (l.length:Int):=by omega
 by_cases hs:xs=d
 ·have A:(xs !=d)=false:=by simp[hs]
  have f:=Q00 (show decide (h < k)=Qbs (h,xs) (k,d)by simp[Qbs,hs]);clear hs;go_enter Tryz.func295,Tryz.ntmps295;go_wp2
  go_quiet (fail)
  go_wp2
  go_quiet (fail)
  go_wp2;go_ret;exact⟨Q03 f.out,_,(World.drewN_drewN _ _ _)⟩
 ·have A:(xs !=d)=true:=by simp[hs]
  have f:=Q00 (show decide (d < xs)=Qbs (h,xs) (k,d)by simp[Qbs,hs]);clear hs;go_enter Tryz.func295,Tryz.ntmps295;go_wp2
  go_quiet (fail)
  go_wp2
  go_quiet (fail)
  go_wp2;go_ret;exact⟨Q03 f.out,_,(World.drewN_drewN _ _ _)⟩
theorem Q2H (base g c:Nat) (l:List Sc) (i j:Nat) (w:World) (a:QdT w base (.slice (some ⟨g,0,none⟩) l.length c) l) (hi:i < l.length) (O:j < l.length) (f:l.length<=1048576):
  Calls Tryz.prog 298 #[.slice (some ⟨g,0,none⟩) l.length c,.int .i64 i,.int .i64 j] w fun e z=>e=.returned (.tuple #[])/\QdT z base (.slice (some ⟨g,0,none⟩) l.length c) (Q28 l i j)/\w.grownBy z (some g):=by
 have s:=a.rd
 rcases s with s|⟨b,P,F,M,d⟩
 ·subst s;simp at hi
 cases F
 have m:=RdL.sc d i hi;have n:=RdL.sc d j O;clear d;simp only[Nat.zero_add]at m n
 have z1:(i:Int) < (l.length:Int):=by omega
 have z2:(j:Int) < (l.length:Int):=by omega
 have G:=a.frozenAt (i * 2);have H:=a.frozenAt (i * 2+1);have I:=a.frozenAt (j * 2);have J:=a.frozenAt (j * 2+1);have C:=Q00 a;clear a;have U:=Q00 (show(l.set i (l.getD j (0,0))).set j (l.getD i (0,0))=Q28 l i j from rfl);have T:=Q00 f;generalize hgi:l.getD i (0,0)=x at *;generalize hgj:l.getD j (0,0)=y at *;have h:=Q00 hgi;have k:=Q00 hgj;clear hgi hgj;obtain⟨R,xs⟩:=x;obtain⟨A,B⟩:=y;dsimp only at m n;obtain⟨D,E⟩:=m;obtain⟨q,r⟩:=n;obtain⟨V,t⟩:=Q0W (w:=w) (p:=⟨g,i * 2,none⟩) (x:=.int .i64 A) q
 obtain⟨X,u⟩:=Q0W (w:=w) (p:=⟨g,i * 2,none⟩) (x:=.int .i64 A) r;obtain⟨Y,L⟩:=Q0W (p:=⟨g,i * 2+1,none⟩) (x:=.int .i64 B) t;obtain⟨Z,v⟩:=Q0W (p:=⟨g,i * 2+1,none⟩) (x:=.int .i64 B) u;obtain⟨c1,N⟩:=Q0W (p:=⟨g,j * 2,none⟩) (x:=.int .i64 R) v;go_enter Tryz.func298,Tryz.ntmps298;go_wp2
 go_region
 all_goals (try go_wp2)
 all_goals go_end0
 all_goals exact⟨rfl,Qfz C.out h.out k.out⟩
def Q4i (a:Sc):Int:=a.1 - 8 * a.2
def okS (a:Sc):Prop:=0<=a.1/\a.1 < 8
theorem Q1r {a b:Sc} (f:okS a) (g:okS b):Qbs a b=decide (Q4i a < Q4i b):=by
 obtain⟨i,c⟩:=a;obtain⟨j,d⟩:=b;unfold okS at f g;unfold Qbs Q4i;dsimp only at *
 by_cases h:c=d
 ·rw[if_pos h];congr 1;apply propext;constructor <;> intro <;> omega
 ·rw[if_neg h];congr 1;apply propext;constructor <;> intro <;> omega
abbrev fr (l:List Sc) (i:Nat):Int:=Q4i (l.getD i (0,0))
def okD (l:List Sc):Prop:=∀i,i < l.length->okS (l.getD i (0,0))
def Q3j (l:List Sc) (n:Nat):Prop:=∀i,1<=i->i < n->fr l ((i - 1) / 2)<=fr l i
def QcJ (l:List Sc) (n j:Nat):Prop:=(∀i,1<=i->i < n->i≠j->fr l ((i - 1) / 2)<=fr l i)/\(1<=j->∀i,1<=i->i < n->(i - 1) / 2=j->fr l ((j - 1) / 2)<=fr l i)
def Q5e (l:List Sc) (n i:Nat):Prop:=(∀c,1<=c->c < n->(c - 1) / 2≠i->fr l ((c - 1) / 2)<=fr l c)/\(1<=i->∀c,1<=c->c < n->(c - 1) / 2=i->fr l ((i - 1) / 2)<=fr l c)
def QiV (l:List Sc) (n:Nat):Prop:=∀i j,i < n->j < n->l.getD i (0,0)=l.getD j (0,0)->i=j
def Same (l l':List Sc) (n:Nat):Prop:=l'.length=l.length/\(∀z,(∃i,i < n/\l'.getD i (0,0)=z)↔(∃i,i < n/\l.getD i (0,0)=z))/\(QiV l n->QiV l' n)
theorem Same.refl (l:List Sc) (n:Nat):Same l l n:=⟨rfl,fun _=>Iff.rfl,fun h=>h⟩
theorem Same.trans {a b c:List Sc} {n:Nat} (h:Same a b n) (k:Same b c n):Same a c n:=⟨k.1.trans h.1,fun z=>(k.2.1 z).trans (h.2.1 z),fun d=>k.2.2 (h.2.2 d)⟩
theorem Q1k (l:List Sc) (i j m:Nat) (hi:i < l.length) (a:j < l.length):(Q28 l i j).getD m (0,0)=if m=j then l.getD i (0,0)else if m=i then l.getD j (0,0)else l.getD m (0,0):=by
 unfold Q28;simp only[KFq,List.getElem?_set,List.length_set]
 by_cases h1:m=j
 ·subst h1;simp[a]
 ·rw[if_neg (fun e=>h1 e.symm),if_neg h1]
  by_cases h2:m=i
  ·subst h2;simp[hi]
  ·rw[if_neg (fun e=>h2 e.symm),if_neg h2]
theorem Q90 (l:List Sc) (i j m:Nat) (hi:i < l.length) (a:j < l.length):fr (Q28 l i j) m=if m=j then fr l i else if m=i then fr l j else fr l m:=by
 unfold fr;rw[Q1k l i j m hi a];split
 ·rfl
 ·split <;> rfl
theorem Q4o {l:List Sc} (i j:Nat) (hi:i < l.length) (a:j < l.length) (h:okD l):okD (Q28 l i j):=fun m b=>by
 rw[Q0J]at b;rw[Q1k l i j m hi a]
 split
 ·exact h i hi
 ·split
  ·exact h j a
  ·exact h m b
theorem Q3P {l:List Sc} (i j n:Nat) (hi:i < n) (a:j < n) (g:n<=l.length):Same l (Q28 l i j) n:=by
 refine⟨Q0J l i j,fun z=>⟨?_, ?_⟩,fun d p q c f e=>?_⟩
 ·rintro⟨m,b,e⟩
  rw[Q1k l i j m (by omega) (by omega)]at e
  split at e
  ·exact⟨i,hi,e⟩
  ·split at e
   ·exact⟨j,a,e⟩
   ·exact⟨m,b,e⟩
 ·rintro⟨m,b,e⟩
  by_cases h1:m=i
  ·refine⟨j,a, ?_⟩
   rw[Q1k l i j j (by omega) (by omega),if_pos rfl,<-h1];exact e
  ·by_cases h2:m=j
   ·refine⟨i,hi, ?_⟩
    rw[Q1k l i j i (by omega) (by omega)]
    by_cases h3:i=j
    ·rw[if_pos h3];rw[h2,<-h3]at e;exact e
    ·rw[if_neg h3,if_pos rfl,<-h2];exact e
   ·exact⟨m,b,by rw[Q1k l i j m (by omega) (by omega),if_neg h2,if_neg h1];exact e⟩
 ·rw[Q1k l i j p (by omega) (by omega),Q1k l i j q (by omega) (by omega)]at e
  by_cases p1:p=j
  ·rw[if_pos p1]at e
   by_cases q1:q=j
   ·omega
   ·rw[if_neg q1]at e
    by_cases q2:q=i
    ·rw[if_pos q2]at e;have:=d i j hi a e;omega
    ·rw[if_neg q2]at e;have:=d i q hi f e;omega
  ·rw[if_neg p1]at e
   by_cases p2:p=i
   ·rw[if_pos p2]at e
    by_cases q1:q=j
    ·rw[if_pos q1]at e;have:=d j i a hi e;omega
    ·rw[if_neg q1]at e
     by_cases q2:q=i
     ·omega
     ·rw[if_neg q2]at e;have:=d j q a f e;omega
   ·rw[if_neg p2]at e
    by_cases q1:q=j
    ·rw[if_pos q1]at e;have:=d p i c hi e;omega
    ·rw[if_neg q1]at e
     by_cases q2:q=i
     ·rw[if_pos q2]at e;have:=d p j c a e;omega
     ·rw[if_neg q2]at e;exact d p q c f e
theorem Qf5 {l:List Sc} {n j:Nat} (h:QcJ l n j) (c:j=0\/fr l ((j - 1) / 2)<=fr l j):Q3j l n:=fun i b h2=>by
 by_cases e:i=j
 ·subst e
  rcases c with a|a
  ·omega
  ·exact a
 ·exact h.1 i b h2 e
theorem QhR {l:List Sc} {n j p:Nat} (h:QcJ l n j) (f:p=(j - 1) / 2) (c:1<=j) (q:j < n) (t:n<=l.length) (r:fr l j < fr l p):QcJ (Q28 l p j) n p:=by
 have u:p < j:=by omega
 have F:∀m,fr (Q28 l p j) m=if m=j then fr l p else if m=p then fr l j else fr l m:=fun m=>Q90 l p j m (by omega) (by omega)
 refine⟨fun i a h2 b=>?_,fun d i a h2 b=>?_⟩
 ·by_cases e1:i=j
  ·subst e1
   rw[F,F,if_pos rfl,<-f,if_neg (by omega),if_pos rfl];omega
  ·by_cases e2:(i - 1) / 2=j
   ·rw[e2,F,F,if_pos rfl,if_neg e1,if_neg b]
    have:=h.2 c i a h2 e2;rw[<-f]at this;exact this
   ·by_cases e3:(i - 1) / 2=p
    ·have:=h.1 i a h2 e1
     rw[e3]at this ⊢;rw[F,F,if_neg (by omega),if_pos rfl,if_neg e1,if_neg b];omega
    ·have:=h.1 i a h2 e1
     rw[F,F,if_neg e2,if_neg e3,if_neg e1,if_neg b];exact this
 ·have s:(p - 1) / 2 < p:=by omega
  have g:=h.1 p d (by omega) (by omega);rw[F ((p - 1) / 2),if_neg (by omega),if_neg (by omega),F i]
  by_cases e1:i=j
  ·rw[if_pos e1];exact g
  ·rw[if_neg e1,if_neg (by omega)]
   have k:=h.1 i a h2 e1;rw[b]at k;omega
theorem Q4I {l:List Sc} {n i:Nat} (h:Q5e l n i) (hc:∀c,1<=c->c < n->(c - 1) / 2=i->fr l i<=fr l c):Q3j l n:=fun c h1 h2=>by
 by_cases e:(c - 1) / 2=i
 ·rw[e];exact hc c h1 h2 e
 ·exact h.1 c h1 h2 e
theorem Q6d {l:List Sc} {n i j:Nat} (h:Q5e l n i) (f:1<=j) (g:j < n) (k:(j - 1) / 2=i) (r:n<=l.length) (q:fr l j < fr l i) (a:∀c,1<=c->c < n->(c - 1) / 2=i->fr l j<=fr l c):Q5e (Q28 l i j) n j:=by
 have s:i < j:=by omega
 have F:∀m,fr (Q28 l i j) m=if m=j then fr l i else if m=i then fr l j else fr l m:=fun m=>Q90 l i j m (by omega) (by omega)
 refine⟨fun c b h2 d=>?_,fun _ c b h2 d=>?_⟩
 ·by_cases e1:(c - 1) / 2=i
  ·rw[e1,F i,if_neg (by omega),if_pos rfl,F c]
   by_cases e2:c=j
   ·rw[if_pos e2];omega
   ·rw[if_neg e2,if_neg (by omega)];exact a c b h2 e1
  ·rw[F ((c - 1) / 2),if_neg d,if_neg e1,F c]
   have p:=h.1 c b h2 e1
   by_cases e2:c=j
   ·subst e2;omega
   ·rw[if_neg e2]
    by_cases e3:c=i
    ·subst e3
     rw[if_pos rfl];have:=h.2 b j f g k;exact this
    ·rw[if_neg e3];exact p
 ·rw[k,F i,if_neg (by omega),if_pos rfl,F c,if_neg (by omega),if_neg (by omega)]
  have:=h.1 c b h2 (by omega);rw[d]at this;exact this
theorem Qca {l:List Sc} {n:Nat} (h:Q3j l n):∀i,i < n->fr l 0<=fr l i:=fun i=>by
 induction i using Nat.strongRecOn with
 |_ i ih=>
  intro hi
  by_cases h0:i=0
  ·subst h0;exact Int.le_refl _
  ·exact Int.le_trans (ih ((i - 1) / 2) (by omega) (by omega)) (h i (by omega) hi)
end Go.Proofs.YteffhdcankkfkaaGreat
