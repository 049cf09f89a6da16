/- Several texts in one: SHeap2, HeapMath. -/
import Derived.BigRegion
import Derived.Test.YtpneolgdghbinaaGreatQCrashesL12
namespace Go.Proofs.YtpneolgdghbinaaGreat
open Go.ChangeShapes Go.WideShapes Go.ChangeAt Go.RowKit Go.Joins
set_option linter.unusedVariables false
set_option linter.unusedSimpArgs false
set_option maxRecDepth 100000
set_option maxHeartbeats 40000000
abbrev Sc:=Int × Int
def Q7i:Lay Sc:=⟨2,fun a=> [.int .i64 a.1,.int .i64 a.2],(0,0),fun _=>rfl⟩
abbrev Q6H:=ownL Q7i 266
def Q52 (a b:Sc):Bool:=if a.2=b.2 then decide (a.1 < b.1)else decide (b.2 < a.2)
theorem RdL.sc {w:World} {b off:Nat} {l:List Sc} (h:∀i,i < l.length->∀j,j < Q7i.k->w.cell? ⟨b,off+i * Q7i.k+j,none⟩=(Q7i.cs (l.getD i Q7i.d))[j]?) (i:Nat) (hi:i < l.length):
  w.cell? ⟨b,off+i * 2,none⟩=some (.int .i64 (l.getD i (0,0)).1)/\w.cell? ⟨b,off+i * 2+1,none⟩=some (.int .i64 (l.getD i (0,0)).2):=
 ⟨h i hi 0 (by decide),h i hi 1 (by decide)⟩
def Q1c (l:List Sc) (i j:Nat):List Sc:=(l.set i (l.getD j (0,0))).set j (l.getD i (0,0))
theorem Q0u (l:List Sc) (i j:Nat):(Q1c l i j).length=l.length:=by simp[Q1c]
theorem Q6b {α:Type} (L:Lay α) (b:L.k=2) {f g:Value} {a:α} (d:L.cs a=[f,g]):∀(l:List α) (i:Nat),((l.flatMap L.cs).set (i * 2) f).set (i * 2+1) g=(l.set i a).flatMap L.cs
 |[],i=>by simp
 |q::l,0=>by
  have c:=(L.len q).trans b
  match hc:L.cs q,c with
  |[q0,q1],_=>simp[d,hc]
 |q::l,i+1=>by
  have c:=(L.len q).trans b
  match hc:L.cs q,c with
  |[q0,q1],_=>
   rw[show(i+1) * 2=i * 2+1+1 by omega];simp only[List.flatMap_cons,hc,List.cons_append,List.nil_append,List.set_cons_succ];rw[Q6b L b d l i]
theorem Q0C {w:World} {p q:Addr} {x v:Value} (h:w.cell? q=some v):∃a,(w.setCell p x).cell? q=some a:=by
 by_cases e:p=q
 ·subst e;exact⟨x,World.cell?_setCell_same w p x h⟩
 ·exact⟨v,(World.cell?_setCell_other w p q x e).trans h⟩
theorem Q0G {a b c:World} {r:Option Nat} (h:a.grownBy b r) (k:b.grownBy c r):a.grownBy c r:=
 ⟨k.os.trans h.os,k.tape.trans h.tape,k.output.trans h.output,Kdq h.size k.size,fun i hi d=>(k.block i (Kbq hi h.size) d).trans (h.block i hi d)⟩
theorem Q5z {w:World} {base g c:Nat} {l:List Sc} {n i:Nat} {x y:Int} (h:w.ownsRow base 266 2 (.slice (some ⟨g,0,none⟩) n c) n (l.flatMap Q7i.cs)):
  ((w.setCell ⟨g,i * 2,none⟩ (.int .i64 x)).setCell ⟨g,i * 2+1,none⟩ (.int .i64 y)).ownsRow base 266 2 (.slice (some ⟨g,0,none⟩) n c) n ((l.set i (x,y)).flatMap Q7i.cs)/\w.grownBy ((w.setCell ⟨g,i * 2,none⟩ (.int .i64 x)).setCell ⟨g,i * 2+1,none⟩ (.int .i64 y)) (some g):=by
 have b:=h.stored (i * 2) (.int .i64 x);have h2:=b.1.stored (i * 2+1) (.int .i64 y);rw[Q6b Q7i rfl (a:=(x,y)) rfl]at h2;exact⟨h2.1,Q0G b.2 h2.2⟩
theorem Q7d {w:World} {base g c:Nat} {l:List Sc} {i j:Nat} {b d f k:Int} (h:Q6H w base (.slice (some ⟨g,0,none⟩) l.length c) l) (hi:l.getD i (0,0)=(b,d)) (p:l.getD j (0,0)=(f,k)):
  Q6H ((((w.setCell ⟨g,i * 2,none⟩ (.int .i64 f)).setCell ⟨g,i * 2+1,none⟩ (.int .i64 k)).setCell ⟨g,j * 2,none⟩ (.int .i64 b)).setCell ⟨g,j * 2+1,none⟩ (.int .i64 d)).drew base (.slice (some ⟨g,0,none⟩) l.length c) (Q1c l i j)/\
   w.grownBy ((((w.setCell ⟨g,i * 2,none⟩ (.int .i64 f)).setCell ⟨g,i * 2+1,none⟩ (.int .i64 k)).setCell ⟨g,j * 2,none⟩ (.int .i64 b)).setCell ⟨g,j * 2+1,none⟩ (.int .i64 d)).drew (some g):=by
 have m:=Q5z (i:=i) (x:=f) (y:=k) h;have h2:=Q5z (i:=j) (x:=b) (y:=d) m.1;have a:=Q0G m.2 h2.2;refine⟨?_,⟨a.os,a.tape,a.output,a.size,a.block⟩⟩;have n:=h2.1.drew;unfold Q6H ownL Q1c;rw[hi,p,show((l.set i (f,k)).set j (b,d)).length=l.length by simp];exact n
theorem Q3p (o:Option Addr) (n c:Nat) (w:World):Calls Tryz.prog 214 #[.slice o n c] w fun e w'=>e=.returned (.int .i64 n)/\w=w':=by
 go_enter Tryz.func214,Tryz.ntmps214;go_wp2;go_ret;exact⟨rfl,rfl⟩
theorem Q3y (o:Option Addr) (c:Nat) (l:List Sc) (i j:Nat) (w:World) (C:Nat) (h:RdL Q7i C w o l) (hi:i < l.length) (A:j < l.length) (r:l.length<=1048576):
  Calls Tryz.prog 215 #[.slice o l.length c,.int .i64 i,.int .i64 j] w fun e D=>e=.returned (.bool (Q52 (l.getD i (0,0)) (l.getD j (0,0))))/\∃q,D=w.drewN q:=by
 rcases h with h|⟨b,off,rfl,z,a⟩
 ·subst h;simp at hi
 have n:=RdL.sc a i hi;have p:=RdL.sc a j A;clear a;generalize l.getD i (0,0)=x at *;generalize l.getD j (0,0)=y at *;obtain⟨k,d⟩:=x;obtain⟨m,f⟩:=y;dsimp only at n p;obtain⟨s,t⟩:=n;obtain⟨u,v⟩:=p
 have E:(i:Int) < (l.length:Int):=by omega
 have F:(j:Int) < (l.length:Int):=by omega
 by_cases hs:d=f
 ·have B:(d !=f)=false:=by simp[hs]
  have g:=Q02 (show decide (k < m)=Q52 (k,d) (m,f)by simp[Q52,hs]);clear hs;go_enter Tryz.func215,Tryz.ntmps215;go_wp2
  go_quiet (fail)
  go_wp2
  go_quiet (fail)
  go_wp2;go_ret;exact⟨Q08 g.out,_,(World.drewN_drewN _ _ _)⟩
 ·have B:(d !=f)=true:=by simp[hs]
  have g:=Q02 (show decide (f < d)=Q52 (k,d) (m,f)by simp[Q52,hs]);clear hs;go_enter Tryz.func215,Tryz.ntmps215;go_wp2
  go_quiet (fail)
  go_wp2
  go_quiet (fail)
  go_wp2;go_ret;exact⟨Q08 g.out,_,(World.drewN_drewN _ _ _)⟩
theorem Q3s (base g c:Nat) (l:List Sc) (i j:Nat) (w:World) (a:Q6H w base (.slice (some ⟨g,0,none⟩) l.length c) l) (hi:i < l.length) (O:j < l.length) (f:l.length<=1048576):
  Calls Tryz.prog 218 #[.slice (some ⟨g,0,none⟩) l.length c,.int .i64 i,.int .i64 j] w fun e z=>e=.returned (.tuple #[])/\Q6H z base (.slice (some ⟨g,0,none⟩) l.length c) (Q1c l i j)/\w.grownBy z (some g):=by
 have s:=a.rd
 rcases s with s|⟨b,off,F,M,d⟩
 ·subst s;simp at hi
 cases F
 have m:=RdL.sc d i hi;have n:=RdL.sc d j O;clear d;simp only[Nat.zero_add]at m n
 have z1:(i:Int) < (l.length:Int):=by omega
 have z2:(j:Int) < (l.length:Int):=by omega
 have G:=a.frozenAt (i * 2);have H:=a.frozenAt (i * 2+1);have I:=a.frozenAt (j * 2);have J:=a.frozenAt (j * 2+1);have C:=Q02 a;clear a;have T:=Q02 (show(l.set i (l.getD j (0,0))).set j (l.getD i (0,0))=Q1c l i j from rfl);have R:=Q02 f;generalize hgi:l.getD i (0,0)=x at *;generalize hgj:l.getD j (0,0)=y at *;have h:=Q02 hgi;have k:=Q02 hgj;clear hgi hgj;obtain⟨P,Z⟩:=x;obtain⟨A,B⟩:=y;dsimp only at m n;obtain⟨D,E⟩:=m;obtain⟨q,r⟩:=n;obtain⟨U,t⟩:=Q0C (w:=w) (p:=⟨g,i * 2,none⟩) (x:=.int .i64 A) q
 obtain⟨V,u⟩:=Q0C (w:=w) (p:=⟨g,i * 2,none⟩) (x:=.int .i64 A) r;obtain⟨b0,L⟩:=Q0C (p:=⟨g,i * 2+1,none⟩) (x:=.int .i64 B) t;obtain⟨X,v⟩:=Q0C (p:=⟨g,i * 2+1,none⟩) (x:=.int .i64 B) u;obtain⟨Y,N⟩:=Q0C (p:=⟨g,j * 2,none⟩) (x:=.int .i64 P) v;go_enter Tryz.func218,Tryz.ntmps218;go_wp2
 go_region
 all_goals (try go_wp2)
 all_goals go_end0
 all_goals exact⟨rfl,Q7d C.out h.out k.out⟩
def Q45 (a:Sc):Int:=a.1 - 8 * a.2
def okS (a:Sc):Prop:=0<=a.1/\a.1 < 8
theorem Q0I {a b:Sc} (f:okS a) (g:okS b):Q52 a b=decide (Q45 a < Q45 b):=by
 obtain⟨i,c⟩:=a;obtain⟨j,d⟩:=b;unfold okS at f g;unfold Q52 Q45;dsimp only at *
 by_cases h:c=d
 ·rw[if_pos h];congr 1;apply propext;constructor <;> intro <;> omega
 ·rw[if_neg h];congr 1;apply propext;constructor <;> intro <;> omega
abbrev fr (l:List Sc) (i:Nat):Int:=Q45 (l.getD i (0,0))
def okD (l:List Sc):Prop:=∀i,i < l.length->okS (l.getD i (0,0))
def HeapP (l:List Sc) (n:Nat):Prop:=∀i,1<=i->i < n->fr l ((i - 1) / 2)<=fr l i
def Q6l (l:List Sc) (n j:Nat):Prop:=(∀i,1<=i->i < n->i≠j->fr l ((i - 1) / 2)<=fr l i)/\(1<=j->∀i,1<=i->i < n->(i - 1) / 2=j->fr l ((j - 1) / 2)<=fr l i)
def Q2c (l:List Sc) (n i:Nat):Prop:=(∀c,1<=c->c < n->(c - 1) / 2≠i->fr l ((c - 1) / 2)<=fr l c)/\(1<=i->∀c,1<=c->c < n->(c - 1) / 2=i->fr l ((i - 1) / 2)<=fr l c)
def QiV (l:List Sc) (n:Nat):Prop:=∀i j,i < n->j < n->l.getD i (0,0)=l.getD j (0,0)->i=j
def Same (l l':List Sc) (n:Nat):Prop:=l'.length=l.length/\(∀z,(∃i,i < n/\l'.getD i (0,0)=z)↔(∃i,i < n/\l.getD i (0,0)=z))/\(QiV l n->QiV l' n)
theorem Same.refl (l:List Sc) (n:Nat):Same l l n:=⟨rfl,fun _=>Iff.rfl,fun h=>h⟩
theorem Same.trans {a b c:List Sc} {n:Nat} (h:Same a b n) (k:Same b c n):Same a c n:=⟨k.1.trans h.1,fun z=>(k.2.1 z).trans (h.2.1 z),fun d=>k.2.2 (h.2.2 d)⟩
theorem Q13 (l:List Sc) (i j m:Nat) (hi:i < l.length) (a:j < l.length):(Q1c l i j).getD m (0,0)=if m=j then l.getD i (0,0)else if m=i then l.getD j (0,0)else l.getD m (0,0):=by
 unfold Q1c;simp only[KFq,List.getElem?_set,List.length_set]
 by_cases h1:m=j
 ·subst h1;simp[a]
 ·rw[if_neg (fun e=>h1 e.symm),if_neg h1]
  by_cases h2:m=i
  ·subst h2;simp[hi]
  ·rw[if_neg (fun e=>h2 e.symm),if_neg h2]
theorem Q3X (l:List Sc) (i j m:Nat) (hi:i < l.length) (a:j < l.length):fr (Q1c l i j) m=if m=j then fr l i else if m=i then fr l j else fr l m:=by
 unfold fr;rw[Q13 l i j m hi a];split
 ·rfl
 ·split <;> rfl
theorem Q1W {l:List Sc} (i j:Nat) (hi:i < l.length) (a:j < l.length) (h:okD l):okD (Q1c l i j):=fun m hm=>by
 rw[Q0u]at hm;rw[Q13 l i j m hi a]
 split
 ·exact h i hi
 ·split
  ·exact h j a
  ·exact h m hm
theorem swapD_same {l:List Sc} (i j n:Nat) (hi:i < n) (a:j < n) (f:n<=l.length):Same l (Q1c l i j) n:=by
 refine⟨Q0u l i j,fun z=>⟨?_, ?_⟩,fun d p q b c e=>?_⟩
 ·rintro⟨m,hm,e⟩
  rw[Q13 l i j m (by omega) (by omega)]at e
  split at e
  ·exact⟨i,hi,e⟩
  ·split at e
   ·exact⟨j,a,e⟩
   ·exact⟨m,hm,e⟩
 ·rintro⟨m,hm,e⟩
  by_cases h1:m=i
  ·refine⟨j,a, ?_⟩
   rw[Q13 l i j j (by omega) (by omega),if_pos rfl,<-h1];exact e
  ·by_cases h2:m=j
   ·refine⟨i,hi, ?_⟩
    rw[Q13 l i j i (by omega) (by omega)]
    by_cases h3:i=j
    ·rw[if_pos h3];rw[h2,<-h3]at e;exact e
    ·rw[if_neg h3,if_pos rfl,<-h2];exact e
   ·exact⟨m,hm,by rw[Q13 l i j m (by omega) (by omega),if_neg h2,if_neg h1];exact e⟩
 ·rw[Q13 l i j p (by omega) (by omega),Q13 l i j q (by omega) (by omega)]at e
  by_cases p1:p=j
  ·rw[if_pos p1]at e
   by_cases q1:q=j
   ·omega
   ·rw[if_neg q1]at e
    by_cases q2:q=i
    ·rw[if_pos q2]at e;have:=d i j hi a e;omega
    ·rw[if_neg q2]at e;have:=d i q hi c e;omega
  ·rw[if_neg p1]at e
   by_cases p2:p=i
   ·rw[if_pos p2]at e
    by_cases q1:q=j
    ·rw[if_pos q1]at e;have:=d j i a hi e;omega
    ·rw[if_neg q1]at e
     by_cases q2:q=i
     ·omega
     ·rw[if_neg q2]at e;have:=d j q a c e;omega
   ·rw[if_neg p2]at e
    by_cases q1:q=j
    ·rw[if_pos q1]at e;have:=d p i b hi e;omega
    ·rw[if_neg q1]at e
     by_cases q2:q=i
     ·rw[if_pos q2]at e;have:=d p j b a e;omega
     ·rw[if_neg q2]at e;exact d p q b c e
theorem Q7e {l:List Sc} {n j:Nat} (h:Q6l l n j) (c:j=0\/fr l ((j - 1) / 2)<=fr l j):HeapP l n:=fun i b h2=>by
 by_cases e:i=j
 ·subst e
  rcases c with a|a
  ·omega
  ·exact a
 ·exact h.1 i b h2 e
theorem QbO {l:List Sc} {n j p:Nat} (h:Q6l l n j) (f:p=(j - 1) / 2) (c:1<=j) (q:j < n) (t:n<=l.length) (r:fr l j < fr l p):Q6l (Q1c l p j) n p:=by
 have u:p < j:=by omega
 have F:∀m,fr (Q1c l p j) m=if m=j then fr l p else if m=p then fr l j else fr l m:=fun m=>Q3X l p j m (by omega) (by omega)
 refine⟨fun i a h2 b=>?_,fun d i a h2 b=>?_⟩
 ·by_cases e1:i=j
  ·subst e1
   rw[F,F,if_pos rfl,<-f,if_neg (by omega),if_pos rfl];omega
  ·by_cases e2:(i - 1) / 2=j
   ·rw[e2,F,F,if_pos rfl,if_neg e1,if_neg b]
    have:=h.2 c i a h2 e2;rw[<-f]at this;exact this
   ·by_cases e3:(i - 1) / 2=p
    ·have:=h.1 i a h2 e1
     rw[e3]at this ⊢;rw[F,F,if_neg (by omega),if_pos rfl,if_neg e1,if_neg b];omega
    ·have:=h.1 i a h2 e1
     rw[F,F,if_neg e2,if_neg e3,if_neg e1,if_neg b];exact this
 ·have s:(p - 1) / 2 < p:=by omega
  have g:=h.1 p d (by omega) (by omega);rw[F ((p - 1) / 2),if_neg (by omega),if_neg (by omega),F i]
  by_cases e1:i=j
  ·rw[if_pos e1];exact g
  ·rw[if_neg e1,if_neg (by omega)]
   have k:=h.1 i a h2 e1;rw[b]at k;omega
theorem Q23 {l:List Sc} {n i:Nat} (h:Q2c l n i) (hc:∀c,1<=c->c < n->(c - 1) / 2=i->fr l i<=fr l c):HeapP l n:=fun c h1 h2=>by
 by_cases e:(c - 1) / 2=i
 ·rw[e];exact hc c h1 h2 e
 ·exact h.1 c h1 h2 e
theorem Q2L {l:List Sc} {n i j:Nat} (h:Q2c l n i) (f:1<=j) (g:j < n) (k:(j - 1) / 2=i) (r:n<=l.length) (q:fr l j < fr l i) (a:∀c,1<=c->c < n->(c - 1) / 2=i->fr l j<=fr l c):Q2c (Q1c l i j) n j:=by
 have s:i < j:=by omega
 have F:∀m,fr (Q1c l i j) m=if m=j then fr l i else if m=i then fr l j else fr l m:=fun m=>Q3X l i j m (by omega) (by omega)
 refine⟨fun c b h2 d=>?_,fun _ c b h2 d=>?_⟩
 ·by_cases e1:(c - 1) / 2=i
  ·rw[e1,F i,if_neg (by omega),if_pos rfl,F c]
   by_cases e2:c=j
   ·rw[if_pos e2];omega
   ·rw[if_neg e2,if_neg (by omega)];exact a c b h2 e1
  ·rw[F ((c - 1) / 2),if_neg d,if_neg e1,F c]
   have p:=h.1 c b h2 e1
   by_cases e2:c=j
   ·subst e2;omega
   ·rw[if_neg e2]
    by_cases e3:c=i
    ·subst e3
     rw[if_pos rfl];have:=h.2 b j f g k;exact this
    ·rw[if_neg e3];exact p
 ·rw[k,F i,if_neg (by omega),if_pos rfl,F c,if_neg (by omega),if_neg (by omega)]
  have:=h.1 c b h2 (by omega);rw[d]at this;exact this
theorem heap_top {l:List Sc} {n:Nat} (h:HeapP l n):∀i,i < n->fr l 0<=fr l i:=fun i=>by
 induction i using Nat.strongRecOn with
 |_ i ih=>
  intro hi
  by_cases h0:i=0
  ·subst h0;exact Int.le_refl _
  ·exact Int.le_trans (ih ((i - 1) / 2) (by omega) (by omega)) (h i (by omega) hi)
end Go.Proofs.YtpneolgdghbinaaGreat
