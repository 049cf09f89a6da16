/- Several texts in one: SHeap2, HeapMath. -/
import Derived.BigRegion
import Derived.Test.YtpneolgdghbinaaGreatQLearnsL12
namespace Go.Proofs.YtpneolgdghbinaaGreat
open Go.ChangeShapes Go.WideShapes Go.ChangeAt Go.RowKit Go.Joins
set_option linter.unusedVariables false
set_option linter.unusedSimpArgs false
set_option maxRecDepth 100000
set_option maxHeartbeats 40000000
abbrev Sc:=Int × Int
def Q85:Lay Sc:=⟨2,fun a=> [.int .i64 a.1,.int .i64 a.2],(0,0),fun _=> rfl⟩
abbrev Q6E:=ownL Q85 266
def Q5j (a b:Sc):Bool:=if a.2=b.2 then decide (a.1 < b.1) else decide (b.2 < a.2)
theorem RdL.sc {w:World} {b off:Nat} {l:List Sc} (h:∀i,i < l.length→∀j,j < Q85.k→w.cell? ⟨b,off+i * Q85.k+j,none⟩=(Q85.cs (l.getD i Q85.d))[j]?) (i:Nat) (hi:i < l.length):
  w.cell? ⟨b,off+i * 2,none⟩=some (.int .i64 (l.getD i (0,0)).1)∧w.cell? ⟨b,off+i * 2+1,none⟩=some (.int .i64 (l.getD i (0,0)).2):=
 ⟨h i hi 0 (by decide),h i hi 1 (by decide)⟩
def Q1m (l:List Sc) (i j:Nat):List Sc:=(l.set i (l.getD j (0,0))).set j (l.getD i (0,0))
theorem Q0u (l:List Sc) (i j:Nat):(Q1m l i j).length=l.length:=by simp [Q1m]
theorem Q6a {α:Type} (L:Lay α) (c:L.k=2) {d f:Value} {a:α} (g:L.cs a=[d,f]):∀(l:List α) (i:Nat),((l.flatMap L.cs).set (i * 2) d).set (i * 2+1) f=(l.set i a).flatMap L.cs
 |[],i=> by simp
 |q::l,0=> by
  have b:=(L.len q).trans c
  match hc:L.cs q,b with
  |[q0,q1],_=> simp [g,hc]
 |q::l,i+1=> by
  have b:=(L.len q).trans c
  match hc:L.cs q,b with
  |[q0,q1],_=>
   rw [show (i+1) * 2=i * 2+1+1 by omega];simp only [List.flatMap_cons,hc,List.cons_append,List.nil_append,List.set_cons_succ];rw [Q6a L c g l i]
theorem Q0D {w:World} {p q:Addr} {x v:Value} (h:w.cell? q=some v):∃v',(w.setCell p x).cell? q=some v':=by
 by_cases e:p=q
 ·subst e;exact ⟨x,World.cell?_setCell_same w p x h⟩
 ·exact ⟨v,(World.cell?_setCell_other w p q x e).trans h⟩
theorem Q0G {a b c:World} {r:Option Nat} (h:a.grownBy b r) (k:b.grownBy c r):a.grownBy c r:=
 ⟨k.os.trans h.os,k.tape.trans h.tape,k.output.trans h.output,Kdq h.size k.size,fun i hi d=> (k.block i (Kbq hi h.size) d).trans (h.block i hi d)⟩
theorem Q5z {w:World} {base g c:Nat} {l:List Sc} {n i:Nat} {x y:Int} (h:w.ownsRow base 266 2 (.slice (some ⟨g,0,none⟩) n c) n (l.flatMap Q85.cs)):
  ((w.setCell ⟨g,i * 2,none⟩ (.int .i64 x)).setCell ⟨g,i * 2+1,none⟩ (.int .i64 y)).ownsRow base 266 2 (.slice (some ⟨g,0,none⟩) n c) n ((l.set i (x,y)).flatMap Q85.cs)∧w.grownBy ((w.setCell ⟨g,i * 2,none⟩ (.int .i64 x)).setCell ⟨g,i * 2+1,none⟩ (.int .i64 y)) (some g):=by
 have b:=h.stored (i * 2) (.int .i64 x);have h2:=b.1.stored (i * 2+1) (.int .i64 y);rw [Q6a Q85 rfl (a:=(x,y)) rfl] at h2;exact ⟨h2.1,Q0G b.2 h2.2⟩
theorem Q7A {w:World} {base g c:Nat} {l:List Sc} {i j:Nat} {b a k d:Int} (h:Q6E w base (.slice (some ⟨g,0,none⟩) l.length c) l) (hi:l.getD i (0,0)=(b,a)) (n:l.getD j (0,0)=(k,d)):
  Q6E ((((w.setCell ⟨g,i * 2,none⟩ (.int .i64 k)).setCell ⟨g,i * 2+1,none⟩ (.int .i64 d)).setCell ⟨g,j * 2,none⟩ (.int .i64 b)).setCell ⟨g,j * 2+1,none⟩ (.int .i64 a)).drew base (.slice (some ⟨g,0,none⟩) l.length c) (Q1m l i j)∧
   w.grownBy ((((w.setCell ⟨g,i * 2,none⟩ (.int .i64 k)).setCell ⟨g,i * 2+1,none⟩ (.int .i64 d)).setCell ⟨g,j * 2,none⟩ (.int .i64 b)).setCell ⟨g,j * 2+1,none⟩ (.int .i64 a)).drew (some g):=by
 have m:=Q5z (i:=i) (x:=k) (y:=d) h;have h2:=Q5z (i:=j) (x:=b) (y:=a) m.1;have f:=Q0G m.2 h2.2;refine ⟨?_,⟨f.os,f.tape,f.output,f.size,f.block⟩⟩;have p:=h2.1.drew;unfold Q6E ownL Q1m;rw [hi,n,show ((l.set i (k,d)).set j (b,a)).length=l.length by simp];exact p
theorem Q3A (o:Option Addr) (n c:Nat) (w:World):Calls Tryz.prog 214 #[.slice o n c] w fun e w'=> e=.returned (.int .i64 n)∧w=w':=by
 go_enter Tryz.func214,Tryz.ntmps214;go_wp2;go_ret;exact ⟨rfl,rfl⟩
theorem Q3I (o:Option Addr) (c:Nat) (l:List Sc) (i j:Nat) (w:World) (C:Nat) (m:RdL Q85 C w o l) (hi:i < l.length) (A:j < l.length) (n:l.length≤1048576):
  Calls Tryz.prog 215 #[.slice o l.length c,.int .i64 i,.int .i64 j] w fun e D=> e=.returned (.bool (Q5j (l.getD i (0,0)) (l.getD j (0,0))))∧∃q,D=w.drewN q:=by
 rcases m with m|⟨b,off,rfl,u,a⟩
 ·subst m;simp at hi
 have p:=RdL.sc a i hi;have r:=RdL.sc a j A;clear a;generalize l.getD i (0,0)=x at *;generalize l.getD j (0,0)=y at *;obtain ⟨g,f⟩:=x;obtain ⟨h,d⟩:=y;dsimp only at p r;obtain ⟨t,v⟩:=p;obtain ⟨s,B⟩:=r
 have E:(i:Int) < (l.length:Int):=by omega
 have F:(j:Int) < (l.length:Int):=by omega
 by_cases hs:f=d
 ·have z:(f !=d)=false:=by simp [hs]
  have k:=Q01 (show decide (g < h)=Q5j (g,f) (h,d) by simp [Q5j,hs]);clear hs;go_enter Tryz.func215,Tryz.ntmps215;go_wp2
  go_quiet (fail)
  go_wp2
  go_quiet (fail)
  go_wp2;go_ret;exact ⟨Q0d k.out,_,(World.drewN_drewN _ _ _)⟩
 ·have z:(f !=d)=true:=by simp [hs]
  have k:=Q01 (show decide (d < f)=Q5j (g,f) (h,d) by simp [Q5j,hs]);clear hs;go_enter Tryz.func215,Tryz.ntmps215;go_wp2
  go_quiet (fail)
  go_wp2
  go_quiet (fail)
  go_wp2;go_ret;exact ⟨Q0d k.out,_,(World.drewN_drewN _ _ _)⟩
theorem Q3J (base g c:Nat) (l:List Sc) (i j:Nat) (w:World) (a:Q6E w base (.slice (some ⟨g,0,none⟩) l.length c) l) (hi:i < l.length) (G:j < l.length) (f:l.length≤1048576):
  Calls Tryz.prog 218 #[.slice (some ⟨g,0,none⟩) l.length c,.int .i64 i,.int .i64 j] w fun e B=> e=.returned (.tuple #[])∧Q6E B base (.slice (some ⟨g,0,none⟩) l.length c) (Q1m l i j)∧w.grownBy B (some g):=by
 have n:=a.rd
 rcases n with n|⟨b,off,L,E,d⟩
 ·subst n;simp at hi
 cases L
 have k:=RdL.sc d i hi;have q:=RdL.sc d j G;clear d;simp only [Nat.zero_add] at k q
 have z1:(i:Int) < (l.length:Int):=by omega
 have V:(j:Int) < (l.length:Int):=by omega
 have O:=a.frozenAt (i * 2);have N:=a.frozenAt (i * 2+1);have C:=a.frozenAt (j * 2);have H:=a.frozenAt (j * 2+1);have F:=Q01 a;clear a;have Y:=Q01 (show (l.set i (l.getD j (0,0))).set j (l.getD i (0,0))=Q1m l i j from rfl);have T:=Q01 f;generalize hgi:l.getD i (0,0)=x at *;generalize hgj:l.getD j (0,0)=y at *;have r:=Q01 hgi;have m:=Q01 hgj;clear hgi hgj;obtain ⟨J,U⟩:=x;obtain ⟨A,z⟩:=y;dsimp only at k q;obtain ⟨M,P⟩:=k;obtain ⟨h,v⟩:=q;obtain ⟨R,u⟩:=Q0D (w:=w) (p:=⟨g,i * 2,none⟩) (x:=.int .i64 A) h
 obtain ⟨Z,s⟩:=Q0D (w:=w) (p:=⟨g,i * 2,none⟩) (x:=.int .i64 A) v;obtain ⟨b0,I⟩:=Q0D (p:=⟨g,i * 2+1,none⟩) (x:=.int .i64 z) u;obtain ⟨b1,t⟩:=Q0D (p:=⟨g,i * 2+1,none⟩) (x:=.int .i64 z) s;obtain ⟨X,D⟩:=Q0D (p:=⟨g,j * 2,none⟩) (x:=.int .i64 J) t;go_enter Tryz.func218,Tryz.ntmps218;go_wp2
 go_region
 all_goals (try go_wp2)
 all_goals go_end0
 all_goals exact ⟨rfl,Q7A F.out r.out m.out⟩
def Q4i (a:Sc):Int:=a.1 - 8 * a.2
def okS (a:Sc):Prop:=0≤a.1∧a.1 < 8
theorem Q0K {a b:Sc} (g:okS a) (c:okS b):Q5j a b=decide (Q4i a < Q4i b):=by
 obtain ⟨j,f⟩:=a;obtain ⟨i,d⟩:=b;unfold okS at g c;unfold Q5j Q4i;dsimp only at *
 by_cases h:f=d
 ·rw [if_pos h];congr 1;apply propext;constructor <;> intro <;> omega
 ·rw [if_neg h];congr 1;apply propext;constructor <;> intro <;> omega
abbrev fr (l:List Sc) (i:Nat):Int:=Q4i (l.getD i (0,0))
def okD (l:List Sc):Prop:=∀i,i < l.length→okS (l.getD i (0,0))
def HeapP (l:List Sc) (n:Nat):Prop:=∀i,1≤i→i < n→fr l ((i - 1) / 2)≤fr l i
def Q5Y (l:List Sc) (n j:Nat):Prop:=(∀i,1≤i→i < n→i≠j→fr l ((i - 1) / 2)≤fr l i)∧(1≤j→∀i,1≤i→i < n→(i - 1) / 2=j→fr l ((j - 1) / 2)≤fr l i)
def Q2m (l:List Sc) (n i:Nat):Prop:=(∀c,1≤c→c < n→(c - 1) / 2≠i→fr l ((c - 1) / 2)≤fr l c)∧(1≤i→∀c,1≤c→c < n→(c - 1) / 2=i→fr l ((i - 1) / 2)≤fr l c)
def Qj8 (l:List Sc) (n:Nat):Prop:=∀i j,i < n→j < n→l.getD i (0,0)=l.getD j (0,0)→i=j
def Same (l l':List Sc) (n:Nat):Prop:=l'.length=l.length∧(∀z,(∃i,i < n∧l'.getD i (0,0)=z)↔(∃i,i < n∧l.getD i (0,0)=z))∧(Qj8 l n→Qj8 l' n)
theorem Same.refl (l:List Sc) (n:Nat):Same l l n:=⟨rfl,fun _=> Iff.rfl,fun h=> h⟩
theorem Same.trans {a b c:List Sc} {n:Nat} (h:Same a b n) (k:Same b c n):Same a c n:=⟨k.1.trans h.1,fun z=> (k.2.1 z).trans (h.2.1 z),fun d=> k.2.2 (h.2.2 d)⟩
theorem Q1a (l:List Sc) (i j m:Nat) (hi:i < l.length) (a:j < l.length):(Q1m l i j).getD m (0,0)=if m=j then l.getD i (0,0) else if m=i then l.getD j (0,0) else l.getD m (0,0):=by
 unfold Q1m;simp only [List.getD_eq_getElem?_getD,List.getElem?_set,List.length_set]
 by_cases h1:m=j
 ·subst h1;simp [a]
 ·rw [if_neg (fun e=> h1 e.symm),if_neg h1]
  by_cases h2:m=i
  ·subst h2;simp [hi]
  ·rw [if_neg (fun e=> h2 e.symm),if_neg h2]
theorem Q42 (l:List Sc) (i j m:Nat) (hi:i < l.length) (a:j < l.length):fr (Q1m l i j) m=if m=j then fr l i else if m=i then fr l j else fr l m:=by
 unfold fr;rw [Q1a l i j m hi a];split
 ·rfl
 ·split <;> rfl
theorem Q2b {l:List Sc} (i j:Nat) (hi:i < l.length) (a:j < l.length) (h:okD l):okD (Q1m l i j):=fun m hm=> by
 rw [Q0u] at hm;rw [Q1a l i j m hi a]
 split
 ·exact h i hi
 ·split
  ·exact h j a
  ·exact h m hm
theorem swapD_same {l:List Sc} (i j n:Nat) (hi:i < n) (a:j < n) (f:n≤l.length):Same l (Q1m l i j) n:=by
 refine ⟨Q0u l i j,fun z=> ⟨?_, ?_⟩,fun d p q b c e=> ?_⟩
 ·rintro ⟨m,hm,e⟩
  rw [Q1a l i j m (by omega) (by omega)] at e
  split at e
  ·exact ⟨i,hi,e⟩
  ·split at e
   ·exact ⟨j,a,e⟩
   ·exact ⟨m,hm,e⟩
 ·rintro ⟨m,hm,e⟩
  by_cases h1:m=i
  ·refine ⟨j,a, ?_⟩
   rw [Q1a l i j j (by omega) (by omega),if_pos rfl,←h1];exact e
  ·by_cases h2:m=j
   ·refine ⟨i,hi, ?_⟩
    rw [Q1a l i j i (by omega) (by omega)]
    by_cases h3:i=j
    ·rw [if_pos h3];rw [h2,←h3] at e;exact e
    ·rw [if_neg h3,if_pos rfl,←h2];exact e
   ·exact ⟨m,hm,by rw [Q1a l i j m (by omega) (by omega),if_neg h2,if_neg h1];exact e⟩
 ·rw [Q1a l i j p (by omega) (by omega),Q1a l i j q (by omega) (by omega)] at e
  by_cases p1:p=j
  ·rw [if_pos p1] at e
   by_cases q1:q=j
   ·omega
   ·rw [if_neg q1] at e
    by_cases q2:q=i
    ·rw [if_pos q2] at e;have:=d i j hi a e;omega
    ·rw [if_neg q2] at e;have:=d i q hi c e;omega
  ·rw [if_neg p1] at e
   by_cases p2:p=i
   ·rw [if_pos p2] at e
    by_cases q1:q=j
    ·rw [if_pos q1] at e;have:=d j i a hi e;omega
    ·rw [if_neg q1] at e
     by_cases q2:q=i
     ·omega
     ·rw [if_neg q2] at e;have:=d j q a c e;omega
   ·rw [if_neg p2] at e
    by_cases q1:q=j
    ·rw [if_pos q1] at e;have:=d p i b hi e;omega
    ·rw [if_neg q1] at e
     by_cases q2:q=i
     ·rw [if_pos q2] at e;have:=d p j b a e;omega
     ·rw [if_neg q2] at e;exact d p q b c e
theorem Q7G {l:List Sc} {n j:Nat} (h:Q5Y l n j) (b:j=0∨fr l ((j - 1) / 2)≤fr l j):HeapP l n:=fun i c h2=> by
 by_cases e:i=j
 ·subst e
  rcases b with a|a
  ·omega
  ·exact a
 ·exact h.1 i c h2 e
theorem Qbn {l:List Sc} {n j p:Nat} (h:Q5Y l n j) (f:p=(j - 1) / 2) (c:1≤j) (k:j < n) (u:n≤l.length) (r:fr l j < fr l p):Q5Y (Q1m l p j) n p:=by
 have t:p < j:=by omega
 have F:∀m,fr (Q1m l p j) m=if m=j then fr l p else if m=p then fr l j else fr l m:=fun m=> Q42 l p j m (by omega) (by omega)
 refine ⟨fun i b h2 a=> ?_,fun d i b h2 a=> ?_⟩
 ·by_cases e1:i=j
  ·subst e1
   rw [F,F,if_pos rfl,←f,if_neg (by omega),if_pos rfl];omega
  ·by_cases e2:(i - 1) / 2=j
   ·rw [e2,F,F,if_pos rfl,if_neg e1,if_neg a]
    have:=h.2 c i b h2 e2;rw [←f] at this;exact this
   ·by_cases e3:(i - 1) / 2=p
    ·have:=h.1 i b h2 e1
     rw [e3] at this ⊢;rw [F,F,if_neg (by omega),if_pos rfl,if_neg e1,if_neg a];omega
    ·have:=h.1 i b h2 e1
     rw [F,F,if_neg e2,if_neg e3,if_neg e1,if_neg a];exact this
 ·have g:(p - 1) / 2 < p:=by omega
  have s:=h.1 p d (by omega) (by omega);rw [F ((p - 1) / 2),if_neg (by omega),if_neg (by omega),F i]
  by_cases e1:i=j
  ·rw [if_pos e1];exact s
  ·rw [if_neg e1,if_neg (by omega)]
   have q:=h.1 i b h2 e1;rw [a] at q;omega
theorem Q26 {l:List Sc} {n i:Nat} (h:Q2m l n i) (hc:∀c,1≤c→c < n→(c - 1) / 2=i→fr l i≤fr l c):HeapP l n:=fun c h1 h2=> by
 by_cases e:(c - 1) / 2=i
 ·rw [e];exact hc c h1 h2 e
 ·exact h.1 c h1 h2 e
theorem Q2W {l:List Sc} {n i j:Nat} (h:Q2m l n i) (g:1≤j) (d:j < n) (k:(j - 1) / 2=i) (s:n≤l.length) (p:fr l j < fr l i) (a:∀c,1≤c→c < n→(c - 1) / 2=i→fr l j≤fr l c):Q2m (Q1m l i j) n j:=by
 have r:i < j:=by omega
 have F:∀m,fr (Q1m l i j) m=if m=j then fr l i else if m=i then fr l j else fr l m:=fun m=> Q42 l i j m (by omega) (by omega)
 refine ⟨fun c b h2 f=> ?_,fun _ c b h2 f=> ?_⟩
 ·by_cases e1:(c - 1) / 2=i
  ·rw [e1,F i,if_neg (by omega),if_pos rfl,F c]
   by_cases e2:c=j
   ·rw [if_pos e2];omega
   ·rw [if_neg e2,if_neg (by omega)];exact a c b h2 e1
  ·rw [F ((c - 1) / 2),if_neg f,if_neg e1,F c]
   have q:=h.1 c b h2 e1
   by_cases e2:c=j
   ·subst e2;omega
   ·rw [if_neg e2]
    by_cases e3:c=i
    ·subst e3
     rw [if_pos rfl];have:=h.2 b j g d k;exact this
    ·rw [if_neg e3];exact q
 ·rw [k,F i,if_neg (by omega),if_pos rfl,F c,if_neg (by omega),if_neg (by omega)]
  have:=h.1 c b h2 (by omega);rw [f] at this;exact this
theorem heap_top {l:List Sc} {n:Nat} (h:HeapP l n):∀i,i < n→fr l 0≤fr l i:=fun i=> by
 induction i using Nat.strongRecOn with
 |_ i ih=>
  intro hi
  by_cases h0:i=0
  ·subst h0;exact Int.le_refl _
  ·exact Int.le_trans (ih ((i - 1) / 2) (by omega) (by omega)) (h i (by omega) hi)
end Go.Proofs.YtpneolgdghbinaaGreat
