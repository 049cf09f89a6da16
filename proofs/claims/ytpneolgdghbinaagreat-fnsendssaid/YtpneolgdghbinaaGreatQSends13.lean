/- Several texts in one: SHeap2, HeapMath. -/
import Derived.BigRegion
import Derived.Test.YtpneolgdghbinaaGreatQSends12
namespace Go.Proofs.YtpneolgdghbinaaGreat
open Go.ChangeShapes Go.WideShapes Go.ChangeAt Go.RowKit Go.Joins
set_option linter.unusedVariables false
set_option linter.unusedSimpArgs false
set_option maxRecDepth 100000
set_option maxHeartbeats 40000000
abbrev Sc:=Int × Int
def Qb1:Lay Sc:=⟨2,fun a=> [.int .i64 a.1,.int .i64 a.2],(0,0),fun _=> rfl⟩
abbrev QcA:=ownL Qb1 266
def Qa1 (a b:Sc):Bool:=if a.2=b.2 then decide (a.1 < b.1) else decide (b.2 < a.2)
theorem RdL.sc {w:World} {b off:Nat} {l:List Sc} (h:∀i,i < l.length→∀j,j < Qb1.k→w.cell? ⟨b,off+i * Qb1.k+j,none⟩=(Qb1.cs (l.getD i Qb1.d))[j]?) (i:Nat) (hi:i < l.length):
  w.cell? ⟨b,off+i * 2,none⟩=some (.int .i64 (l.getD i (0,0)).1)∧w.cell? ⟨b,off+i * 2+1,none⟩=some (.int .i64 (l.getD i (0,0)).2):=
 ⟨h i hi 0 (by decide),h i hi 1 (by decide)⟩
def Q2n (l:List Sc) (i j:Nat):List Sc:=(l.set i (l.getD j (0,0))).set j (l.getD i (0,0))
theorem Q0R (l:List Sc) (i j:Nat):(Q2n l i j).length=l.length:=by simp [Q2n]
theorem Q7W {α:Type} (L:Lay α) (hk:L.k=2) {v0 v1:Value} {a:α} (ha:L.cs a=[v0,v1]):∀(l:List α) (i:Nat),((l.flatMap L.cs).set (i * 2) v0).set (i * 2+1) v1=(l.set i a).flatMap L.cs
 |[],i=> by simp
 |q::l,0=> by
  have hq:=(L.len q).trans hk
  match hc:L.cs q,hq with
  |[q0,q1],_=> simp [ha,hc]
 |q::l,i+1=> by
  have hq:=(L.len q).trans hk
  match hc:L.cs q,hq with
  |[q0,q1],_=>
   rw [show (i+1) * 2=i * 2+1+1 by omega]
   simp only [List.flatMap_cons,hc,List.cons_append,List.nil_append,List.set_cons_succ]
   rw [Q7W L hk ha l i]
theorem Q18 {w:World} {p q:Addr} {x v:Value} (h:w.cell? q=some v):∃v',(w.setCell p x).cell? q=some v':=by
 by_cases e:p=q
 ·subst e;exact ⟨x,World.cell?_setCell_same w p x h⟩
 ·exact ⟨v,(World.cell?_setCell_other w p q x e).trans h⟩
theorem Q1r {a b c:World} {r:Option Nat} (h:a.grownBy b r) (k:b.grownBy c r):a.grownBy c r:=
 ⟨k.os.trans h.os,k.tape.trans h.tape,k.output.trans h.output,Kdq h.size k.size,fun i hi hne=> (k.block i (Kbq hi h.size) hne).trans (h.block i hi hne)⟩
theorem QaW {w:World} {base g c:Nat} {l:List Sc} {n i:Nat} {x y:Int} (h:w.ownsRow base 266 2 (.slice (some ⟨g,0,none⟩) n c) n (l.flatMap Qb1.cs)):
  ((w.setCell ⟨g,i * 2,none⟩ (.int .i64 x)).setCell ⟨g,i * 2+1,none⟩ (.int .i64 y)).ownsRow base 266 2 (.slice (some ⟨g,0,none⟩) n c) n ((l.set i (x,y)).flatMap Qb1.cs)∧w.grownBy ((w.setCell ⟨g,i * 2,none⟩ (.int .i64 x)).setCell ⟨g,i * 2+1,none⟩ (.int .i64 y)) (some g):=by
 have h1:=h.stored (i * 2) (.int .i64 x);have h2:=h1.1.stored (i * 2+1) (.int .i64 y)
 rw [Q7W Qb1 rfl (a:=(x,y)) rfl] at h2
 exact ⟨h2.1,Q1r h1.2 h2.2⟩
theorem QcG {w:World} {base g c:Nat} {l:List Sc} {i j:Nat} {xi xs yi ys:Int} (h:QcA w base (.slice (some ⟨g,0,none⟩) l.length c) l) (hi:l.getD i (0,0)=(xi,xs)) (hj:l.getD j (0,0)=(yi,ys)):
  QcA ((((w.setCell ⟨g,i * 2,none⟩ (.int .i64 yi)).setCell ⟨g,i * 2+1,none⟩ (.int .i64 ys)).setCell ⟨g,j * 2,none⟩ (.int .i64 xi)).setCell ⟨g,j * 2+1,none⟩ (.int .i64 xs)).drew base (.slice (some ⟨g,0,none⟩) l.length c) (Q2n l i j)∧
   w.grownBy ((((w.setCell ⟨g,i * 2,none⟩ (.int .i64 yi)).setCell ⟨g,i * 2+1,none⟩ (.int .i64 ys)).setCell ⟨g,j * 2,none⟩ (.int .i64 xi)).setCell ⟨g,j * 2+1,none⟩ (.int .i64 xs)).drew (some g):=by
 have h1:=QaW (i:=i) (x:=yi) (y:=ys) h;have h2:=QaW (i:=j) (x:=xi) (y:=xs) h1.1;have h3:=Q1r h1.2 h2.2
 refine ⟨?_,⟨h3.os,h3.tape,h3.output,h3.size,h3.block⟩⟩
 have h4:=h2.1.drew
 unfold QcA ownL Q2n
 rw [hi,hj,show ((l.set i (yi,ys)).set j (xi,xs)).length=l.length by simp]
 exact h4
theorem Q3c (o:Option Addr) (n c:Nat) (w:World):Calls Tryz.prog 214 #[.slice o n c] w fun e w'=> e=.returned (.int .i64 n)∧w=w':=by
 go_enter Tryz.func214,Tryz.ntmps214
 go_wp2
 go_ret
 exact ⟨rfl,rfl⟩
theorem Q3o (o:Option Addr) (c:Nat) (l:List Sc) (i j:Nat) (w:World) (C:Nat) (hR:RdL Qb1 C w o l) (hi:i < l.length) (hj:j < l.length) (hlen:l.length≤1048576):
  Calls Tryz.prog 215 #[.slice o l.length c,.int .i64 i,.int .i64 j] w fun e w'=> e=.returned (.bool (Qa1 (l.getD i (0,0)) (l.getD j (0,0))))∧∃q,w'=w.drewN q:=by
 rcases hR with hR|⟨b,off,rfl,hbl,hcell⟩
 ·subst hR;simp at hi
 have ci:=RdL.sc hcell i hi;have cj:=RdL.sc hcell j hj;clear hcell;generalize l.getD i (0,0)=x at *;generalize l.getD j (0,0)=y at *;obtain ⟨xi,xs⟩:=x;obtain ⟨yi,ys⟩:=y
 dsimp only at ci cj
 obtain ⟨ci0,ci1⟩:=ci;obtain ⟨cj0,cj1⟩:=cj
 have z1:(i:Int) < (l.length:Int):=by omega
 have z2:(j:Int) < (l.length:Int):=by omega
 by_cases hs:xs=ys
 ·have hn:(xs !=ys)=false:=by simp [hs]
  have HE:=Q02 (show decide (xi < yi)=Qa1 (xi,xs) (yi,ys) by simp [Qa1,hs])
  clear hs
  go_enter Tryz.func215,Tryz.ntmps215
  go_wp2
  go_quiet (fail)
  go_wp2
  go_quiet (fail)
  go_wp2
  go_ret
  exact ⟨Q0c HE.out,_,(World.drewN_drewN _ _ _)⟩
 ·have hn:(xs !=ys)=true:=by simp [hs]
  have HE:=Q02 (show decide (ys < xs)=Qa1 (xi,xs) (yi,ys) by simp [Qa1,hs])
  clear hs
  go_enter Tryz.func215,Tryz.ntmps215
  go_wp2
  go_quiet (fail)
  go_wp2
  go_quiet (fail)
  go_wp2
  go_ret
  exact ⟨Q0c HE.out,_,(World.drewN_drewN _ _ _)⟩
theorem Q3t (base g c:Nat) (l:List Sc) (i j:Nat) (w:World) (hown:QcA w base (.slice (some ⟨g,0,none⟩) l.length c) l) (hi:i < l.length) (hj:j < l.length) (hlen:l.length≤1048576):
  Calls Tryz.prog 218 #[.slice (some ⟨g,0,none⟩) l.length c,.int .i64 i,.int .i64 j] w fun e w'=> e=.returned (.tuple #[])∧QcA w' base (.slice (some ⟨g,0,none⟩) l.length c) (Q2n l i j)∧w.grownBy w' (some g):=by
 have hR:=hown.rd
 rcases hR with hR|⟨b,off,e0,hbl,hcell⟩
 ·subst hR;simp at hi
 cases e0
 have ci:=RdL.sc hcell i hi;have cj:=RdL.sc hcell j hj;clear hcell
 simp only [Nat.zero_add] at ci cj
 have z1:(i:Int) < (l.length:Int):=by omega
 have z2:(j:Int) < (l.length:Int):=by omega
 have fi0:=hown.frozenAt (i * 2);have fi1:=hown.frozenAt (i * 2+1);have fj0:=hown.frozenAt (j * 2);have fj1:=hown.frozenAt (j * 2+1);have HO:=Q02 hown;clear hown;have HS:=Q02 (show (l.set i (l.getD j (0,0))).set j (l.getD i (0,0))=Q2n l i j from rfl);have HL:=Q02 hlen;generalize hgi:l.getD i (0,0)=x at *;generalize hgj:l.getD j (0,0)=y at *;have HGI:=Q02 hgi;have HGJ:=Q02 hgj;clear hgi hgj;obtain ⟨xi,xs⟩:=x;obtain ⟨yi,ys⟩:=y
 dsimp only at ci cj
 obtain ⟨ci0,ci1⟩:=ci;obtain ⟨cj0,cj1⟩:=cj;obtain ⟨a0,ha0⟩:=Q18 (w:=w) (p:=⟨g,i * 2,none⟩) (x:=.int .i64 yi) cj0;obtain ⟨a1,ha1⟩:=Q18 (w:=w) (p:=⟨g,i * 2,none⟩) (x:=.int .i64 yi) cj1;obtain ⟨b0,hb0⟩:=Q18 (p:=⟨g,i * 2+1,none⟩) (x:=.int .i64 ys) ha0;obtain ⟨b1,hb1⟩:=Q18 (p:=⟨g,i * 2+1,none⟩) (x:=.int .i64 ys) ha1;obtain ⟨c1,hc1⟩:=Q18 (p:=⟨g,j * 2,none⟩) (x:=.int .i64 xi) hb1
 go_enter Tryz.func218,Tryz.ntmps218
 go_wp2
 go_region
 all_goals (try go_wp2)
 all_goals go_end0
 all_goals exact ⟨rfl,QcG HO.out HGI.out HGJ.out⟩
def Q4O (a:Sc):Int:=a.1 - 8 * a.2
def okS (a:Sc):Prop:=0≤a.1∧a.1 < 8
theorem Q1D {a b:Sc} (ha:okS a) (hb:okS b):Qa1 a b=decide (Q4O a < Q4O b):=by
 obtain ⟨a1,a2⟩:=a;obtain ⟨b1,b2⟩:=b
 unfold okS at ha hb
 unfold Qa1 Q4O
 dsimp only at *
 by_cases h:a2=b2
 ·rw [if_pos h];congr 1;apply propext;constructor <;> intro <;> omega
 ·rw [if_neg h];congr 1;apply propext;constructor <;> intro <;> omega
abbrev fr (l:List Sc) (i:Nat):Int:=Q4O (l.getD i (0,0))
def okD (l:List Sc):Prop:=∀i,i < l.length→okS (l.getD i (0,0))
def Q3M (l:List Sc) (n:Nat):Prop:=∀i,1≤i→i < n→fr l ((i - 1) / 2)≤fr l i
def Qck (l:List Sc) (n j:Nat):Prop:=(∀i,1≤i→i < n→i≠j→fr l ((i - 1) / 2)≤fr l i)∧(1≤j→∀i,1≤i→i < n→(i - 1) / 2=j→fr l ((j - 1) / 2)≤fr l i)
def Q5A (l:List Sc) (n i:Nat):Prop:=(∀c,1≤c→c < n→(c - 1) / 2≠i→fr l ((c - 1) / 2)≤fr l c)∧(1≤i→∀c,1≤c→c < n→(c - 1) / 2=i→fr l ((i - 1) / 2)≤fr l c)
def QhQ (l:List Sc) (n:Nat):Prop:=∀i j,i < n→j < n→l.getD i (0,0)=l.getD j (0,0)→i=j
def Same (l l':List Sc) (n:Nat):Prop:=l'.length=l.length∧(∀z,(∃i,i < n∧l'.getD i (0,0)=z)↔(∃i,i < n∧l.getD i (0,0)=z))∧(QhQ l n→QhQ l' n)
theorem Same.refl (l:List Sc) (n:Nat):Same l l n:=⟨rfl,fun _=> Iff.rfl,fun h=> h⟩
theorem Same.trans {a b c:List Sc} {n:Nat} (h:Same a b n) (k:Same b c n):Same a c n:=⟨k.1.trans h.1,fun z=> (k.2.1 z).trans (h.2.1 z),fun d=> k.2.2 (h.2.2 d)⟩
theorem Q1t (l:List Sc) (i j m:Nat) (hi:i < l.length) (hj:j < l.length):(Q2n l i j).getD m (0,0)=if m=j then l.getD i (0,0) else if m=i then l.getD j (0,0) else l.getD m (0,0):=by
 unfold Q2n
 simp only [List.getD_eq_getElem?_getD,List.getElem?_set,List.length_set]
 by_cases h1:m=j
 ·subst h1;simp [hj]
 ·rw [if_neg (fun e=> h1 e.symm),if_neg h1]
  by_cases h2:m=i
  ·subst h2;simp [hi]
  ·rw [if_neg (fun e=> h2 e.symm),if_neg h2]
theorem Q86 (l:List Sc) (i j m:Nat) (hi:i < l.length) (hj:j < l.length):fr (Q2n l i j) m=if m=j then fr l i else if m=i then fr l j else fr l m:=by
 unfold fr;rw [Q1t l i j m hi hj];split
 ·rfl
 ·split <;> rfl
theorem Q4V {l:List Sc} (i j:Nat) (hi:i < l.length) (hj:j < l.length) (h:okD l):okD (Q2n l i j):=fun m hm=> by
 rw [Q0R] at hm
 rw [Q1t l i j m hi hj]
 split
 ·exact h i hi
 ·split
  ·exact h j hj
  ·exact h m hm
theorem Q48 {l:List Sc} (i j n:Nat) (hi:i < n) (hj:j < n) (hn:n≤l.length):Same l (Q2n l i j) n:=by
 refine ⟨Q0R l i j,fun z=> ⟨?_, ?_⟩,fun d p q hp hq e=> ?_⟩
 ·rintro ⟨m,hm,e⟩
  rw [Q1t l i j m (by omega) (by omega)] at e
  split at e
  ·exact ⟨i,hi,e⟩
  ·split at e
   ·exact ⟨j,hj,e⟩
   ·exact ⟨m,hm,e⟩
 ·rintro ⟨m,hm,e⟩
  by_cases h1:m=i
  ·refine ⟨j,hj, ?_⟩
   rw [Q1t l i j j (by omega) (by omega),if_pos rfl,←h1];exact e
  ·by_cases h2:m=j
   ·refine ⟨i,hi, ?_⟩
    rw [Q1t l i j i (by omega) (by omega)]
    by_cases h3:i=j
    ·rw [if_pos h3];rw [h2,←h3] at e;exact e
    ·rw [if_neg h3,if_pos rfl,←h2];exact e
   ·exact ⟨m,hm,by rw [Q1t l i j m (by omega) (by omega),if_neg h2,if_neg h1];exact e⟩
 ·rw [Q1t l i j p (by omega) (by omega),Q1t l i j q (by omega) (by omega)] at e
  by_cases p1:p=j
  ·rw [if_pos p1] at e
   by_cases q1:q=j
   ·omega
   ·rw [if_neg q1] at e
    by_cases q2:q=i
    ·rw [if_pos q2] at e;have:=d i j hi hj e;omega
    ·rw [if_neg q2] at e;have:=d i q hi hq e;omega
  ·rw [if_neg p1] at e
   by_cases p2:p=i
   ·rw [if_pos p2] at e
    by_cases q1:q=j
    ·rw [if_pos q1] at e;have:=d j i hj hi e;omega
    ·rw [if_neg q1] at e
     by_cases q2:q=i
     ·omega
     ·rw [if_neg q2] at e;have:=d j q hj hq e;omega
   ·rw [if_neg p2] at e
    by_cases q1:q=j
    ·rw [if_pos q1] at e;have:=d p i hp hi e;omega
    ·rw [if_neg q1] at e
     by_cases q2:q=i
     ·rw [if_pos q2] at e;have:=d p j hp hj e;omega
     ·rw [if_neg q2] at e;exact d p q hp hq e
theorem QdG {l:List Sc} {n j:Nat} (h:Qck l n j) (hj:j=0∨fr l ((j - 1) / 2)≤fr l j):Q3M l n:=fun i h1 h2=> by
 by_cases e:i=j
 ·subst e
  rcases hj with h0|h0
  ·omega
  ·exact h0
 ·exact h.1 i h1 h2 e
theorem QgX {l:List Sc} {n j p:Nat} (h:Qck l n j) (hp:p=(j - 1) / 2) (hj0:1≤j) (hjn:j < n) (hn:n≤l.length) (hlt:fr l j < fr l p):Qck (Q2n l p j) n p:=by
 have pj:p < j:=by omega
 have F:∀m,fr (Q2n l p j) m=if m=j then fr l p else if m=p then fr l j else fr l m:=fun m=> Q86 l p j m (by omega) (by omega)
 refine ⟨fun i h1 h2 h3=> ?_,fun hp1 i h1 h2 h3=> ?_⟩
 ·by_cases e1:i=j
  ·subst e1
   rw [F,F,if_pos rfl,←hp,if_neg (by omega),if_pos rfl];omega
  ·by_cases e2:(i - 1) / 2=j
   ·rw [e2,F,F,if_pos rfl,if_neg e1,if_neg h3]
    have:=h.2 hj0 i h1 h2 e2
    rw [←hp] at this;exact this
   ·by_cases e3:(i - 1) / 2=p
    ·have:=h.1 i h1 h2 e1
     rw [e3] at this ⊢
     rw [F,F,if_neg (by omega),if_pos rfl,if_neg e1,if_neg h3];omega
    ·have:=h.1 i h1 h2 e1
     rw [F,F,if_neg e2,if_neg e3,if_neg e1,if_neg h3];exact this
 ·have hpp:(p - 1) / 2 < p:=by omega
  have h4:=h.1 p hp1 (by omega) (by omega)
  rw [F ((p - 1) / 2),if_neg (by omega),if_neg (by omega),F i]
  by_cases e1:i=j
  ·rw [if_pos e1];exact h4
  ·rw [if_neg e1,if_neg (by omega)]
   have h5:=h.1 i h1 h2 e1
   rw [h3] at h5;omega
theorem Q5h {l:List Sc} {n i:Nat} (h:Q5A l n i) (hc:∀c,1≤c→c < n→(c - 1) / 2=i→fr l i≤fr l c):Q3M l n:=fun c h1 h2=> by
 by_cases e:(c - 1) / 2=i
 ·rw [e];exact hc c h1 h2 e
 ·exact h.1 c h1 h2 e
theorem Q70 {l:List Sc} {n i j:Nat} (h:Q5A l n i) (hj1:1≤j) (hjn:j < n) (hp:(j - 1) / 2=i) (hn:n≤l.length) (hlt:fr l j < fr l i) (hbest:∀c,1≤c→c < n→(c - 1) / 2=i→fr l j≤fr l c):Q5A (Q2n l i j) n j:=by
 have ij:i < j:=by omega
 have F:∀m,fr (Q2n l i j) m=if m=j then fr l i else if m=i then fr l j else fr l m:=fun m=> Q86 l i j m (by omega) (by omega)
 refine ⟨fun c h1 h2 h3=> ?_,fun _ c h1 h2 h3=> ?_⟩
 ·by_cases e1:(c - 1) / 2=i
  ·rw [e1,F i,if_neg (by omega),if_pos rfl,F c]
   by_cases e2:c=j
   ·rw [if_pos e2];omega
   ·rw [if_neg e2,if_neg (by omega)];exact hbest c h1 h2 e1
  ·rw [F ((c - 1) / 2),if_neg h3,if_neg e1,F c]
   have h4:=h.1 c h1 h2 e1
   by_cases e2:c=j
   ·subst e2;omega
   ·rw [if_neg e2]
    by_cases e3:c=i
    ·subst e3
     rw [if_pos rfl]
     have:=h.2 h1 j hj1 hjn hp
     exact this
    ·rw [if_neg e3];exact h4
 ·rw [hp,F i,if_neg (by omega),if_pos rfl,F c,if_neg (by omega),if_neg (by omega)]
  have:=h.1 c h1 h2 (by omega)
  rw [h3] at this;exact this
theorem Qb4 {l:List Sc} {n:Nat} (h:Q3M l n):∀i,i < n→fr l 0≤fr l i:=fun i=> by
 induction i using Nat.strongRecOn with
 |_ i ih=>
  intro hi
  by_cases h0:i=0
  ·subst h0;exact Int.le_refl _
  ·exact Int.le_trans (ih ((i - 1) / 2) (by omega) (by omega)) (h i (by omega) hi)
end Go.Proofs.YtpneolgdghbinaaGreat
