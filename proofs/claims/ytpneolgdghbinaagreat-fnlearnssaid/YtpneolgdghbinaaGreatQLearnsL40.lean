/- Several texts in one: SDrP2, SamePool. -/
import Derived.Test.YtpneolgdghbinaaGreatQLearnsL33
import Derived.Test.YtpneolgdghbinaaGreatQLearnsL39
namespace Go.Proofs.YtpneolgdghbinaaGreat
open Go.ChangeShapes Go.WideShapes Go.ChangeAt Go.RowKit Go.Joins
set_option linter.unusedVariables false
set_option linter.unusedSimpArgs false
set_option maxRecDepth 100000
set_option maxHeartbeats 40000000
theorem Q4s {key:Int} {l:List Bk} {a:List (List (List Int))} (g:l.length≤1000) (f:a.length≤3) (h:∀i,i < a.length→(a.getD i []).length=8∧∀j,((a.getD i []).getD j []).length≤2):Q3q ⟨key,l,a⟩:=by
 refine ⟨by dsimp only;omega,by dsimp only;omega, ?_,fun i hi=> by dsimp only at *;rw [(h i hi).1];decide,fun i hi j k=> by have:=(h i hi).2 j;dsimp only;omega⟩;dsimp only
 have b:∀i,Qb8 a i≤16:=fun i=> by
  by_cases h':i < a.length
  ·have c:=Q5d (Qiu (a.getD i [])) 2 (fun j=> (h i h').2 j) (a.getD i []).length
   have d:=(h i h').1
   show QdP (Qiu (a.getD i [])) (a.getD i []).length≤16
   rw [d] at c ⊢;omega
  ·unfold Qb8;rw [List.getD_eq_getElem?_getD,List.getElem?_eq_none (by omega)];exact Kcq _
 have c:=Q5d (Qb8 a) 16 b a.length
 show QdP (Qb8 a) a.length≤1048576
 omega
theorem Qc1 {n:Nat} {α:Type} {d:α} {Q:Nat→α→Prop} (h:∀i,i < n→∃x,Q i x):∃a:List α,a.length=n∧∀i,i < n→Q i (a.getD i d):=by
 induction n with
 |zero=> exact ⟨[],rfl,fun i hi=> absurd hi (Nat.not_lt_zero _)⟩
 |succ n ih=>
  obtain ⟨a,b,f⟩:=ih (fun i hi=> h i (by omega));obtain ⟨y,c⟩:=h n (by omega);refine ⟨a++[y],by simp [b],fun i hi=> ?_⟩
  by_cases hi':i < n
  ·rw [List.getD_eq_getElem?_getD,List.getElem?_append_left (by omega),←List.getD_eq_getElem?_getD];exact f i hi'
  ·have e:i=n:=by omega
   subst e
   have:(a++[y]).getD i d=y:=by rw [←b];simp
   rw [this];exact c
theorem QfV {hs:List Hd} {j q:Nat} {x:Hd} (h:q≠j):hv (hs.set j x) q=hv hs q:=by
 unfold hv;rw [List.getD_eq_getElem?_getD,List.getElem?_set_ne (Ne.symm h),←List.getD_eq_getElem?_getD]
theorem QfH {hs:List Hd} {j:Nat} {x:Hd} (h:j < hs.length):hv (hs.set j x) j=.slice x.1 x.2.1 x.2.2:=by
 unfold hv;rw [List.getD_eq_getElem?_getD,List.getElem?_set_self h];rfl
theorem QfP (hs:List Hd) (j:Nat) (x:Hd):(hs.set j x).flatMap Q0H.cs=(hs.flatMap Q0H.cs).set j (.slice x.1 x.2.1 x.2.2):=by
 have e:∀l:List Hd,l.flatMap Q0H.cs=l.map (fun x=> Value.slice x.1 x.2.1 x.2.2):=fun l=> by
  induction l with
  |nil=> rfl
  |cons a l ih=> rw [List.flatMap_cons,ih];rfl
 rw [e,e,List.map_set]
theorem Qjp:(51:TypeId)≠47:=by decide
theorem Qjq:(119:TypeId)≠47:=by decide
theorem Qfx {s:World} {base z r n c3 i:Nat} {P:Nat} {U:Option Addr} {hs:List Hd} {c:List (List (List Int))} {x y:Int} (h:GTabs s base hs c) (Y:ownL Q0H 51 s base (.slice U n P) hs) (w:Q5B c) (hi:i < c.length) (he:hv hs i=.slice (some ⟨z,0,none⟩) 8 c3) (T:Qa6 s base (.slice (some ⟨r,0,none⟩) 2 2) [x,y]):
  ∃m,Q5B m∧m.length=c.length∧RcR base (s.setCell ⟨z,2,none⟩ (.slice (some ⟨r,0,none⟩) 2 2)).heap.size (s.setCell ⟨z,2,none⟩ (.slice (some ⟨r,0,none⟩) 2 2)) (.slice U n P) m:=by
 obtain ⟨W,I⟩:∃W,s.setCell ⟨z,2,none⟩ (.slice (some ⟨r,0,none⟩) 2 2)=W:=⟨_,rfl⟩;obtain ⟨o3,M,aa,e3,N,k2⟩:=h.2 i hi
 have R:hv hs i=.slice o3 (c.getD i []).length M:=by unfold hv;rw [e3]
 have C:=(w.2.2 i hi).1;rw [he,C] at R;injection R with D q2 q3;subst D q3;rw [C] at N
 have A:s.grownBy W (some z):=by rw [←I];exact Q0I s z 2 _
 have b:∀v l,Qa6 s base v l→Qa6 W base v l:=fun v l hv=> World.ownsRow.kept hv A (Q2z hv N QgQ)
 have key:∀q,q < c.length→∃t:List (List Int),(t.length=8∧∀j,(t.getD j []).length≤2)∧RcT base W.heap.size W (hv hs q) t:=by
  intro q E;obtain ⟨H,G,f,e5,F,B⟩:=h.2 q E;have p:=w.2.2 q E
  have V:hv hs q=.slice H (c.getD q []).length G:=by unfold hv;rw [e5]
  rw [p.1] at F B V;rw [V];have a:=B.len
  by_cases hb:H=some ⟨z,0,none⟩
  ·subst hb
   have O:s.ownsRow base 47 Q0H.k (.slice (some ⟨z,0,none⟩) 8 G) 8 (f.flatMap Q0H.cs):=by have h:=F;unfold ownL at h;rw [a] at h;exact h
   have X:=(World.ownsRow.stored O 2 (.slice (some ⟨r,0,none⟩) 2 2)).1;rw [I,←QfP f 2 (some ⟨r,0,none⟩,2,2)] at X
   have J:ownL Q0H 47 W base (.slice (some ⟨z,0,none⟩) 8 G) (f.set 2 (some ⟨r,0,none⟩,2,2)):=by
    unfold ownL;rw [List.length_set,a];exact X
   refine ⟨(c.getD q []).set 2 [x,y],⟨by rw [List.length_set];exact p.1,fun j=> ?_⟩,⟨f.set 2 (some ⟨r,0,none⟩,2,2),by rw [List.length_set,List.length_set,p.1];exact a, ?_,fun j g=> ?_⟩⟩
   ·by_cases g:j=2
    ·subst g;rw [List.getD_eq_getElem?_getD,List.getElem?_set_self (by rw [p.1];decide)];simp
    ·rw [List.getD_eq_getElem?_getD,List.getElem?_set_ne (Ne.symm g),←List.getD_eq_getElem?_getD];exact p.2 j
   ·have:=InRow.ri (L:=Q0H) (InRow.of J);simpa [a] using this
   ·rw [List.length_set,p.1] at g
    by_cases hj2:j=2
    ·subst hj2
     rw [QfH (by omega),List.getD_eq_getElem?_getD,List.getElem?_set_self (by rw [p.1];decide)];exact ⟨InRow.ri (L:=Q2w) (InRow.of (b _ _ T)),InRow.cap (InRow.of (b _ _ T))⟩
    ·rw [QfV hj2,List.getD_eq_getElem?_getD,List.getElem?_set_ne (Ne.symm hj2),←List.getD_eq_getElem?_getD]
     exact ⟨InRow.ri (L:=Q2w) (InRow.of (b _ _ (B.row j g))),InRow.cap (InRow.of (b _ _ (B.row j g)))⟩
  ·have J:ownL Q0H 47 W base (.slice H 8 G) f:=by
    refine World.ownsRow.kept F A ?_;obtain ⟨g5,Z,D⟩:=Q2N F (by rw [a];decide);injection D with D _ _
    ·subst D;right;intro e;simp [Value.ownBlock] at e;exact hb (by rw [e])
   refine ⟨c.getD q [],p,⟨f,by rw [p.1];exact a, ?_,fun j g=> ?_⟩⟩
   ·have:=InRow.ri (L:=Q0H) (InRow.of J);simpa [a] using this
   ·rw [p.1] at g
    exact ⟨InRow.ri (L:=Q2w) (InRow.of (b _ _ (B.row j g))),InRow.cap (InRow.of (b _ _ (B.row j g)))⟩
 obtain ⟨ts,u,E⟩:=Qc1 (d:=([]:List (List Int))) key;rw [I];refine ⟨ts,⟨by rw [u];exact w.1,by rw [u];exact w.2.1,fun j g=> (E j (by omega)).1⟩,u,⟨hs,by rw [u];exact h.1, ?_,fun j g=> (E j (by omega)).2⟩⟩;exact InRow.ri (L:=Q0H) (InRow.of (World.ownsRow.kept Y A (Q2z Y N Qjp)))
structure PS (k B R C:Nat) (w0 wr:World) (key:Int) (l:List Bk) (lll:List (List (List Int))) (hs:List Hd) (o2:Option Addr) (nb c2:Nat) (oQ:Option Addr) (n cQ:Nat):Prop where
 len:nb=l.length
 box:wr.heap[B]? =some (.cells #[.int .i64 key,.slice o2 nb c2,.slice oQ n cQ] 29 (0,0))
 res:wr.heap[R]? =some (.cells #[.int .i64 0,.slice none 0 0,.slice none 0 0] 29 (0,0))
 bk:Q1w wr C (.slice o2 nb c2) l
 ow:ownL Q0H 51 wr C (.slice oQ n cQ) hs
 gt:GTabs wr C hs lll
 dr:Dr k w0 wr
theorem PS.draw {k B R C:Nat} {f wr:World} {key:Int} {l:List Bk} {b:List (List (List Int))} {hs:List Hd} {g j:Option Addr} {i c2 n d:Nat} {x:World} (h:PS k B R C f wr key l b hs g i c2 j n d) (q:isCur k x) (a:wr.grownBy x (some k)) (m:B≠k) (p:R≠k) (c:k < C):PS k B R C f x key l b hs g i c2 j n d:=
 ⟨h.len,Q09 a (Array.getElem?_eq_some_iff.1 h.box).1 m h.box,Q09 a (Array.getElem?_eq_some_iff.1 h.res).1 p h.res,Q3E h.bk a c,Q3E (L:=Q0H) h.ow a c,h.gt.draw a c,h.dr.step q a⟩
theorem PS.below {k B R C:Nat} {c wr:World} {key:Int} {l:List Bk} {b:List (List (List Int))} {hs:List Hd} {f i:Option Addr} {g c2 n d:Nat} {x:World} (h:PS k B R C c wr key l b hs f g c2 i n d) (a:Below wr.heap.size wr x) (j:k < c.heap.size):PS k B R C c x key l b hs f g c2 i n d:=
 ⟨h.len,(a.block _ (Array.getElem?_eq_some_iff.1 h.box).1).trans h.box,(a.block _ (Array.getElem?_eq_some_iff.1 h.res).1).trans h.res,Q03 h.bk a,Q03 h.ow a,h.gt.kept a,h.dr.below j (a.mono h.dr.gr.size)⟩
structure PE (k B R C:Nat) (w0 wr:World) (v0 v1 v2:Value) (m:Pm):Prop where
 box:wr.heap[B]? =some (.cells #[v0,v1,v2] 29 (0,0))
 res:wr.heap[R]? =some (.cells #[.int .i64 0,.slice none 0 0,.slice none 0 0] 29 (0,0))
 rc:RcPm C wr.heap.size wr (.agg #[v0,v1,v2]) m
 fit:Q3q m
 dr:Dr k w0 wr
theorem PE.done {k B C:Nat} {a wr:World} {b d c:Value} {m:Pm} (h:PE k B a.heap.size C a wr b d c m) (g:k < a.heap.size) (f:a.heap.size < C):RcPm a.heap.size (setP wr a.heap.size b d c).heap.size (setP wr a.heap.size b d c) (.agg #[b,d,c]) m∧Q3q m∧Dr k a (setP wr a.heap.size b d c):=
 ⟨by rw [Q2V];exact (h.rc.step (Q3f wr a.heap.size b d c) (.inl f)).mono (Nat.le_of_lt f) (Kaq _),h.fit,h.dr.below g (Q0E (Below.refl _ _) (Kaq _) _ _ _)⟩
theorem PS.end0 {k B R C:Nat} {d wr:World} {key:Int} {l:List Bk} {a:List (List (List Int))} {hs:List Hd} {f i:Option Addr} {g c2 n c:Nat} (h:PS k B R C d wr key l a hs f g c2 i n c) (b:Q5B a) (j:l.length≤1000):PE k B R C d wr (.int .i64 key) (.slice f g c2) (.slice i n c) ⟨key,l,a⟩:=⟨h.box,h.res,Q6X h.len h.bk h.ow h.gt,Q4s j b.2.1 b.2.2,h.dr⟩
theorem PS.key {k B R C:Nat} {c wr:World} {key:Int} {l:List Bk} {a:List (List (List Int))} {hs:List Hd} {f i:Option Addr} {g c2 n d:Nat} (h:PS k B R C c wr key l a hs f g c2 i n d) (b:Q5B a) (m:l.length≤1000) (r:k < c.heap.size) (j:c.heap.size≤B) (q:R≠B) (y:Int):PE k B R C c (wr.setCell ⟨B,0,none⟩ (.int .i64 y)) (.int .i64 y) (.slice f g c2) (.slice i n d) ⟨y,l,a⟩:=
 ⟨Q06 h.box 0 _,Q29 h.res q,Q6X h.len (Q0q h.bk h.box Q87 0 _) (Q0q h.ow h.box Q9V 0 _) (h.gt.putB h.box 0 _),Q4s m b.2.1 b.2.2,h.dr.below r ((Below.refl _ _).setCell (p:=⟨B,0,none⟩) j _)⟩
theorem PS.backs {k B R C:Nat} {d wr:World} {key:Int} {l:List Bk} {a:List (List (List Int))} {hs:List Hd} {s j:Option Addr} {u c2 n i:Nat} {L:List Bk} {f:Option Addr} {g b m:Nat} (h:PS k B R C d wr key l a hs s u c2 j n i) (c:Q5B a) (x:b≤7) (hm:b=L.length) (w:k < d.heap.size) (q:d.heap.size≤B) (v:R≠B) (t:C≤m) (r:Q1w wr m (.slice f b g) L):PE k B R C d (wr.setCell ⟨B,1,none⟩ (.slice f b g)) (.int .i64 key) (.slice f b g) (.slice j n i) ⟨key,L,a⟩:=
 ⟨Q06 h.box 1 _,Q29 h.res v,Q6X hm (Q04 (Q0q r h.box Q87 1 _) t) (Q0q h.ow h.box Q9V 1 _) (h.gt.putB h.box 1 _),Q4s (by omega) c.2.1 c.2.2,h.dr.below w ((Below.refl _ _).setCell (p:=⟨B,1,none⟩) q _)⟩
theorem PS.nil {k B R C:Nat} {a wr:World} {key:Int} {l:List Bk} {b:List (List (List Int))} {hs:List Hd} {c m:Option Addr} {d c2 n f:Nat} (h:PS k B R C a wr key l b hs c d c2 m n f) (j:l.length≤1000) (r:k < a.heap.size) (g:a.heap.size≤B) (q:R≠B):PE k B R C a (wr.setCell ⟨B,2,none⟩ (.slice none 0 0)) (.int .i64 key) (.slice c d c2) (.slice none 0 0) ⟨key,l,[]⟩:=
 ⟨Q06 h.box 2 _,Q29 h.res q,Qfw h.len (Q0q h.bk h.box Q87 2 _),Q4s j (by simp) (fun i hi=> absurd hi (Nat.not_lt_zero _)),h.dr.below r ((Below.refl _ _).setCell (p:=⟨B,2,none⟩) g _)⟩
theorem PS.bend {k B R C:Nat} {c wr:World} {key:Int} {l:List Bk} {b:List (List (List Int))} {hs:List Hd} {A E:Option Addr} {D c2 n v:Nat} {a r O i:Nat} {x y:Int} (h:PS k B R C c wr key l b hs A D c2 E n v) (f:Q5B b) (M:l.length≤1000) (H:k < c.heap.size) (P:c.heap.size≤C) (hi:i < b.length) (z:hv hs i=.slice (some ⟨a,0,none⟩) 8 O) (F:Qa6 wr C (.slice (some ⟨r,0,none⟩) 2 2) [x,y]) (j:a≠B) (t:a≠R) (J:C≤a):
  ∃m,PE k B R C c (wr.setCell ⟨a,2,none⟩ (.slice (some ⟨r,0,none⟩) 2 2)) (.int .i64 key) (.slice A D c2) (.slice E n v) m:=by
 obtain ⟨d,s1,s2,s3⟩:=Qfx h.gt h.ow f hi z F;obtain ⟨G,s,I,N,L,T⟩:=h.gt.2 i hi
 have w:hv hs i=.slice G (b.getD i []).length s:=by unfold hv;rw [N]
 rw [z,(f.2.2 i hi).1] at w;injection w with q1 q2 q3;subst q1 q3;have u:wr.grownBy (wr.setCell ⟨a,2,none⟩ (.slice (some ⟨r,0,none⟩) 2 2)) (some a):=Q0I wr a 2 _;have g:=World.ownsRow.kept h.bk u (Q2z h.bk L Qjq);have q:=h.len;subst q;refine ⟨⟨key,l,d⟩,Q29 h.box (Ne.symm j),Q29 h.res (Ne.symm t),⟨_,_,rfl,InRow.ri (InRow.of g),InRow.cap (InRow.of g),s3,InRow.cap (InRow.of h.ow)⟩,Q4s M s1.2.1 s1.2.2,h.dr.below H ((Below.refl _ _).setCell (p:=⟨a,2,none⟩) (show c.heap.size≤a by omega) _)⟩
theorem Qg6 (w:World) (x y:Int):Qa6 (w.alloc (.cells #[.int .i64 x,.int .i64 y] 3)) w.heap.size (.slice (some ⟨w.heap.size,0,none⟩) 2 2) [x,y]:=⟨by simp [Q2w],.inr ⟨w.heap.size,2,#[.int .i64 x,.int .i64 y],rfl,Kaq _,heap_alloc_new w _,by simp,by decide,by simp [Q2w],by simp [Q2w]⟩⟩
theorem Q7z (k:Nat) (b:List Int) (w:World) (i:isCur k w) (j:k < w.heap.size) (h:0 < b.length) (l:b.length≤1000):
  Calls Tryz.prog 55 #[.pointer (some ⟨k,0,none⟩),.slice (some ⟨w.heap.size,0,none⟩) b.length b.length] (w.alloc (.cells (b.map (Value.int .i64)).toArray 3)).drew fun e d=> ∃x,x∈b∧e=.returned (.int .i64 x)∧isCur k d∧w.grownBy d (some k):=by
 refine (Q0P k w.heap.size b _ ((i.alloc j _).below (Below.drew (Below.refl _ _))) (by simp) (by omega) h l (fun q c=> ?_)).mono ?_
 ·refine Q00 (World.alloc_heap_new w _) q _ ?_
  rw [List.getElem?_toArray,List.getElem?_map,List.getElem?_eq_getElem c,List.getD_eq_getElem?_getD,List.getElem?_eq_getElem c]
  rfl
 ·rintro e d ⟨q,c,rfl,f,a⟩
  have g:(w.alloc (.cells (b.map (Value.int .i64)).toArray 3)).grownBy d (some k):=⟨a.os,a.tape,a.output,a.size,a.block⟩;refine ⟨_, ?_,rfl,f,Q05 (Q0t w _ k) g⟩;rw [List.getD_eq_getElem?_getD,List.getElem?_eq_getElem c];exact List.getElem_mem c
theorem Qez {k B R C:Nat} {d wr:World} {key:Int} {l:List Bk} {a:List (List (List Int))} {hs:List Hd} {g c:Option Addr} {j c2 n b:Nat} {x:World} (h:PS k B R C d wr key l a hs g j c2 c n b) (p:isCur k x) (q:wr.grownBy x (some k)) (f:B≠k) (m:R≠k) (i:k < C):x.cell? ⟨B,2,none⟩=some (.slice c n b):=Q00 (h.draw p q f m i).box 2 _ rfl
theorem Qfj {k B R C:Nat} {m wr:World} {key:Int} {l:List Bk} {a:List (List (List Int))} {hs:List Hd} {q:Option Addr} {s c2 n f:Nat} {x:World} {g i d c:Nat} (h:PS k B R C m wr key l a hs q s c2 (some ⟨g,0,none⟩) n f) (t:isCur k x) (u:wr.grownBy x (some k)) (p:B≠k) (j:R≠k) (r:k < C) (hi:i < a.length) (b:hv hs i=.slice (some ⟨d,0,none⟩) 8 c):x.cell? ⟨g,i,none⟩=some (.slice (some ⟨d,0,none⟩) 8 c):=by
 have h2:=h.draw t u p j r;rw [←b];exact Q2U h2.ow i (by rw [h2.gt.1];exact hi)
theorem QfL {wr:World} {B g a i n b c:Nat} (d:a≠B) (f:a≠g) (h:∀O,(wr.alloc O).cell? ⟨B,2,none⟩=some (.slice (some ⟨g,0,none⟩) n b)) (h2:∀O,(wr.alloc O).cell? ⟨g,i,none⟩=some (.slice (some ⟨a,0,none⟩) 8 c)) (O:Obj) (v:Value):((wr.alloc O).setCell ⟨a,2,none⟩ v).cell? ⟨B,2,none⟩=some (.slice (some ⟨g,0,none⟩) n b)∧((wr.alloc O).setCell ⟨a,2,none⟩ v).cell? ⟨g,i,none⟩=some (.slice (some ⟨a,0,none⟩) 8 c):=
 ⟨(World.cell?_setCell_far _ _ _ _ d).trans (h O),(World.cell?_setCell_far _ _ _ _ f).trans (h2 O)⟩
theorem Qft {k B R C:Nat} {r wr:World} {key:Int} {l:List Bk} {b:List (List (List Int))} {hs:List Hd} {D:Option Addr} {G c2 n w g i c z:Nat} (h:PS k B R C r wr key l b hs D G c2 (some ⟨g,0,none⟩) n w) (hi:i < b.length) (f:hv hs i=.slice (some ⟨c,0,none⟩) 8 z) (p:Q5B b) (j:l.length≤1000) (L:k < r.heap.size) (M:r.heap.size≤C) (A:c≠B) (H:c≠R) (v:C≤c) (x:Int):
  (∀O,(wr.alloc O).cell? ⟨B,2,none⟩=some (.slice (some ⟨g,0,none⟩) n w))∧(∀O,(wr.alloc O).cell? ⟨g,i,none⟩=some (.slice (some ⟨c,0,none⟩) 8 z))∧(∃u,(wr.alloc (.cells #[.int .i64 x,.int .i64 1] 3)).cell? ⟨c,2,none⟩=some u)∧(∀O,(wr.alloc O).frozen? ⟨c,2,none⟩=false)∧Hid (∃m,PE k B R C r ((wr.alloc (.cells #[.int .i64 x,.int .i64 1] 3)).setCell ⟨c,2,none⟩ (.slice (some ⟨wr.heap.size,0,none⟩) 2 2)) (.int .i64 key) (.slice D G c2) (.slice (some ⟨g,0,none⟩) n w) m):=by
 have t:∀O,PS k B R C r (wr.alloc O) key l b hs D G c2 (some ⟨g,0,none⟩) n w:=fun O=> h.below ((Below.refl _ _).alloc (Kaq _) O) L
 have J:∀O,∃a:List Hd,a.length=8∧(wr.alloc O).ownsRow C 47 Q0H.k (.slice (some ⟨c,0,none⟩) 8 z) 8 (a.flatMap Q0H.cs):=fun O=> by
  obtain ⟨F,q,a,I,d,y⟩:=(t O).gt.2 i hi
  have s:hv hs i=.slice F (b.getD i []).length q:=by unfold hv;rw [I]
  rw [f,(p.2.2 i hi).1] at s;injection s with q1 q2 q3;subst q1 q3;have j:=y.len;rw [(p.2.2 i hi).1] at j d;unfold ownL at d;rw [j] at d;exact ⟨a,j,d⟩
 refine ⟨fun O=> Q00 (t O).box 2 _ rfl,fun O=> by rw [←f];exact Q2U (t O).ow i (by rw [(t O).gt.1];exact hi), ?_,fun O=> ?_, ?_⟩
 ·obtain ⟨a,j,d⟩:=J (.cells #[.int .i64 x,.int .i64 1] 3)
  have y:ownL Q0H 47 (wr.alloc (.cells #[.int .i64 x,.int .i64 1] 3)) C (.slice (some ⟨c,0,none⟩) 8 z) a:=by unfold ownL;rw [j];exact d
  exact ⟨_,Q2U y 2 (by omega)⟩
 ·obtain ⟨a,j,d⟩:=J O
  exact World.ownsRow.frozenAt d 2
 ·have E:C≤wr.heap.size:=Kdq v (by obtain ⟨F,q,a,I,d,y⟩:=h.gt.2 i hi;have s:hv hs i=.slice F (b.getD i []).length q:=(by unfold hv;rw [I]);rw [f] at s;injection s with q1 _ _;subst q1;exact Nat.le_of_lt (d.lt c rfl).2)
  exact (t _).bend p j L M hi f (Q04 (Qg6 wr x 1) E) A H v
theorem QdK (k:Nat) (w:World) (hc:isCur k w) (I:k < w.heap.size):
  Calls Tryz.prog 82 #[.pointer (some ⟨k,0,none⟩)] w fun e w'=> ∃v m,e=.returned v∧RcPm w.heap.size w'.heap.size w' v m∧Q3q m∧Dr k w w':=by
 obtain ⟨W0,ap⟩:∃W,w.alloc (.cells #[.int .i64 0,.slice none 0 0,.slice none 0 0] 29)=W:=⟨_,rfl⟩;have aP:=alb0v0v1 ap;have au:=Q01 (show Dr k w W0 from ⟨hc.below (aP.mono I),by rw [←ap];exact Q0t w _ k⟩);have aJ:Hid _:=alx0v0v1 ap;have F:=alz0v0v1 ap;clear aP hc;go_enter Tryz.func82,Tryz.ntmps82;go_wp2_with fail;refine (Qda k W0 au.out.cur (au.out.lt I)).mono ?_;rintro e w1 ⟨key,l,ax,hs,V,c2,oQ,t,rfl,aw,an,ay,az,aI,ak⟩;obtain ⟨N,ao⟩:∃n,l.length=n:=⟨_,rfl⟩;obtain ⟨n,hn⟩:∃n,ax.length=n:=⟨_,rfl⟩;rw [ao] at ay ⊢;rw [hn] at az ⊢;have G:=Q01 an;have aY:=Q01 ao
 have HN:=Q01 hn
 have hL:l.length≤1000:=by omega
 have HL:=Q01 hL
 have aX:1≤n:=by rw [←hn];exact an.1
 have a1:n≤3:=by rw [←hn];exact an.2.1
 have aF:W0.heap.size≤w1.heap.size:=ak.gr.size;have ae:Below w1.heap.size w1 (w1.alloc (.cells #[.int .i64 key,.slice V N c2,.slice oQ n t] 29)):=(Below.refl _ _).alloc (Kaq _) _;have aq:=Q01 (show PS k w1.heap.size w.heap.size W0.heap.size w (w1.alloc (.cells #[.int .i64 key,.slice V N c2,.slice oQ n t] 29)) key l ax hs V N c2 oQ n t from ⟨ao.symm,World.alloc_heap_new w1 _,(ae.block _ (by omega)).trans (Q09 ak.gr F (by omega) aJ.out),Q03 ay ae,Q03 az ae,aI.kept ae,(au.out.step ak.cur ak.gr).below I (ae.mono (by omega))⟩)
 clear ae ay az aI ak aJ au ao hn an hL aw;go_wp2_with fail;generalize (w1.alloc (.cells #[.int .i64 key,.slice V N c2,.slice oQ n t] 29))=W2 at *;obtain ⟨B,hB⟩:∃B,w1.heap.size=B:=⟨_,rfl⟩;simp only [hB] at aq aF ⊢
 have u:B≠k:=by omega
 have z:w.heap.size≠k:=by omega
 have aB:w.heap.size≠B:=by omega
 have aE:w.heap.size≤B:=by omega
 have C:k < W0.heap.size:=by omega
 clear hB;refine (Q1v k 8 W2 aq.out.dr.cur (by decide) (by decide)).mono ?_;rintro e w3 ⟨aT,rfl,aL,aN⟩;have ah:=Q01 (aq.out.draw aL aN u z C);clear aL aN aq
 cases aT with
 |false=>
  have d:=Q01 (ah.out.end0 G.out HL.out);have z0:w3.cell? ⟨B,0,none⟩=some (.int .i64 key):=Q00 d.out.box 0 _ rfl;have z1:w3.cell? ⟨B,1,none⟩=some (.slice V N c2):=Q00 d.out.box 1 _ rfl;have z2:w3.cell? ⟨B,2,none⟩=some (.slice oQ n t):=Q00 d.out.box 2 _ rfl;have r0:w3.cell? ⟨w.heap.size,0,none⟩=some (.int .i64 0):=Q00 d.out.res 0 _ rfl;have ac:w3.frozen? ⟨w.heap.size,0,none⟩=false:=Q02 d.out.res 0;have r1:w3.cell? ⟨w.heap.size,1,none⟩=some (.slice none 0 0):=Q00 d.out.res 1 _ rfl;have af:w3.frozen? ⟨w.heap.size,1,none⟩=false:=Q02 d.out.res 1
  have r2:w3.cell? ⟨w.heap.size,2,none⟩=some (.slice none 0 0):=Q00 d.out.res 2 _ rfl;have ad:w3.frozen? ⟨w.heap.size,2,none⟩=false:=Q02 d.out.res 2;have A:=Q01 (d.out.done I F);clear ah d;go_wp2;refine bodyPost_ret (v:=.agg #[.int .i64 key,.slice V N c2,.slice oQ n t]) (by simp [results,Tryz.results82,go_sem,r0,r1,r2]) rfl ⟨_,_,rfl,A.out.1,A.out.2.1,A.out.2.2⟩
 |true=>
  go_wp2_with fail;refine (Q0p k 4 w3 ah.out.dr.cur (by decide) (by decide)).mono ?_;rintro e j ⟨x,rfl,aV,aU,aH,aG⟩;have b:=Q01 (ah.out.draw aH aG u z C);clear aH aG ah
  by_cases e0:x=0
  ·subst e0
   go_wp2_with fail;refine (Q2s k [-1,1000000,3] j b.out.dr.cur (b.out.dr.lt I) (by simp) (by simp)).mono ?_;rintro e a ⟨y,_,rfl,p,q⟩;have s:=Q01 (b.out.draw p q u z C);have d:=Q01 (s.out.key G.out HL.out I aE aB y);have y2:a.cell? ⟨B,0,none⟩=some (.int .i64 key):=Q00 s.out.box 0 _ rfl;have aK:a.frozen? ⟨B,0,none⟩=false:=Q02 s.out.box 0;have q0:(a.setCell ⟨B,0,none⟩ (.int .i64 y)).cell? ⟨B,0,none⟩=some (.int .i64 y):=Q00 d.out.box 0 _ rfl;have q1:(a.setCell ⟨B,0,none⟩ (.int .i64 y)).cell? ⟨B,1,none⟩=some (.slice V N c2):=Q00 d.out.box 1 _ rfl
   have q2:(a.setCell ⟨B,0,none⟩ (.int .i64 y)).cell? ⟨B,2,none⟩=some (.slice oQ n t):=Q00 d.out.box 2 _ rfl;have r0:(a.setCell ⟨B,0,none⟩ (.int .i64 y)).cell? ⟨w.heap.size,0,none⟩=some (.int .i64 0):=Q00 d.out.res 0 _ rfl;have ac:(a.setCell ⟨B,0,none⟩ (.int .i64 y)).frozen? ⟨w.heap.size,0,none⟩=false:=Q02 d.out.res 0;have r1:(a.setCell ⟨B,0,none⟩ (.int .i64 y)).cell? ⟨w.heap.size,1,none⟩=some (.slice none 0 0):=Q00 d.out.res 1 _ rfl;have af:(a.setCell ⟨B,0,none⟩ (.int .i64 y)).frozen? ⟨w.heap.size,1,none⟩=false:=Q02 d.out.res 1
   have r2:(a.setCell ⟨B,0,none⟩ (.int .i64 y)).cell? ⟨w.heap.size,2,none⟩=some (.slice none 0 0):=Q00 d.out.res 2 _ rfl;have ad:(a.setCell ⟨B,0,none⟩ (.int .i64 y)).frozen? ⟨w.heap.size,2,none⟩=false:=Q02 d.out.res 2;have A:=Q01 (d.out.done I F);clear b s d;go_wp2;refine bodyPost_ret (v:=.agg #[.int .i64 y,.slice V N c2,.slice oQ n t]) (by simp [results,Tryz.results82,go_sem,r0,r1,r2]) rfl ⟨_,_,rfl,A.out.1,A.out.2.1,A.out.2.2⟩
  by_cases e1:x=1
  ·subst e1
   go_wp2_with fail;refine (QdE k j b.out.dr.cur (b.out.dr.lt I)).mono ?_;rintro e a ⟨v5,L5,rfl,ar,aM,p,q⟩;obtain ⟨o5,c5,e5,_⟩:=ownL.open (L:=Q1d) ar;subst e5;obtain ⟨m5,av⟩:∃m,L5.length=m:=⟨_,rfl⟩;rw [av] at aM ar ⊢;have s:=Q01 (b.out.draw p q u z C);have d:=Q01 (s.out.backs G.out aM av.symm I aE aB (Kdq aF (Nat.le_of_lt (Array.getElem?_eq_some_iff.1 b.out.box).1)) ar);clear ar av;have y2:a.cell? ⟨B,1,none⟩=some (.slice V N c2):=Q00 s.out.box 1 _ rfl;have aK:a.frozen? ⟨B,1,none⟩=false:=Q02 s.out.box 1
   have q0:(a.setCell ⟨B,1,none⟩ (.slice o5 m5 c5)).cell? ⟨B,0,none⟩=some (.int .i64 key):=Q00 d.out.box 0 _ rfl;have q1:(a.setCell ⟨B,1,none⟩ (.slice o5 m5 c5)).cell? ⟨B,1,none⟩=some (.slice o5 m5 c5):=Q00 d.out.box 1 _ rfl;have q2:(a.setCell ⟨B,1,none⟩ (.slice o5 m5 c5)).cell? ⟨B,2,none⟩=some (.slice oQ n t):=Q00 d.out.box 2 _ rfl;have r0:(a.setCell ⟨B,1,none⟩ (.slice o5 m5 c5)).cell? ⟨w.heap.size,0,none⟩=some (.int .i64 0):=Q00 d.out.res 0 _ rfl;have ac:(a.setCell ⟨B,1,none⟩ (.slice o5 m5 c5)).frozen? ⟨w.heap.size,0,none⟩=false:=Q02 d.out.res 0
   have r1:(a.setCell ⟨B,1,none⟩ (.slice o5 m5 c5)).cell? ⟨w.heap.size,1,none⟩=some (.slice none 0 0):=Q00 d.out.res 1 _ rfl;have af:(a.setCell ⟨B,1,none⟩ (.slice o5 m5 c5)).frozen? ⟨w.heap.size,1,none⟩=false:=Q02 d.out.res 1;have r2:(a.setCell ⟨B,1,none⟩ (.slice o5 m5 c5)).cell? ⟨w.heap.size,2,none⟩=some (.slice none 0 0):=Q00 d.out.res 2 _ rfl;have ad:(a.setCell ⟨B,1,none⟩ (.slice o5 m5 c5)).frozen? ⟨w.heap.size,2,none⟩=false:=Q02 d.out.res 2;have A:=Q01 (d.out.done I F);clear b s d;go_wp2
   refine bodyPost_ret (v:=.agg #[.int .i64 key,.slice o5 m5 c5,.slice oQ n t]) (by simp [results,Tryz.results82,go_sem,r0,r1,r2]) rfl ⟨_,_,rfl,A.out.1,A.out.2.1,A.out.2.2⟩
  by_cases e2:x=2
  ·subst e2
   have s:=b;have d:=Q01 (s.out.nil HL.out I aE aB);have y2:j.cell? ⟨B,2,none⟩=some (.slice oQ n t):=Q00 s.out.box 2 _ rfl;have aK:j.frozen? ⟨B,2,none⟩=false:=Q02 s.out.box 2;have q0:(j.setCell ⟨B,2,none⟩ (.slice none 0 0)).cell? ⟨B,0,none⟩=some (.int .i64 key):=Q00 d.out.box 0 _ rfl;have q1:(j.setCell ⟨B,2,none⟩ (.slice none 0 0)).cell? ⟨B,1,none⟩=some (.slice V N c2):=Q00 d.out.box 1 _ rfl;have q2:(j.setCell ⟨B,2,none⟩ (.slice none 0 0)).cell? ⟨B,2,none⟩=some (.slice none 0 0):=Q00 d.out.box 2 _ rfl
   have r0:(j.setCell ⟨B,2,none⟩ (.slice none 0 0)).cell? ⟨w.heap.size,0,none⟩=some (.int .i64 0):=Q00 d.out.res 0 _ rfl;have ac:(j.setCell ⟨B,2,none⟩ (.slice none 0 0)).frozen? ⟨w.heap.size,0,none⟩=false:=Q02 d.out.res 0;have r1:(j.setCell ⟨B,2,none⟩ (.slice none 0 0)).cell? ⟨w.heap.size,1,none⟩=some (.slice none 0 0):=Q00 d.out.res 1 _ rfl;have af:(j.setCell ⟨B,2,none⟩ (.slice none 0 0)).frozen? ⟨w.heap.size,1,none⟩=false:=Q02 d.out.res 1;have r2:(j.setCell ⟨B,2,none⟩ (.slice none 0 0)).cell? ⟨w.heap.size,2,none⟩=some (.slice none 0 0):=Q00 d.out.res 2 _ rfl
   have ad:(j.setCell ⟨B,2,none⟩ (.slice none 0 0)).frozen? ⟨w.heap.size,2,none⟩=false:=Q02 d.out.res 2;have A:=Q01 (d.out.done I F);clear b s d;go_wp2;refine bodyPost_ret (v:=.agg #[.int .i64 key,.slice V N c2,.slice none 0 0]) (by simp [results,Tryz.results82,go_sem,r0,r1,r2]) rfl ⟨_,_,rfl,A.out.1,A.out.2.1,A.out.2.2⟩
  ·have ag:Hid (isCur k j):=b.out.dr.cur
   have ab:Hid (k < j.heap.size):=b.out.dr.lt I;obtain ⟨g,cg,aQ⟩:=Q2N b.out.ow (by rw [b.out.gt.1,HN.out];omega);injection aQ with ho1 hA1 hA2;clear hA1 hA2;subst ho1;obtain ⟨i,hi⟩:∃i,n=i+1:=⟨n - 1,by omega⟩
   have J:i < ax.length:=by rw [HN.out];omega
   obtain ⟨o3,c3,a0,e3,k1,k2⟩:=b.out.gt.2 i J;rw [(G.out.2.2 i J).1] at e3 k1 k2;obtain ⟨f,aZ,aR⟩:=Q2N k1 (by rw [k2.len];decide);injection aR with ho3 hA1 hA2;clear hA1 hA2;subst ho3;have aD:W0.heap.size≤g∧g < j.heap.size:=b.out.ow.lt g rfl;have al:W0.heap.size≤f∧f < j.heap.size:=k1.lt f rfl
   have H:f≠B:=by
    rcases Q1Y k1 b.out.box QiX with h|h
    ·cases h
    ·exact fun e=> h (by rw [e];rfl)
   have aW:g≠B:=by
    rcases Q1Y b.out.ow b.out.box Q9V with h|h
    ·cases h
    ·exact fun e=> h (by rw [e];rfl)
   have aa:hv hs i=.slice (some ⟨f,0,none⟩) 8 c3:=by unfold hv;rw [e3]
   have z2:j.cell? ⟨B,2,none⟩=some (.slice (some ⟨g,0,none⟩) n t):=Q00 b.out.box 2 _ rfl
   have zc:j.cell? ⟨g,i,none⟩=some (.slice (some ⟨f,0,none⟩) 8 c3):=by rw [←aa];exact Q2U b.out.ow i (by rw [b.out.gt.1];exact J)
   have aS:f≠g:=by
    rcases Q2z k1 b.out.ow Qj4 with h|h
    ·cases h
    ·exact fun e=> h (by rw [e];rfl)
   clear k1 k2 e3;have aC:B < j.heap.size:=(Array.getElem?_eq_some_iff.1 b.out.box).1
   have aj:f≠w.heap.size:=by omega
   have aA:f≠g:=aS
   obtain ⟨rfl,rfl⟩|⟨rfl,rfl⟩|⟨rfl,rfl⟩:(i=0∧n=1)∨(i=1∧n=2)∨(i=2∧n=3):=by omega
   ·have P:Hid (Calls Tryz.prog 55 #[.pointer (some ⟨k,0,none⟩),.slice (some ⟨j.heap.size,0,none⟩) 3 3] (j.alloc (.cells #[.int .i64 (-1),.int .i64 0,.int .i64 6] 3)).drew fun e w'=> ∃x,x∈([-1,0,6]:List Int)∧e=.returned (.int .i64 x)∧isCur k w'∧j.grownBy w' (some k)):=Q7z k [-1,0,6] j ag.out ab.out (by decide) (by decide)
    have U:j.drew.cell? ⟨B,2,none⟩=some (.slice (some ⟨g,0,none⟩) 1 t):=z2;have R:j.drew.cell? ⟨g,0,none⟩=some (.slice (some ⟨f,0,none⟩) 8 c3):=zc
    have T:∀O,(j.alloc O).cell? ⟨B,2,none⟩=some (.slice (some ⟨g,0,none⟩) 1 t):=fun O=> bC ((Below.refl _ _).alloc (Kaq _) O) z2 aC
    have M:∀O,(j.alloc O).cell? ⟨g,0,none⟩=some (.slice (some ⟨f,0,none⟩) 8 c3):=fun O=> bC ((Below.refl _ _).alloc (Kaq _) O) zc aD.2
    have aO:IntKind.i64.wrap 0=0:=by first|rfl|decide
    go_wp2
    go_region_held3 (fun w'=> w'.cell? ⟨B,2,none⟩=some (.slice (some ⟨g,0,none⟩) 1 t)∧w'.cell? ⟨g,0,none⟩=some (.slice (some ⟨f,0,none⟩) 8 c3)) (first|with_reducible exact ⟨z2,zc⟩|with_reducible exact ⟨U,R⟩|with_reducible exact ⟨T _,M _⟩|with_reducible exact ⟨y2,yc⟩|with_reducible exact ⟨E _,D _⟩|with_reducible exact Z _ _|go_keep) (first|(go_at_call 55;refine (P.out).mono ?_;rintro e a ⟨r,Y,rfl,p,q⟩;clear Y;have J5:=b.out.draw p q u z C;have y2:=Qez b.out p q u z C;have yc:=Qfj b.out p q u z C J aa;obtain ⟨E,D,⟨u3,am⟩,ai,X⟩:=Qft J5 J aa G.out HL.out I (Nat.le_of_lt F) H aj al.1 r;have Z:=QfL H aA E D;clear p q))
    obtain ⟨m9,c⟩:=X.out;have q0:((a.alloc (.cells #[.int .i64 r,.int .i64 1] 3)).setCell ⟨f,2,none⟩ (.slice (some ⟨a.heap.size,0,none⟩) 2 2)).cell? ⟨B,0,none⟩=some (.int .i64 key):=Q00 c.box 0 _ rfl;have q1:((a.alloc (.cells #[.int .i64 r,.int .i64 1] 3)).setCell ⟨f,2,none⟩ (.slice (some ⟨a.heap.size,0,none⟩) 2 2)).cell? ⟨B,1,none⟩=some (.slice V N c2):=Q00 c.box 1 _ rfl;have q2:((a.alloc (.cells #[.int .i64 r,.int .i64 1] 3)).setCell ⟨f,2,none⟩ (.slice (some ⟨a.heap.size,0,none⟩) 2 2)).cell? ⟨B,2,none⟩=some (.slice (some ⟨g,0,none⟩) 1 t):=Q00 c.box 2 _ rfl
    have r0:((a.alloc (.cells #[.int .i64 r,.int .i64 1] 3)).setCell ⟨f,2,none⟩ (.slice (some ⟨a.heap.size,0,none⟩) 2 2)).cell? ⟨w.heap.size,0,none⟩=some (.int .i64 0):=Q00 c.res 0 _ rfl;have ac:((a.alloc (.cells #[.int .i64 r,.int .i64 1] 3)).setCell ⟨f,2,none⟩ (.slice (some ⟨a.heap.size,0,none⟩) 2 2)).frozen? ⟨w.heap.size,0,none⟩=false:=Q02 c.res 0;have r1:((a.alloc (.cells #[.int .i64 r,.int .i64 1] 3)).setCell ⟨f,2,none⟩ (.slice (some ⟨a.heap.size,0,none⟩) 2 2)).cell? ⟨w.heap.size,1,none⟩=some (.slice none 0 0):=Q00 c.res 1 _ rfl
    have af:((a.alloc (.cells #[.int .i64 r,.int .i64 1] 3)).setCell ⟨f,2,none⟩ (.slice (some ⟨a.heap.size,0,none⟩) 2 2)).frozen? ⟨w.heap.size,1,none⟩=false:=Q02 c.res 1;have r2:((a.alloc (.cells #[.int .i64 r,.int .i64 1] 3)).setCell ⟨f,2,none⟩ (.slice (some ⟨a.heap.size,0,none⟩) 2 2)).cell? ⟨w.heap.size,2,none⟩=some (.slice none 0 0):=Q00 c.res 2 _ rfl;have ad:((a.alloc (.cells #[.int .i64 r,.int .i64 1] 3)).setCell ⟨f,2,none⟩ (.slice (some ⟨a.heap.size,0,none⟩) 2 2)).frozen? ⟨w.heap.size,2,none⟩=false:=Q02 c.res 2;have A:=Q01 (c.done I F)
    clear b c X E D am ai Z J5 y2 yc z2 zc T M U R P G HN ag ab;go_wp2;refine bodyPost_ret (v:=.agg #[.int .i64 key,.slice V N c2,.slice (some ⟨g,0,none⟩) 1 t]) (by simp [results,Tryz.results82,go_sem,r0,r1,r2]) rfl ⟨_,_,rfl,A.out.1,A.out.2.1,A.out.2.2⟩
   ·have P:Hid (Calls Tryz.prog 55 #[.pointer (some ⟨k,0,none⟩),.slice (some ⟨j.heap.size,0,none⟩) 3 3] (j.alloc (.cells #[.int .i64 (-1),.int .i64 0,.int .i64 6] 3)).drew fun e w'=> ∃x,x∈([-1,0,6]:List Int)∧e=.returned (.int .i64 x)∧isCur k w'∧j.grownBy w' (some k)):=Q7z k [-1,0,6] j ag.out ab.out (by decide) (by decide)
    have U:j.drew.cell? ⟨B,2,none⟩=some (.slice (some ⟨g,0,none⟩) 2 t):=z2;have R:j.drew.cell? ⟨g,1,none⟩=some (.slice (some ⟨f,0,none⟩) 8 c3):=zc
    have T:∀O,(j.alloc O).cell? ⟨B,2,none⟩=some (.slice (some ⟨g,0,none⟩) 2 t):=fun O=> bC ((Below.refl _ _).alloc (Kaq _) O) z2 aC
    have M:∀O,(j.alloc O).cell? ⟨g,1,none⟩=some (.slice (some ⟨f,0,none⟩) 8 c3):=fun O=> bC ((Below.refl _ _).alloc (Kaq _) O) zc aD.2
    have aO:IntKind.i64.wrap 1=1:=by first|rfl|decide
    go_wp2
    go_region_held3 (fun w'=> w'.cell? ⟨B,2,none⟩=some (.slice (some ⟨g,0,none⟩) 2 t)∧w'.cell? ⟨g,1,none⟩=some (.slice (some ⟨f,0,none⟩) 8 c3)) (first|with_reducible exact ⟨z2,zc⟩|with_reducible exact ⟨U,R⟩|with_reducible exact ⟨T _,M _⟩|with_reducible exact ⟨y2,yc⟩|with_reducible exact ⟨E _,D _⟩|with_reducible exact Z _ _|go_keep) (first|(go_at_call 55;refine (P.out).mono ?_;rintro e a ⟨r,Y,rfl,p,q⟩;clear Y;have J5:=b.out.draw p q u z C;have y2:=Qez b.out p q u z C;have yc:=Qfj b.out p q u z C J aa;obtain ⟨E,D,⟨u3,am⟩,ai,X⟩:=Qft J5 J aa G.out HL.out I (Nat.le_of_lt F) H aj al.1 r;have Z:=QfL H aA E D;clear p q))
    obtain ⟨m9,c⟩:=X.out;have q0:((a.alloc (.cells #[.int .i64 r,.int .i64 1] 3)).setCell ⟨f,2,none⟩ (.slice (some ⟨a.heap.size,0,none⟩) 2 2)).cell? ⟨B,0,none⟩=some (.int .i64 key):=Q00 c.box 0 _ rfl;have q1:((a.alloc (.cells #[.int .i64 r,.int .i64 1] 3)).setCell ⟨f,2,none⟩ (.slice (some ⟨a.heap.size,0,none⟩) 2 2)).cell? ⟨B,1,none⟩=some (.slice V N c2):=Q00 c.box 1 _ rfl;have q2:((a.alloc (.cells #[.int .i64 r,.int .i64 1] 3)).setCell ⟨f,2,none⟩ (.slice (some ⟨a.heap.size,0,none⟩) 2 2)).cell? ⟨B,2,none⟩=some (.slice (some ⟨g,0,none⟩) 2 t):=Q00 c.box 2 _ rfl
    have r0:((a.alloc (.cells #[.int .i64 r,.int .i64 1] 3)).setCell ⟨f,2,none⟩ (.slice (some ⟨a.heap.size,0,none⟩) 2 2)).cell? ⟨w.heap.size,0,none⟩=some (.int .i64 0):=Q00 c.res 0 _ rfl;have ac:((a.alloc (.cells #[.int .i64 r,.int .i64 1] 3)).setCell ⟨f,2,none⟩ (.slice (some ⟨a.heap.size,0,none⟩) 2 2)).frozen? ⟨w.heap.size,0,none⟩=false:=Q02 c.res 0;have r1:((a.alloc (.cells #[.int .i64 r,.int .i64 1] 3)).setCell ⟨f,2,none⟩ (.slice (some ⟨a.heap.size,0,none⟩) 2 2)).cell? ⟨w.heap.size,1,none⟩=some (.slice none 0 0):=Q00 c.res 1 _ rfl
    have af:((a.alloc (.cells #[.int .i64 r,.int .i64 1] 3)).setCell ⟨f,2,none⟩ (.slice (some ⟨a.heap.size,0,none⟩) 2 2)).frozen? ⟨w.heap.size,1,none⟩=false:=Q02 c.res 1;have r2:((a.alloc (.cells #[.int .i64 r,.int .i64 1] 3)).setCell ⟨f,2,none⟩ (.slice (some ⟨a.heap.size,0,none⟩) 2 2)).cell? ⟨w.heap.size,2,none⟩=some (.slice none 0 0):=Q00 c.res 2 _ rfl;have ad:((a.alloc (.cells #[.int .i64 r,.int .i64 1] 3)).setCell ⟨f,2,none⟩ (.slice (some ⟨a.heap.size,0,none⟩) 2 2)).frozen? ⟨w.heap.size,2,none⟩=false:=Q02 c.res 2;have A:=Q01 (c.done I F)
    clear b c X E D am ai Z J5 y2 yc z2 zc T M U R P G HN ag ab;go_wp2;refine bodyPost_ret (v:=.agg #[.int .i64 key,.slice V N c2,.slice (some ⟨g,0,none⟩) 2 t]) (by simp [results,Tryz.results82,go_sem,r0,r1,r2]) rfl ⟨_,_,rfl,A.out.1,A.out.2.1,A.out.2.2⟩
   ·have P:Hid (Calls Tryz.prog 55 #[.pointer (some ⟨k,0,none⟩),.slice (some ⟨j.heap.size,0,none⟩) 3 3] (j.alloc (.cells #[.int .i64 (-1),.int .i64 0,.int .i64 6] 3)).drew fun e w'=> ∃x,x∈([-1,0,6]:List Int)∧e=.returned (.int .i64 x)∧isCur k w'∧j.grownBy w' (some k)):=Q7z k [-1,0,6] j ag.out ab.out (by decide) (by decide)
    have U:j.drew.cell? ⟨B,2,none⟩=some (.slice (some ⟨g,0,none⟩) 3 t):=z2;have R:j.drew.cell? ⟨g,2,none⟩=some (.slice (some ⟨f,0,none⟩) 8 c3):=zc
    have T:∀O,(j.alloc O).cell? ⟨B,2,none⟩=some (.slice (some ⟨g,0,none⟩) 3 t):=fun O=> bC ((Below.refl _ _).alloc (Kaq _) O) z2 aC
    have M:∀O,(j.alloc O).cell? ⟨g,2,none⟩=some (.slice (some ⟨f,0,none⟩) 8 c3):=fun O=> bC ((Below.refl _ _).alloc (Kaq _) O) zc aD.2
    have aO:IntKind.i64.wrap 2=2:=by first|rfl|decide
    go_wp2
    go_region_held3 (fun w'=> w'.cell? ⟨B,2,none⟩=some (.slice (some ⟨g,0,none⟩) 3 t)∧w'.cell? ⟨g,2,none⟩=some (.slice (some ⟨f,0,none⟩) 8 c3)) (first|with_reducible exact ⟨z2,zc⟩|with_reducible exact ⟨U,R⟩|with_reducible exact ⟨T _,M _⟩|with_reducible exact ⟨y2,yc⟩|with_reducible exact ⟨E _,D _⟩|with_reducible exact Z _ _|go_keep) (first|(go_at_call 55;refine (P.out).mono ?_;rintro e a ⟨r,Y,rfl,p,q⟩;clear Y;have J5:=b.out.draw p q u z C;have y2:=Qez b.out p q u z C;have yc:=Qfj b.out p q u z C J aa;obtain ⟨E,D,⟨u3,am⟩,ai,X⟩:=Qft J5 J aa G.out HL.out I (Nat.le_of_lt F) H aj al.1 r;have Z:=QfL H aA E D;clear p q))
    obtain ⟨m9,c⟩:=X.out;have q0:((a.alloc (.cells #[.int .i64 r,.int .i64 1] 3)).setCell ⟨f,2,none⟩ (.slice (some ⟨a.heap.size,0,none⟩) 2 2)).cell? ⟨B,0,none⟩=some (.int .i64 key):=Q00 c.box 0 _ rfl;have q1:((a.alloc (.cells #[.int .i64 r,.int .i64 1] 3)).setCell ⟨f,2,none⟩ (.slice (some ⟨a.heap.size,0,none⟩) 2 2)).cell? ⟨B,1,none⟩=some (.slice V N c2):=Q00 c.box 1 _ rfl;have q2:((a.alloc (.cells #[.int .i64 r,.int .i64 1] 3)).setCell ⟨f,2,none⟩ (.slice (some ⟨a.heap.size,0,none⟩) 2 2)).cell? ⟨B,2,none⟩=some (.slice (some ⟨g,0,none⟩) 3 t):=Q00 c.box 2 _ rfl
    have r0:((a.alloc (.cells #[.int .i64 r,.int .i64 1] 3)).setCell ⟨f,2,none⟩ (.slice (some ⟨a.heap.size,0,none⟩) 2 2)).cell? ⟨w.heap.size,0,none⟩=some (.int .i64 0):=Q00 c.res 0 _ rfl;have ac:((a.alloc (.cells #[.int .i64 r,.int .i64 1] 3)).setCell ⟨f,2,none⟩ (.slice (some ⟨a.heap.size,0,none⟩) 2 2)).frozen? ⟨w.heap.size,0,none⟩=false:=Q02 c.res 0;have r1:((a.alloc (.cells #[.int .i64 r,.int .i64 1] 3)).setCell ⟨f,2,none⟩ (.slice (some ⟨a.heap.size,0,none⟩) 2 2)).cell? ⟨w.heap.size,1,none⟩=some (.slice none 0 0):=Q00 c.res 1 _ rfl
    have af:((a.alloc (.cells #[.int .i64 r,.int .i64 1] 3)).setCell ⟨f,2,none⟩ (.slice (some ⟨a.heap.size,0,none⟩) 2 2)).frozen? ⟨w.heap.size,1,none⟩=false:=Q02 c.res 1;have r2:((a.alloc (.cells #[.int .i64 r,.int .i64 1] 3)).setCell ⟨f,2,none⟩ (.slice (some ⟨a.heap.size,0,none⟩) 2 2)).cell? ⟨w.heap.size,2,none⟩=some (.slice none 0 0):=Q00 c.res 2 _ rfl;have ad:((a.alloc (.cells #[.int .i64 r,.int .i64 1] 3)).setCell ⟨f,2,none⟩ (.slice (some ⟨a.heap.size,0,none⟩) 2 2)).frozen? ⟨w.heap.size,2,none⟩=false:=Q02 c.res 2;have A:=Q01 (c.done I F)
    clear b c X E D am ai Z J5 y2 yc z2 zc T M U R P G HN ag ab;go_wp2;refine bodyPost_ret (v:=.agg #[.int .i64 key,.slice V N c2,.slice (some ⟨g,0,none⟩) 3 t]) (by simp [results,Tryz.results82,go_sem,r0,r1,r2]) rfl ⟨_,_,rfl,A.out.1,A.out.2.1,A.out.2.2⟩
theorem Qbb {ll:List (List Int)} (h:ll.length=8):Q1i ll ll=0:=by
 unfold Q1i;rw [if_pos ⟨h,h⟩];exact Q3x 8 (fun i _=> rfl)
theorem RiK.cell {C:Nat} {w:World} {o:Option Addr} {n c:Nat} {l:List Bk} (h:RiV Q1d 0 C w (.slice o n c) l) (j:Nat) (a:j < l.length):∃g off,o=some ⟨g,off,none⟩∧g < C∧w.cell? ⟨g,off+j * 3,none⟩=some (.int .i64 (l.getD j (0,0,false)).1)∧w.cell? ⟨g,off+j * 3+1,none⟩=some (.int .i64 (l.getD j (0,0,false)).2.1)∧w.cell? ⟨g,off+j * 3+2,none⟩=some (.bool (l.getD j (0,0,false)).2.2):=by
 obtain ⟨k,i,e,r⟩:=RiV.open h;injection e with e1 _ _;subst e1
 rcases r with r|⟨b,off,d,f,r⟩
 ·subst r;exact absurd a (Nat.not_lt_zero _)
 ·exact ⟨b,off,d,f,r j a 0 (by decide),r j a 1 (by decide),r j a 2 (by decide)⟩
theorem Qba (v1 v2:Value) (m:Pm) (w:World) (h1:Q86 w.heap.size w v1 m) (h2:Q86 w.heap.size w v2 m) (hf:Q3q m) (F:∀i,i < m.ring.length→(m.ring.getD i []).length=8):
  Calls Tryz.prog 25 #[v1,v2] w fun e w'=> e=.returned (.bool true)∧Below w.heap.size w w':=by
 obtain ⟨an,au,rfl,q,r1⟩:=h1;obtain ⟨ap,ao,rfl,t,r2⟩:=h2;obtain ⟨o1,c1,rfl,_⟩:=q.open;obtain ⟨o2,c2,rfl,_⟩:=t.open;obtain ⟨ai,al,rfl⟩:=RiR.len r1;obtain ⟨aj,ak,rfl⟩:=RiR.len r2;obtain ⟨ah,am,ag,g,h⟩:=hf;have R:=Q01 q;have X:=Q01 t;have Y:=Q01 r1;have V:=Q01 r2;have H8:=Q01 F;have T:=Q01 g;have ad:=Q01 h;obtain ⟨key,C⟩:∃x,m.key=x:=⟨_,rfl⟩;obtain ⟨G,z⟩:∃x,m.l.length=x:=⟨_,rfl⟩;obtain ⟨n,hn⟩:∃x,m.ring.length=x:=⟨_,rfl⟩;have aa:=Q01 z;have HN:=Q01 hn;rw [C,z,hn];rw [z] at R X ah;rw [hn] at Y V H8 T ad am
 clear C z hn q t r1 r2 F ag g h;obtain ⟨W0,y⟩:∃W,((w.alloc (.cells #[.int .i64 key,.slice o1 G c1,.slice ai n al] 29)).alloc (.cells #[.int .i64 key,.slice o2 G c2,.slice aj n ak] 29))=W:=⟨_,rfl⟩;have u:=alb0v0v2 y;have HB:=Q01 u;clear u;have zz:=alz0v0v2 y;obtain ⟨z0,z1,z2⟩:=alc3v0v2 y;have O:=alz0v1v2 y;obtain ⟨u0,u1,u2⟩:=alc3v1v2 y;go_enter Tryz.func25,Tryz.ntmps25;go_wp2
 go_loopw [4,5] (fun rv iv wr=> ∃i:Nat,i≤G∧iv=.int .i64 (i:Int)∧rv=.bool false∧Hid (Below W0.heap.size W0 wr))
  (fun _ iv _=> G - (intOf iv).toNat)
 case atStart=> exact ⟨0,Kcq _,rfl,rfl,Below.refl _ _⟩
 case round=>
  rename World=> wr
  obtain ⟨i,ar,rfl,rfl,f⟩:=hrel;have U:=bC f.out z1 zz;have L:=bC f.out z2 zz;have P:=bC f.out u1 O;have H:=bC f.out u2 O;have A:=Kbq zz f.out.size;have B:=Kbq O f.out.size;have c:=Q01 (HB.out.trans (f.out.mono HB.out.size))
  by_cases hlt:i < G
  ·have ab:(i:Int) < (G:Int):=by omega
   obtain ⟨g1,f1,rfl,r,a0,M,N⟩:=RiK.cell R.out i (by rw [aa.out];exact hlt);obtain ⟨g2,f2,rfl,s,b0,b1,b2⟩:=RiK.cell X.out i (by rw [aa.out];exact hlt);have G0:=Grown.cell U A;have G1:=Grown.cell P B;have Ga0:=Grown.cell (bC c.out a0 r) (Kbq r c.out.size);have Ga1:=Grown.cell (bC c.out M r) (Kbq r c.out.size);have Ga2:=Grown.cell (bC c.out N r) (Kbq r c.out.size);have Gb0:=Grown.cell (bC c.out b0 s) (Kbq s c.out.size);have Gb1:=Grown.cell (bC c.out b1 s) (Kbq s c.out.size)
   have Gb2:=Grown.cell (bC c.out b2 s) (Kbq s c.out.size);clear a0 M N b0 b1 b2;generalize m.l.getD i (0,0,false)=d at *;obtain ⟨d0,d1,d2⟩:=d;dsimp only at Ga0 Ga1 Ga2 Gb0 Gb1 Gb2;go_wp2
   (refine Q0b (by kernel_rfl) (by kernel_rfl) ?_;intro ac;(repeat (go_big_quiet_step (fail)));(with_reducible refine wpQuiet_nil ?_);intro _ E;obtain ⟨pq,J⟩:=E;subst J)
   have D:=Q01 (f.out.trans (pq.b.mono f.out.size));go_wp2;go_roundw
   case rel=> exact ⟨i+1,by omega,by go_num,rfl,D.out⟩
   case measure=> simp [intOf];omega
  ·have e:i=G:=by omega
   subst e;go_wp2
   go_loopw [4,6] (fun rv iv wq=> ∃k:Nat,k≤n∧iv=.int .i64 (k:Int)∧rv=.bool false∧Hid (Below W0.heap.size W0 wq))
    (fun _ iv _=> n - (intOf iv).toNat)
   case atStart=> exact ⟨0,Kcq _,rfl,rfl,f.out⟩
   case round=>
   rename World=> wq
   obtain ⟨k,aq,rfl,rfl,j⟩:=hrel;clear U L P H A B;have L:=bC j.out z2 zz;have H:=bC j.out u2 O;have A:=Kbq zz j.out.size;have B:=Kbq O j.out.size;have a:=Q01 (HB.out.trans (j.out.mono HB.out.size))
   by_cases hlt:k < n
   ·have ab:(k:Int) < (n:Int):=by omega
    obtain ⟨b1,f1,w1,rfl,q,M,t1⟩:=RiRows.at Y.out (Kaq _) k (by rw [HN.out];exact hlt);obtain ⟨b2,f2,w2,rfl,t,N,t2⟩:=RiRows.at V.out (Kaq _) k (by rw [HN.out];exact hlt);have F:=H8.out k hlt;have g:=T.out k hlt;have h:=ad.out k hlt;obtain ⟨ll,af⟩:∃x,m.ring.getD k []=x:=⟨_,rfl⟩;rw [af] at t1 t2 F g h;obtain ⟨o3,c3,rfl,Z⟩:=RiT.rd t1;obtain ⟨o4,c4,rfl,ae⟩:=RiT.rd t2
    have I:=Q01 (fun p:Grown wq=> Q9y o3 o4 c3 c4 ll ll p.v ((Z.kept (a.out.trans (p.b.mono a.out.size)) (Kaq _)).le (a.out.trans (p.b.mono a.out.size)).size) ((ae.kept (a.out.trans (p.b.mono a.out.size)) (Kaq _)).le (a.out.trans (p.b.mono a.out.size)).size) g g h h);rw [Qbb F] at I;rw [F] at I M N;have G0:=Grown.cell L A;have G1:=Grown.cell H B;have G2:=Grown.cell (bC a.out M q) (Kbq q a.out.size);have G3:=Grown.cell (bC a.out N t) (Kbq t a.out.size);clear M N t1 t2 Z ae af F g h;go_wp2
    (refine Q0b (by kernel_rfl) (by kernel_rfl) ?_;intro ac;(repeat (go_big_quiet_step ((go_at_call 65;exact Q14 _ (I.out _)))));(with_reducible refine wpQuiet_nil ?_);intro _ E;obtain ⟨pq,J⟩:=E;subst J)
    have D:=Q01 (j.out.trans (pq.b.mono j.out.size));go_wp2;go_roundw
    case rel=> exact ⟨k+1,by omega,by go_num,rfl,D.out⟩
    case measure=> simp [intOf];omega
   ·have e:k=n:=by omega
    subst e;go_wp2;go_ret;exact ⟨rfl,a.out⟩
end Go.Proofs.YtpneolgdghbinaaGreat
