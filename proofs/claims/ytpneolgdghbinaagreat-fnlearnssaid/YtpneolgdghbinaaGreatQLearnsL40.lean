/- Several texts in one: SDrP2, SamePool. -/
import Derived.Test.YtpneolgdghbinaaGreatQLearnsL33
import Derived.Test.YtpneolgdghbinaaGreatQLearnsL39
namespace Go.Proofs.YtpneolgdghbinaaGreat
open Go.ChangeShapes Go.WideShapes Go.ChangeAt Go.RowKit Go.Joins
set_option linter.unusedVariables false
set_option linter.unusedSimpArgs false
set_option maxRecDepth 100000
set_option maxHeartbeats 40000000
theorem Q4r {key:Int} {l:List Bk} {a:List (List (List Int))} (k:l.length≤1000) (f:a.length≤3) (h:∀i,i < a.length→(a.getD i []).length=8∧∀j,((a.getD i []).getD j []).length≤2):Q3q ⟨key,l,a⟩:=by
 refine ⟨by dsimp only;omega,by dsimp only;omega, ?_,fun i hi=> by dsimp only at *;rw [(h i hi).1];decide,fun i hi j g=> by have:=(h i hi).2 j;dsimp only;omega⟩;dsimp only
 have b:∀i,Qc1 a i≤16:=fun i=> by
  by_cases h':i < a.length
  ·have c:=Q5a (QiL (a.getD i [])) 2 (fun j=> (h i h').2 j) (a.getD i []).length
   have d:=(h i h').1
   show QdR (QiL (a.getD i [])) (a.getD i []).length≤16
   rw [d] at c ⊢;omega
  ·unfold Qc1;rw [List.getD_eq_getElem?_getD,List.getElem?_eq_none (by omega)];exact Kcq _
 have c:=Q5a (Qc1 a) 16 b a.length
 show QdR (Qc1 a) a.length≤1048576
 omega
theorem QbU {n:Nat} {α:Type} {d:α} {Q:Nat→α→Prop} (h:∀i,i < n→∃x,Q i x):∃a:List α,a.length=n∧∀i,i < n→Q i (a.getD i d):=by
 induction n with
 |zero=> exact ⟨[],rfl,fun i hi=> absurd hi (Nat.not_lt_zero _)⟩
 |succ n ih=>
  obtain ⟨a,b,c⟩:=ih (fun i hi=> h i (by omega));obtain ⟨y,f⟩:=h n (by omega);refine ⟨a++[y],by simp [b],fun i hi=> ?_⟩
  by_cases hi':i < n
  ·rw [List.getD_eq_getElem?_getD,List.getElem?_append_left (by omega),←List.getD_eq_getElem?_getD];exact c i hi'
  ·have e:i=n:=by omega
   subst e
   have:(a++[y]).getD i d=y:=by rw [←b];simp
   rw [this];exact f
theorem QdV {hs:List Hd} {j q:Nat} {x:Hd} (h:q≠j):hv (hs.set j x) q=hv hs q:=by
 unfold hv;rw [List.getD_eq_getElem?_getD,List.getElem?_set_ne (Ne.symm h),←List.getD_eq_getElem?_getD]
theorem Qfx {hs:List Hd} {j:Nat} {x:Hd} (h:j < hs.length):hv (hs.set j x) j=.slice x.1 x.2.1 x.2.2:=by
 unfold hv;rw [List.getD_eq_getElem?_getD,List.getElem?_set_self h];rfl
theorem QeA (hs:List Hd) (j:Nat) (x:Hd):(hs.set j x).flatMap Q0H.cs=(hs.flatMap Q0H.cs).set j (.slice x.1 x.2.1 x.2.2):=by
 have e:∀l:List Hd,l.flatMap Q0H.cs=l.map (fun x=> Value.slice x.1 x.2.1 x.2.2):=fun l=> by
  induction l with
  |nil=> rfl
  |cons a l ih=> rw [List.flatMap_cons,ih];rfl
 rw [e,e,List.map_set]
theorem Qjr:(51:TypeId)≠47:=by decide
theorem Qjs:(119:TypeId)≠47:=by decide
theorem Qf9 {s:World} {base u r n Z i:Nat} {P:Nat} {Y:Option Addr} {hs:List Hd} {c:List (List (List Int))} {x y:Int} (h:GTabs s base hs c) (U:ownL Q0H 51 s base (.slice Y n P) hs) (w:Q5C c) (hi:i < c.length) (he:hv hs i=.slice (some ⟨u,0,none⟩) 8 Z) (V:Qb2 s base (.slice (some ⟨r,0,none⟩) 2 2) [x,y]):
  ∃m,Q5C m∧m.length=c.length∧RcR base (s.setCell ⟨u,2,none⟩ (.slice (some ⟨r,0,none⟩) 2 2)).heap.size (s.setCell ⟨u,2,none⟩ (.slice (some ⟨r,0,none⟩) 2 2)) (.slice Y n P) m:=by
 obtain ⟨W,I⟩:∃W,s.setCell ⟨u,2,none⟩ (.slice (some ⟨r,0,none⟩) 2 2)=W:=⟨_,rfl⟩;obtain ⟨o3,H,ab,e3,J,k2⟩:=h.2 i hi
 have R:hv hs i=.slice o3 (c.getD i []).length H:=by unfold hv;rw [e3]
 have C:=(w.2.2 i hi).1;rw [he,C] at R;injection R with E q2 q3;subst E q3;rw [C] at J
 have A:s.grownBy W (some u):=by rw [←I];exact Q0I s u 2 _
 have b:∀v l,Qb2 s base v l→Qb2 W base v l:=fun v l hv=> World.ownsRow.kept hv A (Q2w hv J Qgg)
 have key:∀q,q < c.length→∃t:List (List Int),(t.length=8∧∀j,(t.getD j []).length≤2)∧RcT base W.heap.size W (hv hs q) t:=by
  intro q D;obtain ⟨O,F,f,e5,G,B⟩:=h.2 q D;have p:=w.2.2 q D
  have T:hv hs q=.slice O (c.getD q []).length F:=by unfold hv;rw [e5]
  rw [p.1] at G B T;rw [T];have a:=B.len
  by_cases hb:O=some ⟨u,0,none⟩
  ·subst hb
   have M:s.ownsRow base 47 Q0H.k (.slice (some ⟨u,0,none⟩) 8 F) 8 (f.flatMap Q0H.cs):=by have h:=G;unfold ownL at h;rw [a] at h;exact h
   have X:=(World.ownsRow.stored M 2 (.slice (some ⟨r,0,none⟩) 2 2)).1;rw [I,←QeA f 2 (some ⟨r,0,none⟩,2,2)] at X
   have N:ownL Q0H 47 W base (.slice (some ⟨u,0,none⟩) 8 F) (f.set 2 (some ⟨r,0,none⟩,2,2)):=by
    unfold ownL;rw [List.length_set,a];exact X
   refine ⟨(c.getD q []).set 2 [x,y],⟨by rw [List.length_set];exact p.1,fun j=> ?_⟩,⟨f.set 2 (some ⟨r,0,none⟩,2,2),by rw [List.length_set,List.length_set,p.1];exact a, ?_,fun j g=> ?_⟩⟩
   ·by_cases g:j=2
    ·subst g;rw [List.getD_eq_getElem?_getD,List.getElem?_set_self (by rw [p.1];decide)];simp
    ·rw [List.getD_eq_getElem?_getD,List.getElem?_set_ne (Ne.symm g),←List.getD_eq_getElem?_getD];exact p.2 j
   ·have:=InRow.ri (L:=Q0H) (InRow.of N);simpa [a] using this
   ·rw [List.length_set,p.1] at g
    by_cases hj2:j=2
    ·subst hj2
     rw [Qfx (by omega),List.getD_eq_getElem?_getD,List.getElem?_set_self (by rw [p.1];decide)];exact ⟨InRow.ri (L:=Q2x) (InRow.of (b _ _ V)),InRow.cap (InRow.of (b _ _ V))⟩
    ·rw [QdV hj2,List.getD_eq_getElem?_getD,List.getElem?_set_ne (Ne.symm hj2),←List.getD_eq_getElem?_getD]
     exact ⟨InRow.ri (L:=Q2x) (InRow.of (b _ _ (B.row j g))),InRow.cap (InRow.of (b _ _ (B.row j g)))⟩
  ·have N:ownL Q0H 47 W base (.slice O 8 F) f:=by
    refine World.ownsRow.kept G A ?_;obtain ⟨g5,aa,E⟩:=Q2W G (by rw [a];decide);injection E with E _ _
    ·subst E;right;intro e;simp [Value.ownBlock] at e;exact hb (by rw [e])
   refine ⟨c.getD q [],p,⟨f,by rw [p.1];exact a, ?_,fun j g=> ?_⟩⟩
   ·have:=InRow.ri (L:=Q0H) (InRow.of N);simpa [a] using this
   ·rw [p.1] at g
    exact ⟨InRow.ri (L:=Q2x) (InRow.of (b _ _ (B.row j g))),InRow.cap (InRow.of (b _ _ (B.row j g)))⟩
 obtain ⟨ts,z,D⟩:=QbU (d:=([]:List (List Int))) key;rw [I];refine ⟨ts,⟨by rw [z];exact w.1,by rw [z];exact w.2.1,fun j g=> (D j (by omega)).1⟩,z,⟨hs,by rw [z];exact h.1, ?_,fun j g=> (D j (by omega)).2⟩⟩;exact InRow.ri (L:=Q0H) (InRow.of (World.ownsRow.kept U A (Q2w U J Qjr)))
structure PS (k B R C:Nat) (w0 wr:World) (key:Int) (l:List Bk) (lll:List (List (List Int))) (hs:List Hd) (o2:Option Addr) (nb c2:Nat) (oQ:Option Addr) (n cQ:Nat):Prop where
 len:nb=l.length
 box:wr.heap[B]? =some (.cells #[.int .i64 key,.slice o2 nb c2,.slice oQ n cQ] 29 (0,0))
 res:wr.heap[R]? =some (.cells #[.int .i64 0,.slice none 0 0,.slice none 0 0] 29 (0,0))
 bk:Q1t wr C (.slice o2 nb c2) l
 ow:ownL Q0H 51 wr C (.slice oQ n cQ) hs
 gt:GTabs wr C hs lll
 dr:Dr k w0 wr
theorem PS.draw {k B R C:Nat} {j wr:World} {key:Int} {l:List Bk} {b:List (List (List Int))} {hs:List Hd} {g i:Option Addr} {f c2 n d:Nat} {x:World} (h:PS k B R C j wr key l b hs g f c2 i n d) (q:isCur k x) (a:wr.grownBy x (some k)) (m:B≠k) (p:R≠k) (c:k < C):PS k B R C j x key l b hs g f c2 i n d:=
 ⟨h.len,Q0a a (Array.getElem?_eq_some_iff.1 h.box).1 m h.box,Q0a a (Array.getElem?_eq_some_iff.1 h.res).1 p h.res,Q3C h.bk a c,Q3C (L:=Q0H) h.ow a c,h.gt.draw a c,h.dr.step q a⟩
theorem PS.below {k B R C:Nat} {c wr:World} {key:Int} {l:List Bk} {b:List (List (List Int))} {hs:List Hd} {g i:Option Addr} {f c2 n d:Nat} {x:World} (h:PS k B R C c wr key l b hs g f c2 i n d) (a:Below wr.heap.size wr x) (j:k < c.heap.size):PS k B R C c x key l b hs g f c2 i n d:=
 ⟨h.len,(a.block _ (Array.getElem?_eq_some_iff.1 h.box).1).trans h.box,(a.block _ (Array.getElem?_eq_some_iff.1 h.res).1).trans h.res,Q03 h.bk a,Q03 h.ow a,h.gt.kept a,h.dr.below j (a.mono h.dr.gr.size)⟩
structure PE (k B R C:Nat) (w0 wr:World) (v0 v1 v2:Value) (m:Pm):Prop where
 box:wr.heap[B]? =some (.cells #[v0,v1,v2] 29 (0,0))
 res:wr.heap[R]? =some (.cells #[.int .i64 0,.slice none 0 0,.slice none 0 0] 29 (0,0))
 rc:RcPm C wr.heap.size wr (.agg #[v0,v1,v2]) m
 fit:Q3q m
 dr:Dr k w0 wr
theorem PE.done {k B C:Nat} {a wr:World} {b c d:Value} {m:Pm} (h:PE k B a.heap.size C a wr b c d m) (g:k < a.heap.size) (f:a.heap.size < C):RcPm a.heap.size (setP wr a.heap.size b c d).heap.size (setP wr a.heap.size b c d) (.agg #[b,c,d]) m∧Q3q m∧Dr k a (setP wr a.heap.size b c d):=
 ⟨by rw [Q2T];exact (h.rc.step (Q3f wr a.heap.size b c d) (.inl f)).mono (Nat.le_of_lt f) (Kaq _),h.fit,h.dr.below g (Q0E (Below.refl _ _) (Kaq _) _ _ _)⟩
theorem PS.end0 {k B R C:Nat} {i wr:World} {key:Int} {l:List Bk} {a:List (List (List Int))} {hs:List Hd} {f g:Option Addr} {d c2 n c:Nat} (h:PS k B R C i wr key l a hs f d c2 g n c) (b:Q5C a) (j:l.length≤1000):PE k B R C i wr (.int .i64 key) (.slice f d c2) (.slice g n c) ⟨key,l,a⟩:=⟨h.box,h.res,Q72 h.len h.bk h.ow h.gt,Q4r j b.2.1 b.2.2,h.dr⟩
theorem PS.key {k B R C:Nat} {c wr:World} {key:Int} {l:List Bk} {a:List (List (List Int))} {hs:List Hd} {g i:Option Addr} {f c2 n d:Nat} (h:PS k B R C c wr key l a hs g f c2 i n d) (b:Q5C a) (r:l.length≤1000) (q:k < c.heap.size) (j:c.heap.size≤B) (m:R≠B) (y:Int):PE k B R C c (wr.setCell ⟨B,0,none⟩ (.int .i64 y)) (.int .i64 y) (.slice g f c2) (.slice i n d) ⟨y,l,a⟩:=
 ⟨Q06 h.box 0 _,Q2b h.res m,Q72 h.len (Q0r h.bk h.box Q87 0 _) (Q0r h.ow h.box QaL 0 _) (h.gt.putB h.box 0 _),Q4r r b.2.1 b.2.2,h.dr.below q ((Below.refl _ _).setCell (p:=⟨B,0,none⟩) j _)⟩
theorem PS.backs {k B R C:Nat} {d wr:World} {key:Int} {l:List Bk} {a:List (List (List Int))} {hs:List Hd} {w m:Option Addr} {v c2 n j:Nat} {L:List Bk} {g:Option Addr} {f c i:Nat} (h:PS k B R C d wr key l a hs w v c2 m n j) (b:Q5C a) (x:c≤7) (hm:c=L.length) (t:k < d.heap.size) (q:d.heap.size≤B) (s:R≠B) (r:C≤i) (u:Q1t wr i (.slice g c f) L):PE k B R C d (wr.setCell ⟨B,1,none⟩ (.slice g c f)) (.int .i64 key) (.slice g c f) (.slice m n j) ⟨key,L,a⟩:=
 ⟨Q06 h.box 1 _,Q2b h.res s,Q72 hm (Q04 (Q0r u h.box Q87 1 _) r) (Q0r h.ow h.box QaL 1 _) (h.gt.putB h.box 1 _),Q4r (by omega) b.2.1 b.2.2,h.dr.below t ((Below.refl _ _).setCell (p:=⟨B,1,none⟩) q _)⟩
theorem PS.nil {k B R C:Nat} {a wr:World} {key:Int} {l:List Bk} {b:List (List (List Int))} {hs:List Hd} {d r:Option Addr} {c c2 n f:Nat} (h:PS k B R C a wr key l b hs d c c2 r n f) (q:l.length≤1000) (m:k < a.heap.size) (g:a.heap.size≤B) (j:R≠B):PE k B R C a (wr.setCell ⟨B,2,none⟩ (.slice none 0 0)) (.int .i64 key) (.slice d c c2) (.slice none 0 0) ⟨key,l,[]⟩:=
 ⟨Q06 h.box 2 _,Q2b h.res j,Qec h.len (Q0r h.bk h.box Q87 2 _),Q4r q (by simp) (fun i hi=> absurd hi (Nat.not_lt_zero _)),h.dr.below m ((Below.refl _ _).setCell (p:=⟨B,2,none⟩) g _)⟩
theorem PS.bend {k B R C:Nat} {g wr:World} {key:Int} {l:List Bk} {b:List (List (List Int))} {hs:List Hd} {D E:Option Addr} {A c2 n v:Nat} {a r F i:Nat} {x y:Int} (h:PS k B R C g wr key l b hs D A c2 E n v) (d:Q5C b) (J:l.length≤1000) (I:k < g.heap.size) (P:g.heap.size≤C) (hi:i < b.length) (z:hv hs i=.slice (some ⟨a,0,none⟩) 8 F) (L:Qb2 wr C (.slice (some ⟨r,0,none⟩) 2 2) [x,y]) (q:a≠B) (s:a≠R) (H:C≤a):
  ∃m,PE k B R C g (wr.setCell ⟨a,2,none⟩ (.slice (some ⟨r,0,none⟩) 2 2)) (.int .i64 key) (.slice D A c2) (.slice E n v) m:=by
 obtain ⟨f,s1,s2,s3⟩:=Qf9 h.gt h.ow d hi z L;obtain ⟨O,j,M,G,N,T⟩:=h.gt.2 i hi
 have w:hv hs i=.slice O (b.getD i []).length j:=by unfold hv;rw [G]
 rw [z,(d.2.2 i hi).1] at w;injection w with q1 q2 q3;subst q1 q3;have t:wr.grownBy (wr.setCell ⟨a,2,none⟩ (.slice (some ⟨r,0,none⟩) 2 2)) (some a):=Q0I wr a 2 _;have c:=World.ownsRow.kept h.bk t (Q2w h.bk N Qjs);have u:=h.len;subst u;refine ⟨⟨key,l,f⟩,Q2b h.box (Ne.symm q),Q2b h.res (Ne.symm s),⟨_,_,rfl,InRow.ri (InRow.of c),InRow.cap (InRow.of c),s3,InRow.cap (InRow.of h.ow)⟩,Q4r J s1.2.1 s1.2.2,h.dr.below I ((Below.refl _ _).setCell (p:=⟨a,2,none⟩) (show g.heap.size≤a by omega) _)⟩
theorem Qh3 (w:World) (x y:Int):Qb2 (w.alloc (.cells #[.int .i64 x,.int .i64 y] 3)) w.heap.size (.slice (some ⟨w.heap.size,0,none⟩) 2 2) [x,y]:=⟨by simp [Q2x],.inr ⟨w.heap.size,2,#[.int .i64 x,.int .i64 y],rfl,Kaq _,heap_alloc_new w _,by simp,by decide,by simp [Q2x],by simp [Q2x]⟩⟩
theorem Q7r (k:Nat) (b:List Int) (w:World) (j:isCur k w) (l:k < w.heap.size) (h:0 < b.length) (i:b.length≤1000):
  Calls Tryz.prog 55 #[.pointer (some ⟨k,0,none⟩),.slice (some ⟨w.heap.size,0,none⟩) b.length b.length] (w.alloc (.cells (b.map (Value.int .i64)).toArray 3)).drew fun e d=> ∃x,x∈b∧e=.returned (.int .i64 x)∧isCur k d∧w.grownBy d (some k):=by
 refine (Q0P k w.heap.size b _ ((j.alloc l _).below (Below.drew (Below.refl _ _))) (by simp) (by omega) h i (fun q c=> ?_)).mono ?_
 ·refine Q00 (World.alloc_heap_new w _) q _ ?_
  rw [List.getElem?_toArray,List.getElem?_map,List.getElem?_eq_getElem c,List.getD_eq_getElem?_getD,List.getElem?_eq_getElem c]
  rfl
 ·rintro e d ⟨q,c,rfl,f,a⟩
  have g:(w.alloc (.cells (b.map (Value.int .i64)).toArray 3)).grownBy d (some k):=⟨a.os,a.tape,a.output,a.size,a.block⟩;refine ⟨_, ?_,rfl,f,Q05 (Q0t w _ k) g⟩;rw [List.getD_eq_getElem?_getD,List.getElem?_eq_getElem c];exact List.getElem_mem c
theorem QfU {k B R C:Nat} {q wr:World} {key:Int} {l:List Bk} {a:List (List (List Int))} {hs:List Hd} {p c:Option Addr} {m c2 n b:Nat} {x:World} (h:PS k B R C q wr key l a hs p m c2 c n b) (i:isCur k x) (j:wr.grownBy x (some k)) (d:B≠k) (g:R≠k) (f:k < C):x.cell? ⟨B,2,none⟩=some (.slice c n b):=Q00 (h.draw i j d g f).box 2 _ rfl
theorem QeJ {k B R C:Nat} {u wr:World} {key:Int} {l:List Bk} {a:List (List (List Int))} {hs:List Hd} {t:Option Addr} {s c2 n f:Nat} {x:World} {g i d c:Nat} (h:PS k B R C u wr key l a hs t s c2 (some ⟨g,0,none⟩) n f) (q:isCur k x) (r:wr.grownBy x (some k)) (j:B≠k) (p:R≠k) (m:k < C) (hi:i < a.length) (b:hv hs i=.slice (some ⟨d,0,none⟩) 8 c):x.cell? ⟨g,i,none⟩=some (.slice (some ⟨d,0,none⟩) 8 c):=by
 have h2:=h.draw q r j p m;rw [←b];exact Q2Y h2.ow i (by rw [h2.gt.1];exact hi)
theorem QeN {wr:World} {B g a i n c b:Nat} (f:a≠B) (h:a≠g) (d:∀O,(wr.alloc O).cell? ⟨B,2,none⟩=some (.slice (some ⟨g,0,none⟩) n c)) (h2:∀O,(wr.alloc O).cell? ⟨g,i,none⟩=some (.slice (some ⟨a,0,none⟩) 8 b)) (O:Obj) (v:Value):((wr.alloc O).setCell ⟨a,2,none⟩ v).cell? ⟨B,2,none⟩=some (.slice (some ⟨g,0,none⟩) n c)∧((wr.alloc O).setCell ⟨a,2,none⟩ v).cell? ⟨g,i,none⟩=some (.slice (some ⟨a,0,none⟩) 8 b):=
 ⟨(World.cell?_setCell_far _ _ _ _ f).trans (d O),(World.cell?_setCell_far _ _ _ _ h).trans (h2 O)⟩
theorem QdY {k B R C:Nat} {v wr:World} {key:Int} {l:List Bk} {b:List (List (List Int))} {hs:List Hd} {H:Option Addr} {G c2 n y g i c w:Nat} (h:PS k B R C v wr key l b hs H G c2 (some ⟨g,0,none⟩) n y) (hi:i < b.length) (f:hv hs i=.slice (some ⟨c,0,none⟩) 8 w) (q:Q5C b) (j:l.length≤1000) (L:k < v.heap.size) (M:v.heap.size≤C) (E:c≠B) (F:c≠R) (t:C≤c) (x:Int):
  (∀O,(wr.alloc O).cell? ⟨B,2,none⟩=some (.slice (some ⟨g,0,none⟩) n y))∧(∀O,(wr.alloc O).cell? ⟨g,i,none⟩=some (.slice (some ⟨c,0,none⟩) 8 w))∧(∃u,(wr.alloc (.cells #[.int .i64 x,.int .i64 1] 3)).cell? ⟨c,2,none⟩=some u)∧(∀O,(wr.alloc O).frozen? ⟨c,2,none⟩=false)∧Hid (∃m,PE k B R C v ((wr.alloc (.cells #[.int .i64 x,.int .i64 1] 3)).setCell ⟨c,2,none⟩ (.slice (some ⟨wr.heap.size,0,none⟩) 2 2)) (.int .i64 key) (.slice H G c2) (.slice (some ⟨g,0,none⟩) n y) m):=by
 have s:∀O,PS k B R C v (wr.alloc O) key l b hs H G c2 (some ⟨g,0,none⟩) n y:=fun O=> h.below ((Below.refl _ _).alloc (Kaq _) O) L
 have J:∀O,∃a:List Hd,a.length=8∧(wr.alloc O).ownsRow C 47 Q0H.k (.slice (some ⟨c,0,none⟩) 8 w) 8 (a.flatMap Q0H.cs):=fun O=> by
  obtain ⟨I,p,a,A,d,z⟩:=(s O).gt.2 i hi
  have r:hv hs i=.slice I (b.getD i []).length p:=by unfold hv;rw [A]
  rw [f,(q.2.2 i hi).1] at r;injection r with q1 q2 q3;subst q1 q3;have j:=z.len;rw [(q.2.2 i hi).1] at j d;unfold ownL at d;rw [j] at d;exact ⟨a,j,d⟩
 refine ⟨fun O=> Q00 (s O).box 2 _ rfl,fun O=> by rw [←f];exact Q2Y (s O).ow i (by rw [(s O).gt.1];exact hi), ?_,fun O=> ?_, ?_⟩
 ·obtain ⟨a,j,d⟩:=J (.cells #[.int .i64 x,.int .i64 1] 3)
  have z:ownL Q0H 47 (wr.alloc (.cells #[.int .i64 x,.int .i64 1] 3)) C (.slice (some ⟨c,0,none⟩) 8 w) a:=by unfold ownL;rw [j];exact d
  exact ⟨_,Q2Y z 2 (by omega)⟩
 ·obtain ⟨a,j,d⟩:=J O
  exact World.ownsRow.frozenAt d 2
 ·have D:C≤wr.heap.size:=Kdq t (by obtain ⟨I,p,a,A,d,z⟩:=h.gt.2 i hi;have r:hv hs i=.slice I (b.getD i []).length p:=(by unfold hv;rw [A]);rw [f] at r;injection r with q1 _ _;subst q1;exact Nat.le_of_lt (d.lt c rfl).2)
  exact (s _).bend q j L M hi f (Q04 (Qh3 wr x 1) D) E F t
theorem Qdy (k:Nat) (w:World) (hc:isCur k w) (J:k < w.heap.size):
  Calls Tryz.prog 82 #[.pointer (some ⟨k,0,none⟩)] w fun e w'=> ∃v m,e=.returned v∧RcPm w.heap.size w'.heap.size w' v m∧Q3q m∧Dr k w w':=by
 obtain ⟨W0,ap⟩:∃W,w.alloc (.cells #[.int .i64 0,.slice none 0 0,.slice none 0 0] 29)=W:=⟨_,rfl⟩;have aH:=alb0v0v1 ap;have an:=Q01 (show Dr k w W0 from ⟨hc.below (aH.mono J),by rw [←ap];exact Q0t w _ k⟩);have aF:Hid _:=alx0v0v1 ap;have F:=alz0v0v1 ap;clear aH hc;go_enter Tryz.func82,Tryz.ntmps82;go_wp2_with fail;refine (QdL k W0 an.out.cur (an.out.lt J)).mono ?_;rintro e w1 ⟨key,l,aC,hs,U,c2,oQ,u,rfl,az,ar,aD,aE,aM,ak⟩;obtain ⟨T,aq⟩:∃n,l.length=n:=⟨_,rfl⟩;obtain ⟨n,hn⟩:∃n,aC.length=n:=⟨_,rfl⟩;rw [aq] at aD ⊢;rw [hn] at aE ⊢;have G:=Q01 ar;have aU:=Q01 aq
 have HN:=Q01 hn
 have hL:l.length≤1000:=by omega
 have HL:=Q01 hL
 have aX:1≤n:=by rw [←hn];exact ar.1
 have aY:n≤3:=by rw [←hn];exact ar.2.1
 have aO:W0.heap.size≤w1.heap.size:=ak.gr.size;have ag:Below w1.heap.size w1 (w1.alloc (.cells #[.int .i64 key,.slice U T c2,.slice oQ n u] 29)):=(Below.refl _ _).alloc (Kaq _) _;have ao:=Q01 (show PS k w1.heap.size w.heap.size W0.heap.size w (w1.alloc (.cells #[.int .i64 key,.slice U T c2,.slice oQ n u] 29)) key l aC hs U T c2 oQ n u from ⟨aq.symm,World.alloc_heap_new w1 _,(ag.block _ (by omega)).trans (Q0a ak.gr F (by omega) aF.out),Q03 aD ag,Q03 aE ag,aM.kept ag,(an.out.step ak.cur ak.gr).below J (ag.mono (by omega))⟩)
 clear ag aD aE aM ak aF an aq hn ar hL az;go_wp2_with fail;generalize (w1.alloc (.cells #[.int .i64 key,.slice U T c2,.slice oQ n u] 29))=W2 at *;obtain ⟨B,hB⟩:∃B,w1.heap.size=B:=⟨_,rfl⟩;simp only [hB] at ao aO ⊢
 have z:B≠k:=by omega
 have C:w.heap.size≠k:=by omega
 have aw:w.heap.size≠B:=by omega
 have aB:w.heap.size≤B:=by omega
 have A:k < W0.heap.size:=by omega
 clear hB;refine (Q1w k 8 W2 ao.out.dr.cur (by decide) (by decide)).mono ?_;rintro e w3 ⟨aT,rfl,aI,aK⟩;have ah:=Q01 (ao.out.draw aI aK z C A);clear aI aK ao
 cases aT with
 |false=>
  have d:=Q01 (ah.out.end0 G.out HL.out);have z0:w3.cell? ⟨B,0,none⟩=some (.int .i64 key):=Q00 d.out.box 0 _ rfl;have z1:w3.cell? ⟨B,1,none⟩=some (.slice U T c2):=Q00 d.out.box 1 _ rfl;have z2:w3.cell? ⟨B,2,none⟩=some (.slice oQ n u):=Q00 d.out.box 2 _ rfl;have r0:w3.cell? ⟨w.heap.size,0,none⟩=some (.int .i64 0):=Q00 d.out.res 0 _ rfl;have ad:w3.frozen? ⟨w.heap.size,0,none⟩=false:=Q02 d.out.res 0;have r1:w3.cell? ⟨w.heap.size,1,none⟩=some (.slice none 0 0):=Q00 d.out.res 1 _ rfl;have ae:w3.frozen? ⟨w.heap.size,1,none⟩=false:=Q02 d.out.res 1
  have r2:w3.cell? ⟨w.heap.size,2,none⟩=some (.slice none 0 0):=Q00 d.out.res 2 _ rfl;have af:w3.frozen? ⟨w.heap.size,2,none⟩=false:=Q02 d.out.res 2;have t:=Q01 (d.out.done J F);clear ah d;go_wp2;refine bodyPost_ret (v:=.agg #[.int .i64 key,.slice U T c2,.slice oQ n u]) (by simp [results,Tryz.results82,go_sem,r0,r1,r2]) rfl ⟨_,_,rfl,t.out.1,t.out.2.1,t.out.2.2⟩
 |true=>
  go_wp2_with fail;refine (Q0p k 4 w3 ah.out.dr.cur (by decide) (by decide)).mono ?_;rintro e j ⟨x,rfl,a0,a1,aJ,aL⟩;have b:=Q01 (ah.out.draw aJ aL z C A);clear aJ aL ah
  by_cases e0:x=0
  ·subst e0
   go_wp2_with fail;refine (Q2t k [-1,1000000,3] j b.out.dr.cur (b.out.dr.lt J) (by simp) (by simp)).mono ?_;rintro e a ⟨y,_,rfl,p,q⟩;have s:=Q01 (b.out.draw p q z C A);have d:=Q01 (s.out.key G.out HL.out J aB aw y);have y2:a.cell? ⟨B,0,none⟩=some (.int .i64 key):=Q00 s.out.box 0 _ rfl;have aG:a.frozen? ⟨B,0,none⟩=false:=Q02 s.out.box 0;have q0:(a.setCell ⟨B,0,none⟩ (.int .i64 y)).cell? ⟨B,0,none⟩=some (.int .i64 y):=Q00 d.out.box 0 _ rfl;have q1:(a.setCell ⟨B,0,none⟩ (.int .i64 y)).cell? ⟨B,1,none⟩=some (.slice U T c2):=Q00 d.out.box 1 _ rfl
   have q2:(a.setCell ⟨B,0,none⟩ (.int .i64 y)).cell? ⟨B,2,none⟩=some (.slice oQ n u):=Q00 d.out.box 2 _ rfl;have r0:(a.setCell ⟨B,0,none⟩ (.int .i64 y)).cell? ⟨w.heap.size,0,none⟩=some (.int .i64 0):=Q00 d.out.res 0 _ rfl;have ad:(a.setCell ⟨B,0,none⟩ (.int .i64 y)).frozen? ⟨w.heap.size,0,none⟩=false:=Q02 d.out.res 0;have r1:(a.setCell ⟨B,0,none⟩ (.int .i64 y)).cell? ⟨w.heap.size,1,none⟩=some (.slice none 0 0):=Q00 d.out.res 1 _ rfl;have ae:(a.setCell ⟨B,0,none⟩ (.int .i64 y)).frozen? ⟨w.heap.size,1,none⟩=false:=Q02 d.out.res 1
   have r2:(a.setCell ⟨B,0,none⟩ (.int .i64 y)).cell? ⟨w.heap.size,2,none⟩=some (.slice none 0 0):=Q00 d.out.res 2 _ rfl;have af:(a.setCell ⟨B,0,none⟩ (.int .i64 y)).frozen? ⟨w.heap.size,2,none⟩=false:=Q02 d.out.res 2;have t:=Q01 (d.out.done J F);clear b s d;go_wp2;refine bodyPost_ret (v:=.agg #[.int .i64 y,.slice U T c2,.slice oQ n u]) (by simp [results,Tryz.results82,go_sem,r0,r1,r2]) rfl ⟨_,_,rfl,t.out.1,t.out.2.1,t.out.2.2⟩
  by_cases e1:x=1
  ·subst e1
   go_wp2_with fail;refine (QdA k j b.out.dr.cur (b.out.dr.lt J)).mono ?_;rintro e a ⟨v5,L5,rfl,au,aN,p,q⟩;obtain ⟨o5,c5,e5,_⟩:=ownL.open (L:=Q1d) au;subst e5;obtain ⟨m5,aA⟩:∃m,L5.length=m:=⟨_,rfl⟩;rw [aA] at aN au ⊢;have s:=Q01 (b.out.draw p q z C A);have d:=Q01 (s.out.backs G.out aN aA.symm J aB aw (Kdq aO (Nat.le_of_lt (Array.getElem?_eq_some_iff.1 b.out.box).1)) au);clear au aA;have y2:a.cell? ⟨B,1,none⟩=some (.slice U T c2):=Q00 s.out.box 1 _ rfl;have aG:a.frozen? ⟨B,1,none⟩=false:=Q02 s.out.box 1
   have q0:(a.setCell ⟨B,1,none⟩ (.slice o5 m5 c5)).cell? ⟨B,0,none⟩=some (.int .i64 key):=Q00 d.out.box 0 _ rfl;have q1:(a.setCell ⟨B,1,none⟩ (.slice o5 m5 c5)).cell? ⟨B,1,none⟩=some (.slice o5 m5 c5):=Q00 d.out.box 1 _ rfl;have q2:(a.setCell ⟨B,1,none⟩ (.slice o5 m5 c5)).cell? ⟨B,2,none⟩=some (.slice oQ n u):=Q00 d.out.box 2 _ rfl;have r0:(a.setCell ⟨B,1,none⟩ (.slice o5 m5 c5)).cell? ⟨w.heap.size,0,none⟩=some (.int .i64 0):=Q00 d.out.res 0 _ rfl;have ad:(a.setCell ⟨B,1,none⟩ (.slice o5 m5 c5)).frozen? ⟨w.heap.size,0,none⟩=false:=Q02 d.out.res 0
   have r1:(a.setCell ⟨B,1,none⟩ (.slice o5 m5 c5)).cell? ⟨w.heap.size,1,none⟩=some (.slice none 0 0):=Q00 d.out.res 1 _ rfl;have ae:(a.setCell ⟨B,1,none⟩ (.slice o5 m5 c5)).frozen? ⟨w.heap.size,1,none⟩=false:=Q02 d.out.res 1;have r2:(a.setCell ⟨B,1,none⟩ (.slice o5 m5 c5)).cell? ⟨w.heap.size,2,none⟩=some (.slice none 0 0):=Q00 d.out.res 2 _ rfl;have af:(a.setCell ⟨B,1,none⟩ (.slice o5 m5 c5)).frozen? ⟨w.heap.size,2,none⟩=false:=Q02 d.out.res 2;have t:=Q01 (d.out.done J F);clear b s d;go_wp2
   refine bodyPost_ret (v:=.agg #[.int .i64 key,.slice o5 m5 c5,.slice oQ n u]) (by simp [results,Tryz.results82,go_sem,r0,r1,r2]) rfl ⟨_,_,rfl,t.out.1,t.out.2.1,t.out.2.2⟩
  by_cases e2:x=2
  ·subst e2
   have s:=b;have d:=Q01 (s.out.nil HL.out J aB aw);have y2:j.cell? ⟨B,2,none⟩=some (.slice oQ n u):=Q00 s.out.box 2 _ rfl;have aG:j.frozen? ⟨B,2,none⟩=false:=Q02 s.out.box 2;have q0:(j.setCell ⟨B,2,none⟩ (.slice none 0 0)).cell? ⟨B,0,none⟩=some (.int .i64 key):=Q00 d.out.box 0 _ rfl;have q1:(j.setCell ⟨B,2,none⟩ (.slice none 0 0)).cell? ⟨B,1,none⟩=some (.slice U T c2):=Q00 d.out.box 1 _ rfl;have q2:(j.setCell ⟨B,2,none⟩ (.slice none 0 0)).cell? ⟨B,2,none⟩=some (.slice none 0 0):=Q00 d.out.box 2 _ rfl
   have r0:(j.setCell ⟨B,2,none⟩ (.slice none 0 0)).cell? ⟨w.heap.size,0,none⟩=some (.int .i64 0):=Q00 d.out.res 0 _ rfl;have ad:(j.setCell ⟨B,2,none⟩ (.slice none 0 0)).frozen? ⟨w.heap.size,0,none⟩=false:=Q02 d.out.res 0;have r1:(j.setCell ⟨B,2,none⟩ (.slice none 0 0)).cell? ⟨w.heap.size,1,none⟩=some (.slice none 0 0):=Q00 d.out.res 1 _ rfl;have ae:(j.setCell ⟨B,2,none⟩ (.slice none 0 0)).frozen? ⟨w.heap.size,1,none⟩=false:=Q02 d.out.res 1;have r2:(j.setCell ⟨B,2,none⟩ (.slice none 0 0)).cell? ⟨w.heap.size,2,none⟩=some (.slice none 0 0):=Q00 d.out.res 2 _ rfl
   have af:(j.setCell ⟨B,2,none⟩ (.slice none 0 0)).frozen? ⟨w.heap.size,2,none⟩=false:=Q02 d.out.res 2;have t:=Q01 (d.out.done J F);clear b s d;go_wp2;refine bodyPost_ret (v:=.agg #[.int .i64 key,.slice U T c2,.slice none 0 0]) (by simp [results,Tryz.results82,go_sem,r0,r1,r2]) rfl ⟨_,_,rfl,t.out.1,t.out.2.1,t.out.2.2⟩
  ·have ab:Hid (isCur k j):=b.out.dr.cur
   have ac:Hid (k < j.heap.size):=b.out.dr.lt J;obtain ⟨g,cg,aS⟩:=Q2W b.out.ow (by rw [b.out.gt.1,HN.out];omega);injection aS with ho1 hA1 hA2;clear hA1 hA2;subst ho1;obtain ⟨i,hi⟩:∃i,n=i+1:=⟨n - 1,by omega⟩
   have I:i < aC.length:=by rw [HN.out];omega
   obtain ⟨o3,c3,aZ,e3,k1,k2⟩:=b.out.gt.2 i I;rw [(G.out.2.2 i I).1] at e3 k1 k2;obtain ⟨f,aV,aR⟩:=Q2W k1 (by rw [k2.len];decide);injection aR with ho3 hA1 hA2;clear hA1 hA2;subst ho3;have ay:W0.heap.size≤g∧g < j.heap.size:=b.out.ow.lt g rfl;have am:W0.heap.size≤f∧f < j.heap.size:=k1.lt f rfl
   have H:f≠B:=by
    rcases Q1X k1 b.out.box QiX with h|h
    ·cases h
    ·exact fun e=> h (by rw [e];rfl)
   have aW:g≠B:=by
    rcases Q1X b.out.ow b.out.box QaL with h|h
    ·cases h
    ·exact fun e=> h (by rw [e];rfl)
   have aa:hv hs i=.slice (some ⟨f,0,none⟩) 8 c3:=by unfold hv;rw [e3]
   have z2:j.cell? ⟨B,2,none⟩=some (.slice (some ⟨g,0,none⟩) n u):=Q00 b.out.box 2 _ rfl
   have zc:j.cell? ⟨g,i,none⟩=some (.slice (some ⟨f,0,none⟩) 8 c3):=by rw [←aa];exact Q2Y b.out.ow i (by rw [b.out.gt.1];exact I)
   have aQ:f≠g:=by
    rcases Q2w k1 b.out.ow Qj5 with h|h
    ·cases h
    ·exact fun e=> h (by rw [e];rfl)
   clear k1 k2 e3;have av:B < j.heap.size:=(Array.getElem?_eq_some_iff.1 b.out.box).1
   have al:f≠w.heap.size:=by omega
   have ax:f≠g:=aQ
   obtain ⟨rfl,rfl⟩|⟨rfl,rfl⟩|⟨rfl,rfl⟩:(i=0∧n=1)∨(i=1∧n=2)∨(i=2∧n=3):=by omega
   ·have M:Hid (Calls Tryz.prog 55 #[.pointer (some ⟨k,0,none⟩),.slice (some ⟨j.heap.size,0,none⟩) 3 3] (j.alloc (.cells #[.int .i64 (-1),.int .i64 0,.int .i64 6] 3)).drew fun e w'=> ∃x,x∈([-1,0,6]:List Int)∧e=.returned (.int .i64 x)∧isCur k w'∧j.grownBy w' (some k)):=Q7r k [-1,0,6] j ab.out ac.out (by decide) (by decide)
    have X:j.drew.cell? ⟨B,2,none⟩=some (.slice (some ⟨g,0,none⟩) 1 u):=z2;have Z:j.drew.cell? ⟨g,0,none⟩=some (.slice (some ⟨f,0,none⟩) 8 c3):=zc
    have V:∀O,(j.alloc O).cell? ⟨B,2,none⟩=some (.slice (some ⟨g,0,none⟩) 1 u):=fun O=> bC ((Below.refl _ _).alloc (Kaq _) O) z2 av
    have Y:∀O,(j.alloc O).cell? ⟨g,0,none⟩=some (.slice (some ⟨f,0,none⟩) 8 c3):=fun O=> bC ((Below.refl _ _).alloc (Kaq _) O) zc ay.2
    have aP:IntKind.i64.wrap 0=0:=by first|rfl|decide
    go_wp2
    go_region_held3 (fun w'=> w'.cell? ⟨B,2,none⟩=some (.slice (some ⟨g,0,none⟩) 1 u)∧w'.cell? ⟨g,0,none⟩=some (.slice (some ⟨f,0,none⟩) 8 c3)) (first|with_reducible exact ⟨z2,zc⟩|with_reducible exact ⟨X,Z⟩|with_reducible exact ⟨V _,Y _⟩|with_reducible exact ⟨y2,yc⟩|with_reducible exact ⟨D _,E _⟩|with_reducible exact P _ _|go_keep) (first|(go_at_call 55;refine (M.out).mono ?_;rintro e a ⟨r,R,rfl,p,q⟩;clear R;have J5:=b.out.draw p q z C A;have y2:=QfU b.out p q z C A;have yc:=QeJ b.out p q z C A I aa;obtain ⟨D,E,⟨u3,aj⟩,ai,N⟩:=QdY J5 I aa G.out HL.out J (Nat.le_of_lt F) H al am.1 r;have P:=QeN H ax D E;clear p q))
    obtain ⟨m9,c⟩:=N.out;have q0:((a.alloc (.cells #[.int .i64 r,.int .i64 1] 3)).setCell ⟨f,2,none⟩ (.slice (some ⟨a.heap.size,0,none⟩) 2 2)).cell? ⟨B,0,none⟩=some (.int .i64 key):=Q00 c.box 0 _ rfl;have q1:((a.alloc (.cells #[.int .i64 r,.int .i64 1] 3)).setCell ⟨f,2,none⟩ (.slice (some ⟨a.heap.size,0,none⟩) 2 2)).cell? ⟨B,1,none⟩=some (.slice U T c2):=Q00 c.box 1 _ rfl;have q2:((a.alloc (.cells #[.int .i64 r,.int .i64 1] 3)).setCell ⟨f,2,none⟩ (.slice (some ⟨a.heap.size,0,none⟩) 2 2)).cell? ⟨B,2,none⟩=some (.slice (some ⟨g,0,none⟩) 1 u):=Q00 c.box 2 _ rfl
    have r0:((a.alloc (.cells #[.int .i64 r,.int .i64 1] 3)).setCell ⟨f,2,none⟩ (.slice (some ⟨a.heap.size,0,none⟩) 2 2)).cell? ⟨w.heap.size,0,none⟩=some (.int .i64 0):=Q00 c.res 0 _ rfl;have ad:((a.alloc (.cells #[.int .i64 r,.int .i64 1] 3)).setCell ⟨f,2,none⟩ (.slice (some ⟨a.heap.size,0,none⟩) 2 2)).frozen? ⟨w.heap.size,0,none⟩=false:=Q02 c.res 0;have r1:((a.alloc (.cells #[.int .i64 r,.int .i64 1] 3)).setCell ⟨f,2,none⟩ (.slice (some ⟨a.heap.size,0,none⟩) 2 2)).cell? ⟨w.heap.size,1,none⟩=some (.slice none 0 0):=Q00 c.res 1 _ rfl
    have ae:((a.alloc (.cells #[.int .i64 r,.int .i64 1] 3)).setCell ⟨f,2,none⟩ (.slice (some ⟨a.heap.size,0,none⟩) 2 2)).frozen? ⟨w.heap.size,1,none⟩=false:=Q02 c.res 1;have r2:((a.alloc (.cells #[.int .i64 r,.int .i64 1] 3)).setCell ⟨f,2,none⟩ (.slice (some ⟨a.heap.size,0,none⟩) 2 2)).cell? ⟨w.heap.size,2,none⟩=some (.slice none 0 0):=Q00 c.res 2 _ rfl;have af:((a.alloc (.cells #[.int .i64 r,.int .i64 1] 3)).setCell ⟨f,2,none⟩ (.slice (some ⟨a.heap.size,0,none⟩) 2 2)).frozen? ⟨w.heap.size,2,none⟩=false:=Q02 c.res 2;have t:=Q01 (c.done J F)
    clear b c N D E aj ai P J5 y2 yc z2 zc V Y X Z M G HN ab ac;go_wp2;refine bodyPost_ret (v:=.agg #[.int .i64 key,.slice U T c2,.slice (some ⟨g,0,none⟩) 1 u]) (by simp [results,Tryz.results82,go_sem,r0,r1,r2]) rfl ⟨_,_,rfl,t.out.1,t.out.2.1,t.out.2.2⟩
   ·have M:Hid (Calls Tryz.prog 55 #[.pointer (some ⟨k,0,none⟩),.slice (some ⟨j.heap.size,0,none⟩) 3 3] (j.alloc (.cells #[.int .i64 (-1),.int .i64 0,.int .i64 6] 3)).drew fun e w'=> ∃x,x∈([-1,0,6]:List Int)∧e=.returned (.int .i64 x)∧isCur k w'∧j.grownBy w' (some k)):=Q7r k [-1,0,6] j ab.out ac.out (by decide) (by decide)
    have X:j.drew.cell? ⟨B,2,none⟩=some (.slice (some ⟨g,0,none⟩) 2 u):=z2;have Z:j.drew.cell? ⟨g,1,none⟩=some (.slice (some ⟨f,0,none⟩) 8 c3):=zc
    have V:∀O,(j.alloc O).cell? ⟨B,2,none⟩=some (.slice (some ⟨g,0,none⟩) 2 u):=fun O=> bC ((Below.refl _ _).alloc (Kaq _) O) z2 av
    have Y:∀O,(j.alloc O).cell? ⟨g,1,none⟩=some (.slice (some ⟨f,0,none⟩) 8 c3):=fun O=> bC ((Below.refl _ _).alloc (Kaq _) O) zc ay.2
    have aP:IntKind.i64.wrap 1=1:=by first|rfl|decide
    go_wp2
    go_region_held3 (fun w'=> w'.cell? ⟨B,2,none⟩=some (.slice (some ⟨g,0,none⟩) 2 u)∧w'.cell? ⟨g,1,none⟩=some (.slice (some ⟨f,0,none⟩) 8 c3)) (first|with_reducible exact ⟨z2,zc⟩|with_reducible exact ⟨X,Z⟩|with_reducible exact ⟨V _,Y _⟩|with_reducible exact ⟨y2,yc⟩|with_reducible exact ⟨D _,E _⟩|with_reducible exact P _ _|go_keep) (first|(go_at_call 55;refine (M.out).mono ?_;rintro e a ⟨r,R,rfl,p,q⟩;clear R;have J5:=b.out.draw p q z C A;have y2:=QfU b.out p q z C A;have yc:=QeJ b.out p q z C A I aa;obtain ⟨D,E,⟨u3,aj⟩,ai,N⟩:=QdY J5 I aa G.out HL.out J (Nat.le_of_lt F) H al am.1 r;have P:=QeN H ax D E;clear p q))
    obtain ⟨m9,c⟩:=N.out;have q0:((a.alloc (.cells #[.int .i64 r,.int .i64 1] 3)).setCell ⟨f,2,none⟩ (.slice (some ⟨a.heap.size,0,none⟩) 2 2)).cell? ⟨B,0,none⟩=some (.int .i64 key):=Q00 c.box 0 _ rfl;have q1:((a.alloc (.cells #[.int .i64 r,.int .i64 1] 3)).setCell ⟨f,2,none⟩ (.slice (some ⟨a.heap.size,0,none⟩) 2 2)).cell? ⟨B,1,none⟩=some (.slice U T c2):=Q00 c.box 1 _ rfl;have q2:((a.alloc (.cells #[.int .i64 r,.int .i64 1] 3)).setCell ⟨f,2,none⟩ (.slice (some ⟨a.heap.size,0,none⟩) 2 2)).cell? ⟨B,2,none⟩=some (.slice (some ⟨g,0,none⟩) 2 u):=Q00 c.box 2 _ rfl
    have r0:((a.alloc (.cells #[.int .i64 r,.int .i64 1] 3)).setCell ⟨f,2,none⟩ (.slice (some ⟨a.heap.size,0,none⟩) 2 2)).cell? ⟨w.heap.size,0,none⟩=some (.int .i64 0):=Q00 c.res 0 _ rfl;have ad:((a.alloc (.cells #[.int .i64 r,.int .i64 1] 3)).setCell ⟨f,2,none⟩ (.slice (some ⟨a.heap.size,0,none⟩) 2 2)).frozen? ⟨w.heap.size,0,none⟩=false:=Q02 c.res 0;have r1:((a.alloc (.cells #[.int .i64 r,.int .i64 1] 3)).setCell ⟨f,2,none⟩ (.slice (some ⟨a.heap.size,0,none⟩) 2 2)).cell? ⟨w.heap.size,1,none⟩=some (.slice none 0 0):=Q00 c.res 1 _ rfl
    have ae:((a.alloc (.cells #[.int .i64 r,.int .i64 1] 3)).setCell ⟨f,2,none⟩ (.slice (some ⟨a.heap.size,0,none⟩) 2 2)).frozen? ⟨w.heap.size,1,none⟩=false:=Q02 c.res 1;have r2:((a.alloc (.cells #[.int .i64 r,.int .i64 1] 3)).setCell ⟨f,2,none⟩ (.slice (some ⟨a.heap.size,0,none⟩) 2 2)).cell? ⟨w.heap.size,2,none⟩=some (.slice none 0 0):=Q00 c.res 2 _ rfl;have af:((a.alloc (.cells #[.int .i64 r,.int .i64 1] 3)).setCell ⟨f,2,none⟩ (.slice (some ⟨a.heap.size,0,none⟩) 2 2)).frozen? ⟨w.heap.size,2,none⟩=false:=Q02 c.res 2;have t:=Q01 (c.done J F)
    clear b c N D E aj ai P J5 y2 yc z2 zc V Y X Z M G HN ab ac;go_wp2;refine bodyPost_ret (v:=.agg #[.int .i64 key,.slice U T c2,.slice (some ⟨g,0,none⟩) 2 u]) (by simp [results,Tryz.results82,go_sem,r0,r1,r2]) rfl ⟨_,_,rfl,t.out.1,t.out.2.1,t.out.2.2⟩
   ·have M:Hid (Calls Tryz.prog 55 #[.pointer (some ⟨k,0,none⟩),.slice (some ⟨j.heap.size,0,none⟩) 3 3] (j.alloc (.cells #[.int .i64 (-1),.int .i64 0,.int .i64 6] 3)).drew fun e w'=> ∃x,x∈([-1,0,6]:List Int)∧e=.returned (.int .i64 x)∧isCur k w'∧j.grownBy w' (some k)):=Q7r k [-1,0,6] j ab.out ac.out (by decide) (by decide)
    have X:j.drew.cell? ⟨B,2,none⟩=some (.slice (some ⟨g,0,none⟩) 3 u):=z2;have Z:j.drew.cell? ⟨g,2,none⟩=some (.slice (some ⟨f,0,none⟩) 8 c3):=zc
    have V:∀O,(j.alloc O).cell? ⟨B,2,none⟩=some (.slice (some ⟨g,0,none⟩) 3 u):=fun O=> bC ((Below.refl _ _).alloc (Kaq _) O) z2 av
    have Y:∀O,(j.alloc O).cell? ⟨g,2,none⟩=some (.slice (some ⟨f,0,none⟩) 8 c3):=fun O=> bC ((Below.refl _ _).alloc (Kaq _) O) zc ay.2
    have aP:IntKind.i64.wrap 2=2:=by first|rfl|decide
    go_wp2
    go_region_held3 (fun w'=> w'.cell? ⟨B,2,none⟩=some (.slice (some ⟨g,0,none⟩) 3 u)∧w'.cell? ⟨g,2,none⟩=some (.slice (some ⟨f,0,none⟩) 8 c3)) (first|with_reducible exact ⟨z2,zc⟩|with_reducible exact ⟨X,Z⟩|with_reducible exact ⟨V _,Y _⟩|with_reducible exact ⟨y2,yc⟩|with_reducible exact ⟨D _,E _⟩|with_reducible exact P _ _|go_keep) (first|(go_at_call 55;refine (M.out).mono ?_;rintro e a ⟨r,R,rfl,p,q⟩;clear R;have J5:=b.out.draw p q z C A;have y2:=QfU b.out p q z C A;have yc:=QeJ b.out p q z C A I aa;obtain ⟨D,E,⟨u3,aj⟩,ai,N⟩:=QdY J5 I aa G.out HL.out J (Nat.le_of_lt F) H al am.1 r;have P:=QeN H ax D E;clear p q))
    obtain ⟨m9,c⟩:=N.out;have q0:((a.alloc (.cells #[.int .i64 r,.int .i64 1] 3)).setCell ⟨f,2,none⟩ (.slice (some ⟨a.heap.size,0,none⟩) 2 2)).cell? ⟨B,0,none⟩=some (.int .i64 key):=Q00 c.box 0 _ rfl;have q1:((a.alloc (.cells #[.int .i64 r,.int .i64 1] 3)).setCell ⟨f,2,none⟩ (.slice (some ⟨a.heap.size,0,none⟩) 2 2)).cell? ⟨B,1,none⟩=some (.slice U T c2):=Q00 c.box 1 _ rfl;have q2:((a.alloc (.cells #[.int .i64 r,.int .i64 1] 3)).setCell ⟨f,2,none⟩ (.slice (some ⟨a.heap.size,0,none⟩) 2 2)).cell? ⟨B,2,none⟩=some (.slice (some ⟨g,0,none⟩) 3 u):=Q00 c.box 2 _ rfl
    have r0:((a.alloc (.cells #[.int .i64 r,.int .i64 1] 3)).setCell ⟨f,2,none⟩ (.slice (some ⟨a.heap.size,0,none⟩) 2 2)).cell? ⟨w.heap.size,0,none⟩=some (.int .i64 0):=Q00 c.res 0 _ rfl;have ad:((a.alloc (.cells #[.int .i64 r,.int .i64 1] 3)).setCell ⟨f,2,none⟩ (.slice (some ⟨a.heap.size,0,none⟩) 2 2)).frozen? ⟨w.heap.size,0,none⟩=false:=Q02 c.res 0;have r1:((a.alloc (.cells #[.int .i64 r,.int .i64 1] 3)).setCell ⟨f,2,none⟩ (.slice (some ⟨a.heap.size,0,none⟩) 2 2)).cell? ⟨w.heap.size,1,none⟩=some (.slice none 0 0):=Q00 c.res 1 _ rfl
    have ae:((a.alloc (.cells #[.int .i64 r,.int .i64 1] 3)).setCell ⟨f,2,none⟩ (.slice (some ⟨a.heap.size,0,none⟩) 2 2)).frozen? ⟨w.heap.size,1,none⟩=false:=Q02 c.res 1;have r2:((a.alloc (.cells #[.int .i64 r,.int .i64 1] 3)).setCell ⟨f,2,none⟩ (.slice (some ⟨a.heap.size,0,none⟩) 2 2)).cell? ⟨w.heap.size,2,none⟩=some (.slice none 0 0):=Q00 c.res 2 _ rfl;have af:((a.alloc (.cells #[.int .i64 r,.int .i64 1] 3)).setCell ⟨f,2,none⟩ (.slice (some ⟨a.heap.size,0,none⟩) 2 2)).frozen? ⟨w.heap.size,2,none⟩=false:=Q02 c.res 2;have t:=Q01 (c.done J F)
    clear b c N D E aj ai P J5 y2 yc z2 zc V Y X Z M G HN ab ac;go_wp2;refine bodyPost_ret (v:=.agg #[.int .i64 key,.slice U T c2,.slice (some ⟨g,0,none⟩) 3 u]) (by simp [results,Tryz.results82,go_sem,r0,r1,r2]) rfl ⟨_,_,rfl,t.out.1,t.out.2.1,t.out.2.2⟩
theorem QbA {ll:List (List Int)} (h:ll.length=8):Q1k ll ll=0:=by
 unfold Q1k;rw [if_pos ⟨h,h⟩];exact Q3w 8 (fun i _=> rfl)
theorem RiK.cell {C:Nat} {w:World} {o:Option Addr} {n c:Nat} {l:List Bk} (h:RiV Q1d 0 C w (.slice o n c) l) (j:Nat) (a:j < l.length):∃g off,o=some ⟨g,off,none⟩∧g < C∧w.cell? ⟨g,off+j * 3,none⟩=some (.int .i64 (l.getD j (0,0,false)).1)∧w.cell? ⟨g,off+j * 3+1,none⟩=some (.int .i64 (l.getD j (0,0,false)).2.1)∧w.cell? ⟨g,off+j * 3+2,none⟩=some (.bool (l.getD j (0,0,false)).2.2):=by
 obtain ⟨k,i,e,r⟩:=RiV.open h;injection e with e1 _ _;subst e1
 rcases r with r|⟨b,off,f,d,r⟩
 ·subst r;exact absurd a (Nat.not_lt_zero _)
 ·exact ⟨b,off,f,d,r j a 0 (by decide),r j a 1 (by decide),r j a 2 (by decide)⟩
theorem QbX (v1 v2:Value) (m:Pm) (w:World) (h1:Q86 w.heap.size w v1 m) (h2:Q86 w.heap.size w v2 m) (hf:Q3q m) (F:∀i,i < m.ring.length→(m.ring.getD i []).length=8):
  Calls Tryz.prog 25 #[v1,v2] w fun e w'=> e=.returned (.bool true)∧Below w.heap.size w w':=by
 obtain ⟨ao,aq,rfl,q,r1⟩:=h1;obtain ⟨ap,ar,rfl,r,r2⟩:=h2;obtain ⟨o1,c1,rfl,_⟩:=q.open;obtain ⟨o2,c2,rfl,_⟩:=r.open;obtain ⟨ak,af,rfl⟩:=RiR.len r1;obtain ⟨al,ag,rfl⟩:=RiR.len r2;obtain ⟨ah,ai,aj,h,j⟩:=hf;have O:=Q01 q;have P:=Q01 r;have V:=Q01 r1;have X:=Q01 r2;have H8:=Q01 F;have R:=Q01 h;have T:=Q01 j;obtain ⟨key,C⟩:∃x,m.key=x:=⟨_,rfl⟩;obtain ⟨I,z⟩:∃x,m.l.length=x:=⟨_,rfl⟩;obtain ⟨n,hn⟩:∃x,m.ring.length=x:=⟨_,rfl⟩;have U:=Q01 z;have HN:=Q01 hn;rw [C,z,hn];rw [z] at O P ah;rw [hn] at V X H8 R T ai
 clear C z hn q r r1 r2 F aj h j;obtain ⟨W0,u⟩:∃W,((w.alloc (.cells #[.int .i64 key,.slice o1 I c1,.slice ak n af] 29)).alloc (.cells #[.int .i64 key,.slice o2 I c2,.slice al n ag] 29))=W:=⟨_,rfl⟩;have y:=alb0v0v2 u;have HB:=Q01 y;clear y;have zz:=alz0v0v2 u;obtain ⟨z0,z1,z2⟩:=alc3v0v2 u;have zu:=alz0v1v2 u;obtain ⟨u0,u1,u2⟩:=alc3v1v2 u;go_enter Tryz.func25,Tryz.ntmps25;go_wp2
 go_loopw [4,5] (fun rv iv wr=> ∃i:Nat,i≤I∧iv=.int .i64 (i:Int)∧rv=.bool false∧Hid (Below W0.heap.size W0 wr))
  (fun _ iv _=> I - (intOf iv).toNat)
 case atStart=> exact ⟨0,Kcq _,rfl,rfl,Below.refl _ _⟩
 case round=>
  rename World=> wr
  obtain ⟨i,am,rfl,rfl,f⟩:=hrel;have ae:=bC f.out z1 zz;have L:=bC f.out z2 zz;have ad:=bC f.out u1 zu;have J:=bC f.out u2 zu;have B:=Kbq zz f.out.size;have A:=Kbq zu f.out.size;have c:=Q01 (HB.out.trans (f.out.mono HB.out.size))
  by_cases hlt:i < I
  ·have Z:(i:Int) < (I:Int):=by omega
   obtain ⟨g1,f1,rfl,s,a0,M,N⟩:=RiK.cell O.out i (by rw [U.out];exact hlt);obtain ⟨g2,f2,rfl,t,b0,b1,b2⟩:=RiK.cell P.out i (by rw [U.out];exact hlt);have G0:=Grown.cell ae B;have G1:=Grown.cell ad A;have Ga0:=Grown.cell (bC c.out a0 s) (Kbq s c.out.size);have Ga1:=Grown.cell (bC c.out M s) (Kbq s c.out.size);have Ga2:=Grown.cell (bC c.out N s) (Kbq s c.out.size);have Gb0:=Grown.cell (bC c.out b0 t) (Kbq t c.out.size);have Gb1:=Grown.cell (bC c.out b1 t) (Kbq t c.out.size)
   have Gb2:=Grown.cell (bC c.out b2 t) (Kbq t c.out.size);clear a0 M N b0 b1 b2;generalize m.l.getD i (0,0,false)=d at *;obtain ⟨d0,d1,d2⟩:=d;dsimp only at Ga0 Ga1 Ga2 Gb0 Gb1 Gb2;go_wp2
   (refine Q0b (by kernel_rfl) (by kernel_rfl) ?_;intro aa;(repeat (go_big_quiet_step (fail)));(with_reducible refine wpQuiet_nil ?_);intro _ H;obtain ⟨pq,G⟩:=H;subst G)
   have D:=Q01 (f.out.trans (pq.b.mono f.out.size));go_wp2;go_roundw
   case rel=> exact ⟨i+1,by omega,by go_num,rfl,D.out⟩
   case measure=> simp [intOf];omega
  ·have e:i=I:=by omega
   subst e;go_wp2
   go_loopw [4,6] (fun rv iv wq=> ∃k:Nat,k≤n∧iv=.int .i64 (k:Int)∧rv=.bool false∧Hid (Below W0.heap.size W0 wq))
    (fun _ iv _=> n - (intOf iv).toNat)
   case atStart=> exact ⟨0,Kcq _,rfl,rfl,f.out⟩
   case round=>
   rename World=> wq
   obtain ⟨k,an,rfl,rfl,g⟩:=hrel;clear ae L ad J B A;have L:=bC g.out z2 zz;have J:=bC g.out u2 zu;have B:=Kbq zz g.out.size;have A:=Kbq zu g.out.size;have a:=Q01 (HB.out.trans (g.out.mono HB.out.size))
   by_cases hlt:k < n
   ·have Z:(k:Int) < (n:Int):=by omega
    obtain ⟨b1,f1,w1,rfl,q,M,t1⟩:=RiRows.at V.out (Kaq _) k (by rw [HN.out];exact hlt);obtain ⟨b2,f2,w2,rfl,r,N,t2⟩:=RiRows.at X.out (Kaq _) k (by rw [HN.out];exact hlt);have F:=H8.out k hlt;have h:=R.out k hlt;have j:=T.out k hlt;obtain ⟨ll,Y⟩:∃x,m.ring.getD k []=x:=⟨_,rfl⟩;rw [Y] at t1 t2 F h j;obtain ⟨o3,c3,rfl,ab⟩:=RiT.rd t1;obtain ⟨o4,c4,rfl,ac⟩:=RiT.rd t2
    have E:=Q01 (fun p:Grown wq=> Q8Y o3 o4 c3 c4 ll ll p.v ((ab.kept (a.out.trans (p.b.mono a.out.size)) (Kaq _)).le (a.out.trans (p.b.mono a.out.size)).size) ((ac.kept (a.out.trans (p.b.mono a.out.size)) (Kaq _)).le (a.out.trans (p.b.mono a.out.size)).size) h h j j);rw [QbA F] at E;rw [F] at E M N;have G0:=Grown.cell L B;have G1:=Grown.cell J A;have G2:=Grown.cell (bC a.out M q) (Kbq q a.out.size);have G3:=Grown.cell (bC a.out N r) (Kbq r a.out.size);clear M N t1 t2 ab ac Y F h j;go_wp2
    (refine Q0b (by kernel_rfl) (by kernel_rfl) ?_;intro aa;(repeat (go_big_quiet_step ((go_at_call 65;exact Q15 _ (E.out _)))));(with_reducible refine wpQuiet_nil ?_);intro _ H;obtain ⟨pq,G⟩:=H;subst G)
    have D:=Q01 (g.out.trans (pq.b.mono g.out.size));go_wp2;go_roundw
    case rel=> exact ⟨k+1,by omega,by go_num,rfl,D.out⟩
    case measure=> simp [intOf];omega
   ·have e:k=n:=by omega
    subst e;go_wp2;go_ret;exact ⟨rfl,a.out⟩
end Go.Proofs.YtpneolgdghbinaaGreat
