/- Bent pools. -/
import Derived.Test.YtpneolgdghbinaaGreatQSends33
import Derived.Test.YtpneolgdghbinaaGreatQSends41
namespace Go.Proofs.YtpneolgdghbinaaGreat
open Go.ChangeShapes Go.WideShapes Go.ChangeAt Go.RowKit Go.Joins
set_option linter.unusedVariables false
set_option linter.unusedSimpArgs false
set_option maxRecDepth 100000
set_option maxHeartbeats 40000000
theorem Q3Q {key:Int} {l:List Bk} {lll:List (List (List Int))} (hl:l.length≤1000) (h3:lll.length≤3) (h:∀i,i < lll.length→(lll.getD i []).length=8∧∀j,((lll.getD i []).getD j []).length≤2):Q36 ⟨key,l,lll⟩:=by
 refine ⟨by dsimp only;omega,by dsimp only;omega, ?_,fun i hi=> by dsimp only at *;rw [(h i hi).1];decide,fun i hi j hj=> by have:=(h i hi).2 j;dsimp only;omega⟩
 dsimp only
 have hz2:∀i,QaO lll i≤16:=fun i=> by
  by_cases h':i < lll.length
  ·have hb:=Q4C (Qhe (lll.getD i [])) 2 (fun j=> (h i h').2 j) (lll.getD i []).length
   have h8:=(h i h').1
   show QcC (Qhe (lll.getD i [])) (lll.getD i []).length≤16
   rw [h8] at hb ⊢
   omega
  ·unfold QaO;rw [List.getD_eq_getElem?_getD,List.getElem?_eq_none (by omega)];exact Kcq _
 have hb:=Q4C (QaO lll) 16 hz2 lll.length
 show QcC (QaO lll) lll.length≤1048576
 omega
theorem QaH {n:Nat} {α:Type} {d:α} {Q:Nat→α→Prop} (h:∀i,i < n→∃x,Q i x):∃xs:List α,xs.length=n∧∀i,i < n→Q i (xs.getD i d):=by
 induction n with
 |zero=> exact ⟨[],rfl,fun i hi=> absurd hi (Nat.not_lt_zero _)⟩
 |succ n ih=>
  obtain ⟨xs,hl,hx⟩:=ih (fun i hi=> h i (by omega))
  obtain ⟨y,hy⟩:=h n (by omega)
  refine ⟨xs++[y],by simp [hl],fun i hi=> ?_⟩
  by_cases hi':i < n
  ·rw [List.getD_eq_getElem?_getD,List.getElem?_append_left (by omega),←List.getD_eq_getElem?_getD];exact hx i hi'
  ·have e:i=n:=by omega
   subst e
   have:(xs++[y]).getD i d=y:=by rw [←hl];simp
   rw [this];exact hy
theorem QcK {hs:List Hd} {j q:Nat} {x:Hd} (h:q≠j):hv (hs.set j x) q=hv hs q:=by
 unfold hv;rw [List.getD_eq_getElem?_getD,List.getElem?_set_ne (Ne.symm h),←List.getD_eq_getElem?_getD]
theorem QdL {hs:List Hd} {j:Nat} {x:Hd} (h:j < hs.length):hv (hs.set j x) j=.slice x.1 x.2.1 x.2.2:=by
 unfold hv;rw [List.getD_eq_getElem?_getD,List.getElem?_set_self h];rfl
theorem Qdb (hs:List Hd) (j:Nat) (x:Hd):(hs.set j x).flatMap Q0C.cs=(hs.flatMap Q0C.cs).set j (.slice x.1 x.2.1 x.2.2):=by
 have e:∀l:List Hd,l.flatMap Q0C.cs=l.map (fun x=> Value.slice x.1 x.2.1 x.2.2):=fun l=> by
  induction l with
  |nil=> rfl
  |cons a l ih=> rw [List.flatMap_cons,ih];rfl
 rw [e,e,List.map_set]
theorem Qii:(51:TypeId)≠47:=by decide
theorem Qif:(119:TypeId)≠47:=by decide
theorem QcI {w1:World} {base g3 r n c3 i:Nat} {cQ:Nat} {oQ:Option Addr} {hs:List Hd} {lll:List (List (List Int))} {x y:Int} (h:GTabs w1 base hs lll) (ho:ownL Q0C 51 w1 base (.slice oQ n cQ) hs) (hsm:Q4T lll) (hi:i < lll.length) (he:hv hs i=.slice (some ⟨g3,0,none⟩) 8 c3) (hr:Q9u w1 base (.slice (some ⟨r,0,none⟩) 2 2) [x,y]):
  ∃lll',Q4T lll'∧lll'.length=lll.length∧RcR base (w1.setCell ⟨g3,2,none⟩ (.slice (some ⟨r,0,none⟩) 2 2)).heap.size (w1.setCell ⟨g3,2,none⟩ (.slice (some ⟨r,0,none⟩) 2 2)) (.slice oQ n cQ) lll':=by
 obtain ⟨W,hW⟩:∃W,w1.setCell ⟨g3,2,none⟩ (.slice (some ⟨r,0,none⟩) 2 2)=W:=⟨_,rfl⟩;obtain ⟨o3,c3',hs8,e3,k1,k2⟩:=h.2 i hi
 have e4:hv hs i=.slice o3 (lll.getD i []).length c3':=by unfold hv;rw [e3]
 have hl8:=(hsm.2.2 i hi).1
 rw [he,hl8] at e4
 injection e4 with q1 q2 q3
 subst q1 q3
 rw [hl8] at k1
 have hgr:w1.grownBy W (some g3):=by rw [←hW];exact Q0D w1 g3 2 _
 have rowI:∀v l,Q9u w1 base v l→Q9u W base v l:=fun v l hv=> World.ownsRow.kept hv hgr (Q2c hv k1 Qf7)
 have key:∀q,q < lll.length→∃t:List (List Int),(t.length=8∧∀j,(t.getD j []).length≤2)∧RcT base W.heap.size W (hv hs q) t:=by
  intro q hq
  obtain ⟨o5,c5,hs5,e5,m1,m2⟩:=h.2 q hq;have f8:=hsm.2.2 q hq
  have e6:hv hs q=.slice o5 (lll.getD q []).length c5:=by unfold hv;rw [e5]
  rw [f8.1] at m1 m2 e6
  rw [e6]
  have hlen5:=m2.len
  by_cases hb:o5=some ⟨g3,0,none⟩
  ·subst hb
   have m1':w1.ownsRow base 47 Q0C.k (.slice (some ⟨g3,0,none⟩) 8 c5) 8 (hs5.flatMap Q0C.cs):=by have h:=m1;unfold ownL at h;rw [hlen5] at h;exact h
   have m3:=(World.ownsRow.stored m1' 2 (.slice (some ⟨r,0,none⟩) 2 2)).1
   rw [hW,←Qdb hs5 2 (some ⟨r,0,none⟩,2,2)] at m3
   have m4:ownL Q0C 47 W base (.slice (some ⟨g3,0,none⟩) 8 c5) (hs5.set 2 (some ⟨r,0,none⟩,2,2)):=by
    unfold ownL;rw [List.length_set,hlen5];exact m3
   refine ⟨(lll.getD q []).set 2 [x,y],⟨by rw [List.length_set];exact f8.1,fun j=> ?_⟩,⟨hs5.set 2 (some ⟨r,0,none⟩,2,2),by rw [List.length_set,List.length_set,f8.1];exact hlen5, ?_,fun j hj=> ?_⟩⟩
   ·by_cases hj:j=2
    ·subst hj;rw [List.getD_eq_getElem?_getD,List.getElem?_set_self (by rw [f8.1];decide)];simp
    ·rw [List.getD_eq_getElem?_getD,List.getElem?_set_ne (Ne.symm hj),←List.getD_eq_getElem?_getD];exact f8.2 j
   ·have:=InRow.ri (L:=Q0C) (InRow.of m4);simpa [hlen5] using this
   ·rw [List.length_set,f8.1] at hj
    by_cases hj2:j=2
    ·subst hj2
     rw [QdL (by omega),List.getD_eq_getElem?_getD,List.getElem?_set_self (by rw [f8.1];decide)]
     exact ⟨InRow.ri (L:=Q2e) (InRow.of (rowI _ _ hr)),InRow.cap (InRow.of (rowI _ _ hr))⟩
    ·rw [QcK hj2,List.getD_eq_getElem?_getD,List.getElem?_set_ne (Ne.symm hj2),←List.getD_eq_getElem?_getD]
     exact ⟨InRow.ri (L:=Q2e) (InRow.of (rowI _ _ (m2.row j hj))),InRow.cap (InRow.of (rowI _ _ (m2.row j hj)))⟩
  ·have m4:ownL Q0C 47 W base (.slice o5 8 c5) hs5:=by
    refine World.ownsRow.kept m1 hgr ?_
    obtain ⟨g5,c5',q1⟩:=Q2C m1 (by rw [hlen5];decide)
    injection q1 with q1 _ _
    ·subst q1;right;intro e;simp [Value.ownBlock] at e;exact hb (by rw [e])
   refine ⟨lll.getD q [],f8,⟨hs5,by rw [f8.1];exact hlen5, ?_,fun j hj=> ?_⟩⟩
   ·have:=InRow.ri (L:=Q0C) (InRow.of m4);simpa [hlen5] using this
   ·rw [f8.1] at hj
    exact ⟨InRow.ri (L:=Q2e) (InRow.of (rowI _ _ (m2.row j hj))),InRow.cap (InRow.of (rowI _ _ (m2.row j hj)))⟩
 obtain ⟨ts,hts,hq⟩:=QaH (d:=([]:List (List Int))) key
 rw [hW]
 refine ⟨ts,⟨by rw [hts];exact hsm.1,by rw [hts];exact hsm.2.1,fun j hj=> (hq j (by omega)).1⟩,hts,⟨hs,by rw [hts];exact h.1, ?_,fun j hj=> (hq j (by omega)).2⟩⟩
 exact InRow.ri (L:=Q0C) (InRow.of (World.ownsRow.kept ho hgr (Q2c ho k1 Qii)))
structure PS (k B R C:Nat) (w0 wr:World) (key:Int) (l:List Bk) (lll:List (List (List Int))) (hs:List Hd) (o2:Option Addr) (nb c2:Nat) (oQ:Option Addr) (n cQ:Nat):Prop where
 len:nb=l.length
 box:wr.heap[B]? =some (.cells #[.int .i64 key,.slice o2 nb c2,.slice oQ n cQ] 29 (0,0))
 res:wr.heap[R]? =some (.cells #[.int .i64 0,.slice none 0 0,.slice none 0 0] 29 (0,0))
 bk:Q1i wr C (.slice o2 nb c2) l
 ow:ownL Q0C 51 wr C (.slice oQ n cQ) hs
 gt:GTabs wr C hs lll
 dr:Dr k w0 wr
theorem PS.draw {k B R C:Nat} {w0 wr:World} {key:Int} {l:List Bk} {lll:List (List (List Int))} {hs:List Hd} {o2 oQ:Option Addr} {nb c2 n cQ:Nat} {x:World} (h:PS k B R C w0 wr key l lll hs o2 nb c2 oQ n cQ) (hc:isCur k x) (hg:wr.grownBy x (some k)) (hB:B≠k) (hR:R≠k) (hC:k < C):PS k B R C w0 x key l lll hs o2 nb c2 oQ n cQ:=
 ⟨h.len,Q09 hg (Array.getElem?_eq_some_iff.1 h.box).1 hB h.box,Q09 hg (Array.getElem?_eq_some_iff.1 h.res).1 hR h.res,Q3s h.bk hg hC,Q3s (L:=Q0C) h.ow hg hC,h.gt.draw hg hC,h.dr.step hc hg⟩
theorem PS.below {k B R C:Nat} {w0 wr:World} {key:Int} {l:List Bk} {lll:List (List (List Int))} {hs:List Hd} {o2 oQ:Option Addr} {nb c2 n cQ:Nat} {x:World} (h:PS k B R C w0 wr key l lll hs o2 nb c2 oQ n cQ) (hb:Below wr.heap.size wr x) (hk:k < w0.heap.size):PS k B R C w0 x key l lll hs o2 nb c2 oQ n cQ:=
 ⟨h.len,(hb.block _ (Array.getElem?_eq_some_iff.1 h.box).1).trans h.box,(hb.block _ (Array.getElem?_eq_some_iff.1 h.res).1).trans h.res,Q03 h.bk hb,Q03 h.ow hb,h.gt.kept hb,h.dr.below hk (hb.mono h.dr.gr.size)⟩
structure PE (k B R C:Nat) (w0 wr:World) (v0 v1 v2:Value) (m:Pm):Prop where
 box:wr.heap[B]? =some (.cells #[v0,v1,v2] 29 (0,0))
 res:wr.heap[R]? =some (.cells #[.int .i64 0,.slice none 0 0,.slice none 0 0] 29 (0,0))
 rc:RcPm C wr.heap.size wr (.agg #[v0,v1,v2]) m
 fit:Q36 m
 dr:Dr k w0 wr
theorem PE.done {k B C:Nat} {w0 wr:World} {v0 v1 v2:Value} {m:Pm} (h:PE k B w0.heap.size C w0 wr v0 v1 v2 m) (hk:k < w0.heap.size) (hC:w0.heap.size < C):RcPm w0.heap.size (setP wr w0.heap.size v0 v1 v2).heap.size (setP wr w0.heap.size v0 v1 v2) (.agg #[v0,v1,v2]) m∧Q36 m∧Dr k w0 (setP wr w0.heap.size v0 v1 v2):=
 ⟨by rw [Q2B];exact (h.rc.step (Q30 wr w0.heap.size v0 v1 v2) (.inl hC)).mono (Nat.le_of_lt hC) (Kaq _),h.fit,h.dr.below hk (Q0A (Below.refl _ _) (Kaq _) _ _ _)⟩
theorem PS.end0 {k B R C:Nat} {w0 wr:World} {key:Int} {l:List Bk} {lll:List (List (List Int))} {hs:List Hd} {o2 oQ:Option Addr} {nb c2 n cQ:Nat} (h:PS k B R C w0 wr key l lll hs o2 nb c2 oQ n cQ) (hs3:Q4T lll) (hl:l.length≤1000):PE k B R C w0 wr (.int .i64 key) (.slice o2 nb c2) (.slice oQ n cQ) ⟨key,l,lll⟩:=⟨h.box,h.res,Q6k h.len h.bk h.ow h.gt,Q3Q hl hs3.2.1 hs3.2.2,h.dr⟩
theorem PS.key {k B R C:Nat} {w0 wr:World} {key:Int} {l:List Bk} {lll:List (List (List Int))} {hs:List Hd} {o2 oQ:Option Addr} {nb c2 n cQ:Nat} (h:PS k B R C w0 wr key l lll hs o2 nb c2 oQ n cQ) (hs3:Q4T lll) (hl:l.length≤1000) (hk:k < w0.heap.size) (hB:w0.heap.size≤B) (hR:R≠B) (y:Int):PE k B R C w0 (wr.setCell ⟨B,0,none⟩ (.int .i64 y)) (.int .i64 y) (.slice o2 nb c2) (.slice oQ n cQ) ⟨y,l,lll⟩:=
 ⟨Q06 h.box 0 _,Q1Z h.res hR,Q6k h.len (Q0o h.bk h.box Q7p 0 _) (Q0o h.ow h.box Q9a 0 _) (h.gt.putB h.box 0 _),Q3Q hl hs3.2.1 hs3.2.2,h.dr.below hk ((Below.refl _ _).setCell (p:=⟨B,0,none⟩) hB _)⟩
theorem PS.backs {k B R C:Nat} {w0 wr:World} {key:Int} {l:List Bk} {lll:List (List (List Int))} {hs:List Hd} {o2 oQ:Option Addr} {nb c2 n cQ:Nat} {L:List Bk} {o3:Option Addr} {c3 m3 b3:Nat} (h:PS k B R C w0 wr key l lll hs o2 nb c2 oQ n cQ) (hs3:Q4T lll) (hl:m3≤7) (hm:m3=L.length) (hk:k < w0.heap.size) (hB:w0.heap.size≤B) (hR:R≠B) (hC:C≤b3) (ho:Q1i wr b3 (.slice o3 m3 c3) L):PE k B R C w0 (wr.setCell ⟨B,1,none⟩ (.slice o3 m3 c3)) (.int .i64 key) (.slice o3 m3 c3) (.slice oQ n cQ) ⟨key,L,lll⟩:=
 ⟨Q06 h.box 1 _,Q1Z h.res hR,Q6k hm (Q04 (Q0o ho h.box Q7p 1 _) hC) (Q0o h.ow h.box Q9a 1 _) (h.gt.putB h.box 1 _),Q3Q (by omega) hs3.2.1 hs3.2.2,h.dr.below hk ((Below.refl _ _).setCell (p:=⟨B,1,none⟩) hB _)⟩
theorem PS.nil {k B R C:Nat} {w0 wr:World} {key:Int} {l:List Bk} {lll:List (List (List Int))} {hs:List Hd} {o2 oQ:Option Addr} {nb c2 n cQ:Nat} (h:PS k B R C w0 wr key l lll hs o2 nb c2 oQ n cQ) (hl:l.length≤1000) (hk:k < w0.heap.size) (hB:w0.heap.size≤B) (hR:R≠B):PE k B R C w0 (wr.setCell ⟨B,2,none⟩ (.slice none 0 0)) (.int .i64 key) (.slice o2 nb c2) (.slice none 0 0) ⟨key,l,[]⟩:=
 ⟨Q06 h.box 2 _,Q1Z h.res hR,QcQ h.len (Q0o h.bk h.box Q7p 2 _),Q3Q hl (by simp) (fun i hi=> absurd hi (Nat.not_lt_zero _)),h.dr.below hk ((Below.refl _ _).setCell (p:=⟨B,2,none⟩) hB _)⟩
theorem PS.bend {k B R C:Nat} {w0 wr:World} {key:Int} {l:List Bk} {lll:List (List (List Int))} {hs:List Hd} {o2 oQ:Option Addr} {nb c2 n cQ:Nat} {g3 r c3 i:Nat} {x y:Int} (h:PS k B R C w0 wr key l lll hs o2 nb c2 oQ n cQ) (hs3:Q4T lll) (hl:l.length≤1000) (hk:k < w0.heap.size) (hC:w0.heap.size≤C) (hi:i < lll.length) (he:hv hs i=.slice (some ⟨g3,0,none⟩) 8 c3) (hr:Q9u wr C (.slice (some ⟨r,0,none⟩) 2 2) [x,y]) (hgB:g3≠B) (hgR:g3≠R) (hgC:C≤g3):
  ∃m,PE k B R C w0 (wr.setCell ⟨g3,2,none⟩ (.slice (some ⟨r,0,none⟩) 2 2)) (.int .i64 key) (.slice o2 nb c2) (.slice oQ n cQ) m:=by
 obtain ⟨lll',s1,s2,s3⟩:=QcI h.gt h.ow hs3 hi he hr;obtain ⟨o3,c3',hs8,e3,k1,k2⟩:=h.gt.2 i hi
 have e4:hv hs i=.slice o3 (lll.getD i []).length c3':=by unfold hv;rw [e3]
 rw [he,(hs3.2.2 i hi).1] at e4
 injection e4 with q1 q2 q3
 subst q1 q3;have hgr:wr.grownBy (wr.setCell ⟨g3,2,none⟩ (.slice (some ⟨r,0,none⟩) 2 2)) (some g3):=Q0D wr g3 2 _;have hbk:=World.ownsRow.kept h.bk hgr (Q2c h.bk k1 Qif);have hln:=h.len;subst hln
 refine ⟨⟨key,l,lll'⟩,Q1Z h.box (Ne.symm hgB),Q1Z h.res (Ne.symm hgR),⟨_,_,rfl,InRow.ri (InRow.of hbk),InRow.cap (InRow.of hbk),s3,InRow.cap (InRow.of h.ow)⟩,Q3Q hl s1.2.1 s1.2.2,h.dr.below hk ((Below.refl _ _).setCell (p:=⟨g3,2,none⟩) (show w0.heap.size≤g3 by omega) _)⟩
theorem Qg4 (w:World) (x y:Int):Q9u (w.alloc (.cells #[.int .i64 x,.int .i64 y] 3)) w.heap.size (.slice (some ⟨w.heap.size,0,none⟩) 2 2) [x,y]:=⟨by simp [Q2e],.inr ⟨w.heap.size,2,#[.int .i64 x,.int .i64 y],rfl,Kaq _,heap_alloc_new w _,by simp,by decide,by simp [Q2e],by simp [Q2e]⟩⟩
theorem Q7o (k:Nat) (vs:List Int) (w:World) (hc:isCur k w) (hk:k < w.heap.size) (h0:0 < vs.length) (h1:vs.length≤1000):
  Calls Tryz.prog 55 #[.pointer (some ⟨k,0,none⟩),.slice (some ⟨w.heap.size,0,none⟩) vs.length vs.length] (w.alloc (.cells (vs.map (Value.int .i64)).toArray 3)).drew fun e w'=> ∃x,x∈vs∧e=.returned (.int .i64 x)∧isCur k w'∧w.grownBy w' (some k):=by
 refine (Q0H k w.heap.size vs _ ((hc.alloc hk _).below (Below.drew (Below.refl _ _))) (by simp) (by omega) h0 h1 (fun q hq=> ?_)).mono ?_
 ·refine Q00 (World.alloc_heap_new w _) q _ ?_
  rw [List.getElem?_toArray,List.getElem?_map,List.getElem?_eq_getElem hq,List.getD_eq_getElem?_getD,List.getElem?_eq_getElem hq]
  rfl
 ·rintro e w' ⟨q,hq,rfl,hc',hg'⟩
  have hg2:(w.alloc (.cells (vs.map (Value.int .i64)).toArray 3)).grownBy w' (some k):=⟨hg'.os,hg'.tape,hg'.output,hg'.size,hg'.block⟩
  refine ⟨_, ?_,rfl,hc',Q05 (Q0r w _ k) hg2⟩
  rw [List.getD_eq_getElem?_getD,List.getElem?_eq_getElem hq]
  exact List.getElem_mem hq
theorem Qef {k B R C:Nat} {w0 wr:World} {key:Int} {l:List Bk} {lll:List (List (List Int))} {hs:List Hd} {o2 oQ:Option Addr} {nb c2 n cQ:Nat} {x:World} (h:PS k B R C w0 wr key l lll hs o2 nb c2 oQ n cQ) (hc:isCur k x) (hg:wr.grownBy x (some k)) (hB:B≠k) (hR:R≠k) (hC:k < C):x.cell? ⟨B,2,none⟩=some (.slice oQ n cQ):=Q00 (h.draw hc hg hB hR hC).box 2 _ rfl
theorem Qec {k B R C:Nat} {w0 wr:World} {key:Int} {l:List Bk} {lll:List (List (List Int))} {hs:List Hd} {o2:Option Addr} {nb c2 n cQ:Nat} {x:World} {g i g3 c3:Nat} (h:PS k B R C w0 wr key l lll hs o2 nb c2 (some ⟨g,0,none⟩) n cQ) (hc:isCur k x) (hg:wr.grownBy x (some k)) (hB:B≠k) (hR:R≠k) (hC:k < C) (hi:i < lll.length) (hvi:hv hs i=.slice (some ⟨g3,0,none⟩) 8 c3):x.cell? ⟨g,i,none⟩=some (.slice (some ⟨g3,0,none⟩) 8 c3):=by
 have h2:=h.draw hc hg hB hR hC
 rw [←hvi];exact Q2I h2.ow i (by rw [h2.gt.1];exact hi)
theorem Qdf {wr:World} {B g g3 i n cQ c3:Nat} (hB:g3≠B) (hg:g3≠g) (h1:∀O,(wr.alloc O).cell? ⟨B,2,none⟩=some (.slice (some ⟨g,0,none⟩) n cQ)) (h2:∀O,(wr.alloc O).cell? ⟨g,i,none⟩=some (.slice (some ⟨g3,0,none⟩) 8 c3)) (O:Obj) (v:Value):((wr.alloc O).setCell ⟨g3,2,none⟩ v).cell? ⟨B,2,none⟩=some (.slice (some ⟨g,0,none⟩) n cQ)∧((wr.alloc O).setCell ⟨g3,2,none⟩ v).cell? ⟨g,i,none⟩=some (.slice (some ⟨g3,0,none⟩) 8 c3):=
 ⟨(World.cell?_setCell_far _ _ _ _ hB).trans (h1 O),(World.cell?_setCell_far _ _ _ _ hg).trans (h2 O)⟩
theorem Qdx {k B R C:Nat} {w0 wr:World} {key:Int} {l:List Bk} {lll:List (List (List Int))} {hs:List Hd} {o2:Option Addr} {nb c2 n cQ g i g3 c3:Nat} (h:PS k B R C w0 wr key l lll hs o2 nb c2 (some ⟨g,0,none⟩) n cQ) (hi:i < lll.length) (hvi:hv hs i=.slice (some ⟨g3,0,none⟩) 8 c3) (hsm:Q4T lll) (hl:l.length≤1000) (hk:k < w0.heap.size) (hC:w0.heap.size≤C) (hgB:g3≠B) (hgR:g3≠R) (hgC:C≤g3) (x:Int):
  (∀O,(wr.alloc O).cell? ⟨B,2,none⟩=some (.slice (some ⟨g,0,none⟩) n cQ))∧(∀O,(wr.alloc O).cell? ⟨g,i,none⟩=some (.slice (some ⟨g3,0,none⟩) 8 c3))∧(∃u,(wr.alloc (.cells #[.int .i64 x,.int .i64 1] 3)).cell? ⟨g3,2,none⟩=some u)∧(∀O,(wr.alloc O).frozen? ⟨g3,2,none⟩=false)∧Hid (∃m,PE k B R C w0 ((wr.alloc (.cells #[.int .i64 x,.int .i64 1] 3)).setCell ⟨g3,2,none⟩ (.slice (some ⟨wr.heap.size,0,none⟩) 2 2)) (.int .i64 key) (.slice o2 nb c2) (.slice (some ⟨g,0,none⟩) n cQ) m):=by
 have hA:∀O,PS k B R C w0 (wr.alloc O) key l lll hs o2 nb c2 (some ⟨g,0,none⟩) n cQ:=fun O=> h.below ((Below.refl _ _).alloc (Kaq _) O) hk
 have hT:∀O,∃hs8:List Hd,hs8.length=8∧(wr.alloc O).ownsRow C 47 Q0C.k (.slice (some ⟨g3,0,none⟩) 8 c3) 8 (hs8.flatMap Q0C.cs):=fun O=> by
  obtain ⟨o3,c3',hs8,e3,k1,k2⟩:=(hA O).gt.2 i hi
  have e4:hv hs i=.slice o3 (lll.getD i []).length c3':=by unfold hv;rw [e3]
  rw [hvi,(hsm.2.2 i hi).1] at e4
  injection e4 with q1 q2 q3
  subst q1 q3;have hl:=k2.len
  rw [(hsm.2.2 i hi).1] at hl k1
  unfold ownL at k1
  rw [hl] at k1
  exact ⟨hs8,hl,k1⟩
 refine ⟨fun O=> Q00 (hA O).box 2 _ rfl,fun O=> by rw [←hvi];exact Q2I (hA O).ow i (by rw [(hA O).gt.1];exact hi), ?_,fun O=> ?_, ?_⟩
 ·obtain ⟨hs8,hl,k1⟩:=hT (.cells #[.int .i64 x,.int .i64 1] 3)
  have k2:ownL Q0C 47 (wr.alloc (.cells #[.int .i64 x,.int .i64 1] 3)) C (.slice (some ⟨g3,0,none⟩) 8 c3) hs8:=by unfold ownL;rw [hl];exact k1
  exact ⟨_,Q2I k2 2 (by omega)⟩
 ·obtain ⟨hs8,hl,k1⟩:=hT O
  exact World.ownsRow.frozenAt k1 2
 ·have hCw:C≤wr.heap.size:=Kdq hgC (by obtain ⟨o3,c3',hs8,e3,k1,k2⟩:=h.gt.2 i hi;have e4:hv hs i=.slice o3 (lll.getD i []).length c3':=(by unfold hv;rw [e3]);rw [hvi] at e4;injection e4 with q1 _ _;subst q1;exact Nat.le_of_lt (k1.lt g3 rfl).2)
  exact (hA _).bend hsm hl hk hC hi hvi (Q04 (Qg4 wr x 1) hCw) hgB hgR hgC
theorem QbQ (k:Nat) (w:World) (hc:isCur k w) (hk:k < w.heap.size):
  Calls Tryz.prog 82 #[.pointer (some ⟨k,0,none⟩)] w fun e w'=> ∃v m,e=.returned v∧RcPm w.heap.size w'.heap.size w' v m∧Q36 m∧Dr k w w':=by
 obtain ⟨W0,hW0⟩:∃W,w.alloc (.cells #[.int .i64 0,.slice none 0 0,.slice none 0 0] 29)=W:=⟨_,rfl⟩
 have hb0:Below w.heap.size w W0:=by rw [←hW0];exact (Below.refl _ _).alloc (Kaq _) _
 have HD0:=Q02 (show Dr k w W0 from ⟨hc.below (hb0.mono hk),by rw [←hW0];exact Q0r w _ k⟩)
 have HR0:Hid (W0.heap[w.heap.size]? =some (.cells #[.int .i64 0,.slice none 0 0,.slice none 0 0] 29 (0,0))):=by rw [←hW0];exact World.alloc_heap_new w _
 have hs0:w.heap.size < W0.heap.size:=by rw [←hW0];simp
 clear hb0 hc
 go_enter Tryz.func82,Tryz.ntmps82
 go_wp2_with fail
 refine (QbP k W0 HD0.out.cur (HD0.out.lt hk)).mono ?_
 rintro e w1 ⟨key,l,lll,hs,o2,c2,oQ,cQ,rfl,hl100,hsm,ow1,ow2,hgt,hd1⟩
 obtain ⟨nb,hnb⟩:∃n,l.length=n:=⟨_,rfl⟩;obtain ⟨n,hn⟩:∃n,lll.length=n:=⟨_,rfl⟩
 rw [hnb] at ow1 ⊢
 rw [hn] at ow2 ⊢
 have HSM:=Q02 hsm;have HNB:=Q02 hnb;have HN:=Q02 hn
 have hL:l.length≤1000:=by omega
 have HL:=Q02 hL
 have hn1:1≤n:=by rw [←hn];exact hsm.1
 have hn3:n≤3:=by rw [←hn];exact hsm.2.1
 have hs1:W0.heap.size≤w1.heap.size:=hd1.gr.size;have hb2:Below w1.heap.size w1 (w1.alloc (.cells #[.int .i64 key,.slice o2 nb c2,.slice oQ n cQ] 29)):=(Below.refl _ _).alloc (Kaq _) _
 have HJ2:=Q02 (show PS k w1.heap.size w.heap.size W0.heap.size w (w1.alloc (.cells #[.int .i64 key,.slice o2 nb c2,.slice oQ n cQ] 29)) key l lll hs o2 nb c2 oQ n cQ from ⟨hnb.symm,World.alloc_heap_new w1 _,(hb2.block _ (by omega)).trans (Q09 hd1.gr hs0 (by omega) HR0.out),Q03 ow1 hb2,Q03 ow2 hb2,hgt.kept hb2,(HD0.out.step hd1.cur hd1.gr).below hk (hb2.mono (by omega))⟩)
 clear hb2 ow1 ow2 hgt hd1 HR0 HD0 hnb hn hsm hL hl100
 go_wp2_with fail
 generalize (w1.alloc (.cells #[.int .i64 key,.slice o2 nb c2,.slice oQ n cQ] 29))=W2 at *;obtain ⟨B,hB⟩:∃B,w1.heap.size=B:=⟨_,rfl⟩
 simp only [hB] at HJ2 hs1 ⊢
 have hkB:B≠k:=by omega
 have hkR:w.heap.size≠k:=by omega
 have hRB:w.heap.size≠B:=by omega
 have hwB:w.heap.size≤B:=by omega
 have hkC:k < W0.heap.size:=by omega
 clear hB
 refine (Q1g k 8 W2 HJ2.out.dr.cur (by decide) (by decide)).mono ?_
 rintro e w3 ⟨yes,rfl,hc3,hg3⟩
 have HJ3:=Q02 (HJ2.out.draw hc3 hg3 hkB hkR hkC);clear hc3 hg3 HJ2
 cases yes with
 |false=>
  have HE:=Q02 (HJ3.out.end0 HSM.out HL.out);have z0:w3.cell? ⟨B,0,none⟩=some (.int .i64 key):=Q00 HE.out.box 0 _ rfl;have z1:w3.cell? ⟨B,1,none⟩=some (.slice o2 nb c2):=Q00 HE.out.box 1 _ rfl;have z2:w3.cell? ⟨B,2,none⟩=some (.slice oQ n cQ):=Q00 HE.out.box 2 _ rfl;have r0:w3.cell? ⟨w.heap.size,0,none⟩=some (.int .i64 0):=Q00 HE.out.res 0 _ rfl;have fr0:w3.frozen? ⟨w.heap.size,0,none⟩=false:=Q01 HE.out.res 0;have r1:w3.cell? ⟨w.heap.size,1,none⟩=some (.slice none 0 0):=Q00 HE.out.res 1 _ rfl;have fr1:w3.frozen? ⟨w.heap.size,1,none⟩=false:=Q01 HE.out.res 1
  have r2:w3.cell? ⟨w.heap.size,2,none⟩=some (.slice none 0 0):=Q00 HE.out.res 2 _ rfl;have fr2:w3.frozen? ⟨w.heap.size,2,none⟩=false:=Q01 HE.out.res 2;have HF:=Q02 (HE.out.done hk hs0);clear HJ3 HE
  go_wp2
  refine bodyPost_ret (v:=.agg #[.int .i64 key,.slice o2 nb c2,.slice oQ n cQ]) (by simp [results,Tryz.results82,go_sem,r0,r1,r2]) rfl ⟨_,_,rfl,HF.out.1,HF.out.2.1,HF.out.2.2⟩
 |true=>
  go_wp2_with fail
  refine (Q0m k 4 w3 HJ3.out.dr.cur (by decide) (by decide)).mono ?_
  rintro e w4 ⟨x,rfl,hx0,hx3,hc4,hg4⟩
  have HJ4:=Q02 (HJ3.out.draw hc4 hg4 hkB hkR hkC);clear hc4 hg4 HJ3
  by_cases e0:x=0
  ·subst e0
   go_wp2_with fail
   refine (Q2l k [-1,1000000,3] w4 HJ4.out.dr.cur (HJ4.out.dr.lt hk) (by simp) (by simp)).mono ?_
   rintro e w5 ⟨y,_,rfl,hc5,hg5⟩
   have HJ5:=Q02 (HJ4.out.draw hc5 hg5 hkB hkR hkC);have HE:=Q02 (HJ5.out.key HSM.out HL.out hk hwB hRB y);have y2:w5.cell? ⟨B,0,none⟩=some (.int .i64 key):=Q00 HJ5.out.box 0 _ rfl;have fy2:w5.frozen? ⟨B,0,none⟩=false:=Q01 HJ5.out.box 0;have q0:(w5.setCell ⟨B,0,none⟩ (.int .i64 y)).cell? ⟨B,0,none⟩=some (.int .i64 y):=Q00 HE.out.box 0 _ rfl;have q1:(w5.setCell ⟨B,0,none⟩ (.int .i64 y)).cell? ⟨B,1,none⟩=some (.slice o2 nb c2):=Q00 HE.out.box 1 _ rfl;have q2:(w5.setCell ⟨B,0,none⟩ (.int .i64 y)).cell? ⟨B,2,none⟩=some (.slice oQ n cQ):=Q00 HE.out.box 2 _ rfl
   have r0:(w5.setCell ⟨B,0,none⟩ (.int .i64 y)).cell? ⟨w.heap.size,0,none⟩=some (.int .i64 0):=Q00 HE.out.res 0 _ rfl;have fr0:(w5.setCell ⟨B,0,none⟩ (.int .i64 y)).frozen? ⟨w.heap.size,0,none⟩=false:=Q01 HE.out.res 0;have r1:(w5.setCell ⟨B,0,none⟩ (.int .i64 y)).cell? ⟨w.heap.size,1,none⟩=some (.slice none 0 0):=Q00 HE.out.res 1 _ rfl;have fr1:(w5.setCell ⟨B,0,none⟩ (.int .i64 y)).frozen? ⟨w.heap.size,1,none⟩=false:=Q01 HE.out.res 1;have r2:(w5.setCell ⟨B,0,none⟩ (.int .i64 y)).cell? ⟨w.heap.size,2,none⟩=some (.slice none 0 0):=Q00 HE.out.res 2 _ rfl
   have fr2:(w5.setCell ⟨B,0,none⟩ (.int .i64 y)).frozen? ⟨w.heap.size,2,none⟩=false:=Q01 HE.out.res 2;have HF:=Q02 (HE.out.done hk hs0);clear HJ4 HJ5 HE
   go_wp2
   refine bodyPost_ret (v:=.agg #[.int .i64 y,.slice o2 nb c2,.slice oQ n cQ]) (by simp [results,Tryz.results82,go_sem,r0,r1,r2]) rfl ⟨_,_,rfl,HF.out.1,HF.out.2.1,HF.out.2.2⟩
  by_cases e1:x=1
  ·subst e1
   go_wp2_with fail
   refine (QbN k w4 HJ4.out.dr.cur (HJ4.out.dr.lt hk)).mono ?_
   rintro e w5 ⟨v5,L5,rfl,ow5,hl7,hc5,hg5⟩
   obtain ⟨o5,c5,e5,_⟩:=ownL.open (L:=Q12) ow5;subst e5;obtain ⟨m5,hm5⟩:∃m,L5.length=m:=⟨_,rfl⟩
   rw [hm5] at hl7 ow5 ⊢
   have HJ5:=Q02 (HJ4.out.draw hc5 hg5 hkB hkR hkC)
   have HE:=Q02 (HJ5.out.backs HSM.out hl7 hm5.symm hk hwB hRB (Kdq hs1 (Nat.le_of_lt (Array.getElem?_eq_some_iff.1 HJ4.out.box).1)) ow5)
   clear ow5 hm5;have y2:w5.cell? ⟨B,1,none⟩=some (.slice o2 nb c2):=Q00 HJ5.out.box 1 _ rfl;have fy2:w5.frozen? ⟨B,1,none⟩=false:=Q01 HJ5.out.box 1;have q0:(w5.setCell ⟨B,1,none⟩ (.slice o5 m5 c5)).cell? ⟨B,0,none⟩=some (.int .i64 key):=Q00 HE.out.box 0 _ rfl;have q1:(w5.setCell ⟨B,1,none⟩ (.slice o5 m5 c5)).cell? ⟨B,1,none⟩=some (.slice o5 m5 c5):=Q00 HE.out.box 1 _ rfl;have q2:(w5.setCell ⟨B,1,none⟩ (.slice o5 m5 c5)).cell? ⟨B,2,none⟩=some (.slice oQ n cQ):=Q00 HE.out.box 2 _ rfl
   have r0:(w5.setCell ⟨B,1,none⟩ (.slice o5 m5 c5)).cell? ⟨w.heap.size,0,none⟩=some (.int .i64 0):=Q00 HE.out.res 0 _ rfl;have fr0:(w5.setCell ⟨B,1,none⟩ (.slice o5 m5 c5)).frozen? ⟨w.heap.size,0,none⟩=false:=Q01 HE.out.res 0;have r1:(w5.setCell ⟨B,1,none⟩ (.slice o5 m5 c5)).cell? ⟨w.heap.size,1,none⟩=some (.slice none 0 0):=Q00 HE.out.res 1 _ rfl;have fr1:(w5.setCell ⟨B,1,none⟩ (.slice o5 m5 c5)).frozen? ⟨w.heap.size,1,none⟩=false:=Q01 HE.out.res 1;have r2:(w5.setCell ⟨B,1,none⟩ (.slice o5 m5 c5)).cell? ⟨w.heap.size,2,none⟩=some (.slice none 0 0):=Q00 HE.out.res 2 _ rfl
   have fr2:(w5.setCell ⟨B,1,none⟩ (.slice o5 m5 c5)).frozen? ⟨w.heap.size,2,none⟩=false:=Q01 HE.out.res 2;have HF:=Q02 (HE.out.done hk hs0);clear HJ4 HJ5 HE
   go_wp2
   refine bodyPost_ret (v:=.agg #[.int .i64 key,.slice o5 m5 c5,.slice oQ n cQ]) (by simp [results,Tryz.results82,go_sem,r0,r1,r2]) rfl ⟨_,_,rfl,HF.out.1,HF.out.2.1,HF.out.2.2⟩
  by_cases e2:x=2
  ·subst e2
   have HJ5:=HJ4;have HE:=Q02 (HJ5.out.nil HL.out hk hwB hRB);have y2:w4.cell? ⟨B,2,none⟩=some (.slice oQ n cQ):=Q00 HJ5.out.box 2 _ rfl;have fy2:w4.frozen? ⟨B,2,none⟩=false:=Q01 HJ5.out.box 2;have q0:(w4.setCell ⟨B,2,none⟩ (.slice none 0 0)).cell? ⟨B,0,none⟩=some (.int .i64 key):=Q00 HE.out.box 0 _ rfl;have q1:(w4.setCell ⟨B,2,none⟩ (.slice none 0 0)).cell? ⟨B,1,none⟩=some (.slice o2 nb c2):=Q00 HE.out.box 1 _ rfl;have q2:(w4.setCell ⟨B,2,none⟩ (.slice none 0 0)).cell? ⟨B,2,none⟩=some (.slice none 0 0):=Q00 HE.out.box 2 _ rfl
   have r0:(w4.setCell ⟨B,2,none⟩ (.slice none 0 0)).cell? ⟨w.heap.size,0,none⟩=some (.int .i64 0):=Q00 HE.out.res 0 _ rfl;have fr0:(w4.setCell ⟨B,2,none⟩ (.slice none 0 0)).frozen? ⟨w.heap.size,0,none⟩=false:=Q01 HE.out.res 0;have r1:(w4.setCell ⟨B,2,none⟩ (.slice none 0 0)).cell? ⟨w.heap.size,1,none⟩=some (.slice none 0 0):=Q00 HE.out.res 1 _ rfl;have fr1:(w4.setCell ⟨B,2,none⟩ (.slice none 0 0)).frozen? ⟨w.heap.size,1,none⟩=false:=Q01 HE.out.res 1;have r2:(w4.setCell ⟨B,2,none⟩ (.slice none 0 0)).cell? ⟨w.heap.size,2,none⟩=some (.slice none 0 0):=Q00 HE.out.res 2 _ rfl
   have fr2:(w4.setCell ⟨B,2,none⟩ (.slice none 0 0)).frozen? ⟨w.heap.size,2,none⟩=false:=Q01 HE.out.res 2;have HF:=Q02 (HE.out.done hk hs0);clear HJ4 HJ5 HE
   go_wp2
   refine bodyPost_ret (v:=.agg #[.int .i64 key,.slice o2 nb c2,.slice none 0 0]) (by simp [results,Tryz.results82,go_sem,r0,r1,r2]) rfl ⟨_,_,rfl,HF.out.1,HF.out.2.1,HF.out.2.2⟩
  ·have HCD:Hid (isCur k w4):=HJ4.out.dr.cur
   have HKD:Hid (k < w4.heap.size):=HJ4.out.dr.lt hk
   obtain ⟨g,cg,hve⟩:=Q2C HJ4.out.ow (by rw [HJ4.out.gt.1,HN.out];omega)
   injection hve with ho1 hA1 hA2
   clear hA1 hA2;subst ho1
   obtain ⟨i,hi⟩:∃i,n=i+1:=⟨n - 1,by omega⟩
   have hil:i < lll.length:=by rw [HN.out];omega
   obtain ⟨o3,c3,hs8,e3,k1,k2⟩:=HJ4.out.gt.2 i hil
   rw [(HSM.out.2.2 i hil).1] at e3 k1 k2
   obtain ⟨g3,c3',hv3⟩:=Q2C k1 (by rw [k2.len];decide)
   injection hv3 with ho3 hA1 hA2
   clear hA1 hA2;subst ho3;have hgl:W0.heap.size≤g∧g < w4.heap.size:=HJ4.out.ow.lt g rfl;have hg3l:W0.heap.size≤g3∧g3 < w4.heap.size:=k1.lt g3 rfl
   have hg3B:g3≠B:=by
    rcases Q1P k1 HJ4.out.box QhM with h|h
    ·cases h
    ·exact fun e=> h (by rw [e];rfl)
   have hgB:g≠B:=by
    rcases Q1P HJ4.out.ow HJ4.out.box Q9a with h|h
    ·cases h
    ·exact fun e=> h (by rw [e];rfl)
   have hvI:hv hs i=.slice (some ⟨g3,0,none⟩) 8 c3:=by unfold hv;rw [e3]
   have z2:w4.cell? ⟨B,2,none⟩=some (.slice (some ⟨g,0,none⟩) n cQ):=Q00 HJ4.out.box 2 _ rfl
   have zc:w4.cell? ⟨g,i,none⟩=some (.slice (some ⟨g3,0,none⟩) 8 c3):=by rw [←hvI];exact Q2I HJ4.out.ow i (by rw [HJ4.out.gt.1];exact hil)
   have HGG:g3≠g:=by
    rcases Q2c k1 HJ4.out.ow QhR with h|h
    ·cases h
    ·exact fun e=> h (by rw [e];rfl)
   clear k1 k2 e3
   have hBl:B < w4.heap.size:=(Array.getElem?_eq_some_iff.1 HJ4.out.box).1
   have hg3R:g3≠w.heap.size:=by omega
   have hgg:g3≠g:=HGG
   obtain ⟨rfl,rfl⟩|⟨rfl,rfl⟩|⟨rfl,rfl⟩:(i=0∧n=1)∨(i=1∧n=2)∨(i=2∧n=3):=by omega
   ·have HPK:Hid (Calls Tryz.prog 55 #[.pointer (some ⟨k,0,none⟩),.slice (some ⟨w4.heap.size,0,none⟩) 3 3] (w4.alloc (.cells #[.int .i64 (-1),.int .i64 0,.int .i64 6] 3)).drew fun e w'=> ∃x,x∈([-1,0,6]:List Int)∧e=.returned (.int .i64 x)∧isCur k w'∧w4.grownBy w' (some k)):=Q7o k [-1,0,6] w4 HCD.out HKD.out (by decide) (by decide)
    have z2d:w4.drew.cell? ⟨B,2,none⟩=some (.slice (some ⟨g,0,none⟩) 1 cQ):=z2;have zcd:w4.drew.cell? ⟨g,0,none⟩=some (.slice (some ⟨g3,0,none⟩) 8 c3):=zc
    have z2a:∀O,(w4.alloc O).cell? ⟨B,2,none⟩=some (.slice (some ⟨g,0,none⟩) 1 cQ):=fun O=> bC ((Below.refl _ _).alloc (Kaq _) O) z2 hBl
    have zca:∀O,(w4.alloc O).cell? ⟨g,0,none⟩=some (.slice (some ⟨g3,0,none⟩) 8 c3):=fun O=> bC ((Below.refl _ _).alloc (Kaq _) O) zc hgl.2
    have hwI:IntKind.i64.wrap 0=0:=by first|rfl|decide
    go_wp2
    go_region_held3 (fun w'=> w'.cell? ⟨B,2,none⟩=some (.slice (some ⟨g,0,none⟩) 1 cQ)∧w'.cell? ⟨g,0,none⟩=some (.slice (some ⟨g3,0,none⟩) 8 c3)) (first|with_reducible exact ⟨z2,zc⟩|with_reducible exact ⟨z2d,zcd⟩|with_reducible exact ⟨z2a _,zca _⟩|with_reducible exact ⟨y2,yc⟩|with_reducible exact ⟨ha2 _,hac _⟩|with_reducible exact hag _ _|go_keep) (first|(go_at_call 55;refine (HPK.out).mono ?_;rintro e w5 ⟨x5,hmem,rfl,hc5,hg5⟩;clear hmem;have J5:=HJ4.out.draw hc5 hg5 hkB hkR hkC;have y2:=Qef HJ4.out hc5 hg5 hkB hkR hkC;have yc:=Qec HJ4.out hc5 hg5 hkB hkR hkC hil hvI;obtain ⟨ha2,hac,⟨u3,hau⟩,haf,hae⟩:=Qdx J5 hil hvI HSM.out HL.out hk (Nat.le_of_lt hs0) hg3B hg3R hg3l.1 x5;have hag:=Qdf hg3B hgg ha2 hac;clear hc5 hg5))
    obtain ⟨m9,he9⟩:=hae.out;have q0:((w5.alloc (.cells #[.int .i64 x5,.int .i64 1] 3)).setCell ⟨g3,2,none⟩ (.slice (some ⟨w5.heap.size,0,none⟩) 2 2)).cell? ⟨B,0,none⟩=some (.int .i64 key):=Q00 he9.box 0 _ rfl;have q1:((w5.alloc (.cells #[.int .i64 x5,.int .i64 1] 3)).setCell ⟨g3,2,none⟩ (.slice (some ⟨w5.heap.size,0,none⟩) 2 2)).cell? ⟨B,1,none⟩=some (.slice o2 nb c2):=Q00 he9.box 1 _ rfl;have q2:((w5.alloc (.cells #[.int .i64 x5,.int .i64 1] 3)).setCell ⟨g3,2,none⟩ (.slice (some ⟨w5.heap.size,0,none⟩) 2 2)).cell? ⟨B,2,none⟩=some (.slice (some ⟨g,0,none⟩) 1 cQ):=Q00 he9.box 2 _ rfl
    have r0:((w5.alloc (.cells #[.int .i64 x5,.int .i64 1] 3)).setCell ⟨g3,2,none⟩ (.slice (some ⟨w5.heap.size,0,none⟩) 2 2)).cell? ⟨w.heap.size,0,none⟩=some (.int .i64 0):=Q00 he9.res 0 _ rfl;have fr0:((w5.alloc (.cells #[.int .i64 x5,.int .i64 1] 3)).setCell ⟨g3,2,none⟩ (.slice (some ⟨w5.heap.size,0,none⟩) 2 2)).frozen? ⟨w.heap.size,0,none⟩=false:=Q01 he9.res 0;have r1:((w5.alloc (.cells #[.int .i64 x5,.int .i64 1] 3)).setCell ⟨g3,2,none⟩ (.slice (some ⟨w5.heap.size,0,none⟩) 2 2)).cell? ⟨w.heap.size,1,none⟩=some (.slice none 0 0):=Q00 he9.res 1 _ rfl
    have fr1:((w5.alloc (.cells #[.int .i64 x5,.int .i64 1] 3)).setCell ⟨g3,2,none⟩ (.slice (some ⟨w5.heap.size,0,none⟩) 2 2)).frozen? ⟨w.heap.size,1,none⟩=false:=Q01 he9.res 1;have r2:((w5.alloc (.cells #[.int .i64 x5,.int .i64 1] 3)).setCell ⟨g3,2,none⟩ (.slice (some ⟨w5.heap.size,0,none⟩) 2 2)).cell? ⟨w.heap.size,2,none⟩=some (.slice none 0 0):=Q00 he9.res 2 _ rfl;have fr2:((w5.alloc (.cells #[.int .i64 x5,.int .i64 1] 3)).setCell ⟨g3,2,none⟩ (.slice (some ⟨w5.heap.size,0,none⟩) 2 2)).frozen? ⟨w.heap.size,2,none⟩=false:=Q01 he9.res 2;have HF:=Q02 (he9.done hk hs0)
    clear HJ4 he9 hae ha2 hac hau haf hag J5 y2 yc z2 zc z2a zca z2d zcd HPK HSM HN HCD HKD
    go_wp2
    refine bodyPost_ret (v:=.agg #[.int .i64 key,.slice o2 nb c2,.slice (some ⟨g,0,none⟩) 1 cQ]) (by simp [results,Tryz.results82,go_sem,r0,r1,r2]) rfl ⟨_,_,rfl,HF.out.1,HF.out.2.1,HF.out.2.2⟩
   ·have HPK:Hid (Calls Tryz.prog 55 #[.pointer (some ⟨k,0,none⟩),.slice (some ⟨w4.heap.size,0,none⟩) 3 3] (w4.alloc (.cells #[.int .i64 (-1),.int .i64 0,.int .i64 6] 3)).drew fun e w'=> ∃x,x∈([-1,0,6]:List Int)∧e=.returned (.int .i64 x)∧isCur k w'∧w4.grownBy w' (some k)):=Q7o k [-1,0,6] w4 HCD.out HKD.out (by decide) (by decide)
    have z2d:w4.drew.cell? ⟨B,2,none⟩=some (.slice (some ⟨g,0,none⟩) 2 cQ):=z2;have zcd:w4.drew.cell? ⟨g,1,none⟩=some (.slice (some ⟨g3,0,none⟩) 8 c3):=zc
    have z2a:∀O,(w4.alloc O).cell? ⟨B,2,none⟩=some (.slice (some ⟨g,0,none⟩) 2 cQ):=fun O=> bC ((Below.refl _ _).alloc (Kaq _) O) z2 hBl
    have zca:∀O,(w4.alloc O).cell? ⟨g,1,none⟩=some (.slice (some ⟨g3,0,none⟩) 8 c3):=fun O=> bC ((Below.refl _ _).alloc (Kaq _) O) zc hgl.2
    have hwI:IntKind.i64.wrap 1=1:=by first|rfl|decide
    go_wp2
    go_region_held3 (fun w'=> w'.cell? ⟨B,2,none⟩=some (.slice (some ⟨g,0,none⟩) 2 cQ)∧w'.cell? ⟨g,1,none⟩=some (.slice (some ⟨g3,0,none⟩) 8 c3)) (first|with_reducible exact ⟨z2,zc⟩|with_reducible exact ⟨z2d,zcd⟩|with_reducible exact ⟨z2a _,zca _⟩|with_reducible exact ⟨y2,yc⟩|with_reducible exact ⟨ha2 _,hac _⟩|with_reducible exact hag _ _|go_keep) (first|(go_at_call 55;refine (HPK.out).mono ?_;rintro e w5 ⟨x5,hmem,rfl,hc5,hg5⟩;clear hmem;have J5:=HJ4.out.draw hc5 hg5 hkB hkR hkC;have y2:=Qef HJ4.out hc5 hg5 hkB hkR hkC;have yc:=Qec HJ4.out hc5 hg5 hkB hkR hkC hil hvI;obtain ⟨ha2,hac,⟨u3,hau⟩,haf,hae⟩:=Qdx J5 hil hvI HSM.out HL.out hk (Nat.le_of_lt hs0) hg3B hg3R hg3l.1 x5;have hag:=Qdf hg3B hgg ha2 hac;clear hc5 hg5))
    obtain ⟨m9,he9⟩:=hae.out;have q0:((w5.alloc (.cells #[.int .i64 x5,.int .i64 1] 3)).setCell ⟨g3,2,none⟩ (.slice (some ⟨w5.heap.size,0,none⟩) 2 2)).cell? ⟨B,0,none⟩=some (.int .i64 key):=Q00 he9.box 0 _ rfl;have q1:((w5.alloc (.cells #[.int .i64 x5,.int .i64 1] 3)).setCell ⟨g3,2,none⟩ (.slice (some ⟨w5.heap.size,0,none⟩) 2 2)).cell? ⟨B,1,none⟩=some (.slice o2 nb c2):=Q00 he9.box 1 _ rfl;have q2:((w5.alloc (.cells #[.int .i64 x5,.int .i64 1] 3)).setCell ⟨g3,2,none⟩ (.slice (some ⟨w5.heap.size,0,none⟩) 2 2)).cell? ⟨B,2,none⟩=some (.slice (some ⟨g,0,none⟩) 2 cQ):=Q00 he9.box 2 _ rfl
    have r0:((w5.alloc (.cells #[.int .i64 x5,.int .i64 1] 3)).setCell ⟨g3,2,none⟩ (.slice (some ⟨w5.heap.size,0,none⟩) 2 2)).cell? ⟨w.heap.size,0,none⟩=some (.int .i64 0):=Q00 he9.res 0 _ rfl;have fr0:((w5.alloc (.cells #[.int .i64 x5,.int .i64 1] 3)).setCell ⟨g3,2,none⟩ (.slice (some ⟨w5.heap.size,0,none⟩) 2 2)).frozen? ⟨w.heap.size,0,none⟩=false:=Q01 he9.res 0;have r1:((w5.alloc (.cells #[.int .i64 x5,.int .i64 1] 3)).setCell ⟨g3,2,none⟩ (.slice (some ⟨w5.heap.size,0,none⟩) 2 2)).cell? ⟨w.heap.size,1,none⟩=some (.slice none 0 0):=Q00 he9.res 1 _ rfl
    have fr1:((w5.alloc (.cells #[.int .i64 x5,.int .i64 1] 3)).setCell ⟨g3,2,none⟩ (.slice (some ⟨w5.heap.size,0,none⟩) 2 2)).frozen? ⟨w.heap.size,1,none⟩=false:=Q01 he9.res 1;have r2:((w5.alloc (.cells #[.int .i64 x5,.int .i64 1] 3)).setCell ⟨g3,2,none⟩ (.slice (some ⟨w5.heap.size,0,none⟩) 2 2)).cell? ⟨w.heap.size,2,none⟩=some (.slice none 0 0):=Q00 he9.res 2 _ rfl;have fr2:((w5.alloc (.cells #[.int .i64 x5,.int .i64 1] 3)).setCell ⟨g3,2,none⟩ (.slice (some ⟨w5.heap.size,0,none⟩) 2 2)).frozen? ⟨w.heap.size,2,none⟩=false:=Q01 he9.res 2;have HF:=Q02 (he9.done hk hs0)
    clear HJ4 he9 hae ha2 hac hau haf hag J5 y2 yc z2 zc z2a zca z2d zcd HPK HSM HN HCD HKD
    go_wp2
    refine bodyPost_ret (v:=.agg #[.int .i64 key,.slice o2 nb c2,.slice (some ⟨g,0,none⟩) 2 cQ]) (by simp [results,Tryz.results82,go_sem,r0,r1,r2]) rfl ⟨_,_,rfl,HF.out.1,HF.out.2.1,HF.out.2.2⟩
   ·have HPK:Hid (Calls Tryz.prog 55 #[.pointer (some ⟨k,0,none⟩),.slice (some ⟨w4.heap.size,0,none⟩) 3 3] (w4.alloc (.cells #[.int .i64 (-1),.int .i64 0,.int .i64 6] 3)).drew fun e w'=> ∃x,x∈([-1,0,6]:List Int)∧e=.returned (.int .i64 x)∧isCur k w'∧w4.grownBy w' (some k)):=Q7o k [-1,0,6] w4 HCD.out HKD.out (by decide) (by decide)
    have z2d:w4.drew.cell? ⟨B,2,none⟩=some (.slice (some ⟨g,0,none⟩) 3 cQ):=z2;have zcd:w4.drew.cell? ⟨g,2,none⟩=some (.slice (some ⟨g3,0,none⟩) 8 c3):=zc
    have z2a:∀O,(w4.alloc O).cell? ⟨B,2,none⟩=some (.slice (some ⟨g,0,none⟩) 3 cQ):=fun O=> bC ((Below.refl _ _).alloc (Kaq _) O) z2 hBl
    have zca:∀O,(w4.alloc O).cell? ⟨g,2,none⟩=some (.slice (some ⟨g3,0,none⟩) 8 c3):=fun O=> bC ((Below.refl _ _).alloc (Kaq _) O) zc hgl.2
    have hwI:IntKind.i64.wrap 2=2:=by first|rfl|decide
    go_wp2
    go_region_held3 (fun w'=> w'.cell? ⟨B,2,none⟩=some (.slice (some ⟨g,0,none⟩) 3 cQ)∧w'.cell? ⟨g,2,none⟩=some (.slice (some ⟨g3,0,none⟩) 8 c3)) (first|with_reducible exact ⟨z2,zc⟩|with_reducible exact ⟨z2d,zcd⟩|with_reducible exact ⟨z2a _,zca _⟩|with_reducible exact ⟨y2,yc⟩|with_reducible exact ⟨ha2 _,hac _⟩|with_reducible exact hag _ _|go_keep) (first|(go_at_call 55;refine (HPK.out).mono ?_;rintro e w5 ⟨x5,hmem,rfl,hc5,hg5⟩;clear hmem;have J5:=HJ4.out.draw hc5 hg5 hkB hkR hkC;have y2:=Qef HJ4.out hc5 hg5 hkB hkR hkC;have yc:=Qec HJ4.out hc5 hg5 hkB hkR hkC hil hvI;obtain ⟨ha2,hac,⟨u3,hau⟩,haf,hae⟩:=Qdx J5 hil hvI HSM.out HL.out hk (Nat.le_of_lt hs0) hg3B hg3R hg3l.1 x5;have hag:=Qdf hg3B hgg ha2 hac;clear hc5 hg5))
    obtain ⟨m9,he9⟩:=hae.out;have q0:((w5.alloc (.cells #[.int .i64 x5,.int .i64 1] 3)).setCell ⟨g3,2,none⟩ (.slice (some ⟨w5.heap.size,0,none⟩) 2 2)).cell? ⟨B,0,none⟩=some (.int .i64 key):=Q00 he9.box 0 _ rfl;have q1:((w5.alloc (.cells #[.int .i64 x5,.int .i64 1] 3)).setCell ⟨g3,2,none⟩ (.slice (some ⟨w5.heap.size,0,none⟩) 2 2)).cell? ⟨B,1,none⟩=some (.slice o2 nb c2):=Q00 he9.box 1 _ rfl;have q2:((w5.alloc (.cells #[.int .i64 x5,.int .i64 1] 3)).setCell ⟨g3,2,none⟩ (.slice (some ⟨w5.heap.size,0,none⟩) 2 2)).cell? ⟨B,2,none⟩=some (.slice (some ⟨g,0,none⟩) 3 cQ):=Q00 he9.box 2 _ rfl
    have r0:((w5.alloc (.cells #[.int .i64 x5,.int .i64 1] 3)).setCell ⟨g3,2,none⟩ (.slice (some ⟨w5.heap.size,0,none⟩) 2 2)).cell? ⟨w.heap.size,0,none⟩=some (.int .i64 0):=Q00 he9.res 0 _ rfl;have fr0:((w5.alloc (.cells #[.int .i64 x5,.int .i64 1] 3)).setCell ⟨g3,2,none⟩ (.slice (some ⟨w5.heap.size,0,none⟩) 2 2)).frozen? ⟨w.heap.size,0,none⟩=false:=Q01 he9.res 0;have r1:((w5.alloc (.cells #[.int .i64 x5,.int .i64 1] 3)).setCell ⟨g3,2,none⟩ (.slice (some ⟨w5.heap.size,0,none⟩) 2 2)).cell? ⟨w.heap.size,1,none⟩=some (.slice none 0 0):=Q00 he9.res 1 _ rfl
    have fr1:((w5.alloc (.cells #[.int .i64 x5,.int .i64 1] 3)).setCell ⟨g3,2,none⟩ (.slice (some ⟨w5.heap.size,0,none⟩) 2 2)).frozen? ⟨w.heap.size,1,none⟩=false:=Q01 he9.res 1;have r2:((w5.alloc (.cells #[.int .i64 x5,.int .i64 1] 3)).setCell ⟨g3,2,none⟩ (.slice (some ⟨w5.heap.size,0,none⟩) 2 2)).cell? ⟨w.heap.size,2,none⟩=some (.slice none 0 0):=Q00 he9.res 2 _ rfl;have fr2:((w5.alloc (.cells #[.int .i64 x5,.int .i64 1] 3)).setCell ⟨g3,2,none⟩ (.slice (some ⟨w5.heap.size,0,none⟩) 2 2)).frozen? ⟨w.heap.size,2,none⟩=false:=Q01 he9.res 2;have HF:=Q02 (he9.done hk hs0)
    clear HJ4 he9 hae ha2 hac hau haf hag J5 y2 yc z2 zc z2a zca z2d zcd HPK HSM HN HCD HKD
    go_wp2
    refine bodyPost_ret (v:=.agg #[.int .i64 key,.slice o2 nb c2,.slice (some ⟨g,0,none⟩) 3 cQ]) (by simp [results,Tryz.results82,go_sem,r0,r1,r2]) rfl ⟨_,_,rfl,HF.out.1,HF.out.2.1,HF.out.2.2⟩
end Go.Proofs.YtpneolgdghbinaaGreat
