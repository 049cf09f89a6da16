/- A drawn packet, bent once in a while: fields of any size, a body of its own. -/
import Derived.Test.YtpneolgdghbinaaGreatQLearnsL23
namespace Go.Proofs.YtpneolgdghbinaaGreat
open Go.ChangeShapes Go.WideShapes Go.ChangeAt Go.RowKit Go.Joins
set_option linter.unusedVariables false
set_option linter.unusedSimpArgs false
set_option maxRecDepth 100000
set_option maxHeartbeats 40000000
def free5 (q:Nat) (w:World):Prop:=w.frozen? ⟨q,0,none⟩=false∧w.frozen? ⟨q,1,none⟩=false∧w.frozen? ⟨q,2,none⟩=false∧w.frozen? ⟨q,3,none⟩=false∧w.frozen? ⟨q,4,none⟩=false
theorem free5.other {k q:Nat} {w d:World} (h:free5 q w) (b:w.grownBy d (some k)) (c:q < w.heap.size) (a:q≠k):free5 q d:=
 ⟨(Q1g b c a).trans h.1,(Q1g b c a).trans h.2.1,(Q1g b c a).trans h.2.2.1,(Q1g b c a).trans h.2.2.2.1,(Q1g b c a).trans h.2.2.2.2⟩
theorem QfB (w:World) (a b f s:Int) (v:Value) (e:TypeId):free5 w.heap.size (w.alloc (.cells #[.int .i64 a,.int .i64 b,.int .i64 f,.int .i64 s,v] e)):=by
 unfold free5;simp
theorem boxed.put0 {k:Nat} {a b f s:Int} {v:Value} {w:World} (h:boxed k a b f s v w) (z:Int):boxed k z b f s v (w.setCell ⟨k,0,none⟩ (.int .i64 z)):=by
 exact ⟨World.cell?_setCell_same w _ _ h.1,(World.cell?_setCell_other w _ _ _ (by simp)).trans h.2.1,(World.cell?_setCell_other w _ _ _ (by simp)).trans h.2.2.1,(World.cell?_setCell_other w _ _ _ (by simp)).trans h.2.2.2.1,(World.cell?_setCell_other w _ _ _ (by simp)).trans h.2.2.2.2⟩
theorem boxed.put1 {k:Nat} {a b f s:Int} {v:Value} {w:World} (h:boxed k a b f s v w) (z:Int):boxed k a z f s v (w.setCell ⟨k,1,none⟩ (.int .i64 z)):=by
 exact ⟨(World.cell?_setCell_other w _ _ _ (by simp)).trans h.1,World.cell?_setCell_same w _ _ h.2.1,(World.cell?_setCell_other w _ _ _ (by simp)).trans h.2.2.1,(World.cell?_setCell_other w _ _ _ (by simp)).trans h.2.2.2.1,(World.cell?_setCell_other w _ _ _ (by simp)).trans h.2.2.2.2⟩
theorem boxed.put2 {k:Nat} {a b f s:Int} {v:Value} {w:World} (h:boxed k a b f s v w) (z:Int):boxed k a b z s v (w.setCell ⟨k,2,none⟩ (.int .i64 z)):=by
 exact ⟨(World.cell?_setCell_other w _ _ _ (by simp)).trans h.1,(World.cell?_setCell_other w _ _ _ (by simp)).trans h.2.1,World.cell?_setCell_same w _ _ h.2.2.1,(World.cell?_setCell_other w _ _ _ (by simp)).trans h.2.2.2.1,(World.cell?_setCell_other w _ _ _ (by simp)).trans h.2.2.2.2⟩
theorem boxed.put3 {k:Nat} {a b f s:Int} {v:Value} {w:World} (h:boxed k a b f s v w) (z:Int):boxed k a b f z v (w.setCell ⟨k,3,none⟩ (.int .i64 z)):=by
 exact ⟨(World.cell?_setCell_other w _ _ _ (by simp)).trans h.1,(World.cell?_setCell_other w _ _ _ (by simp)).trans h.2.1,(World.cell?_setCell_other w _ _ _ (by simp)).trans h.2.2.1,World.cell?_setCell_same w _ _ h.2.2.2.1,(World.cell?_setCell_other w _ _ _ (by simp)).trans h.2.2.2.2⟩
theorem QiT {w:World} {B n c:Nat} {o:Option Addr} {L:List Int} (h:ownB w B (.slice o n c) L):∀g,o=some ⟨g,0,none⟩→g < w.heap.size:=by
 intro g d;subst d;obtain ⟨_,h2⟩:=h
 rcases h2 with ⟨h2,_⟩|⟨j,cap,b,hv,f,i,r⟩
 ·simp at h2
 ·simp at hv
  obtain ⟨rfl,_⟩:=hv;obtain ⟨a,_⟩:=Array.getElem?_eq_some_iff.1 i;exact a
theorem Q9q {w:World} {B n c:Nat} {o:Option Addr} {L:List Int} (h:ownB w B (.slice o n c) L) (P q:Nat) (u:Value) (d:∀g,o=some ⟨g,0,none⟩→g < P):ownB (w.setCell ⟨P,q,none⟩ u) B (.slice o n c) L:=by
 obtain ⟨b,h2⟩:=h;refine ⟨b, ?_⟩
 rcases h2 with h2|⟨g,cap,a,hv,f,i,r⟩
 ·exact Or.inl h2
 ·have j:g < P:=d g (by simp at hv;exact hv.1)
  exact Or.inr ⟨g,cap,a,hv,f,by rw [Below.heap_setCell _ _ _ _ (by simp;omega)];exact i,r⟩
theorem Qd9 (k:Nat) (w:World) (hc:isCur k w) (hk:k < w.heap.size):
  Calls Tryz.prog 36 #[.pointer (some ⟨k,0,none⟩)] w fun e w'=> ∃(a b f s:Int) (v:Value) (L:List Int),e=.returned (pkt a b f s v)∧ownB w' w.heap.size v L∧isB L∧L.length≤2000∧isCur k w'∧w.grownBy w' (some k):=by
 have E5:=Q65 w 38;have af:=hc.alloc hk (.cells #[.int .i64 0,.int .i64 0,.int .i64 0,.int .i64 0,.slice none 0 0] 38);have G:=Q0t w (.cells #[.int .i64 0,.int .i64 0,.int .i64 0,.int .i64 0,.slice none 0 0] 38) k;go_enter Tryz.func36,Tryz.ntmps36;go_wp2_with fail;generalize hw0:w.alloc (.cells #[.int .i64 0,.int .i64 0,.int .i64 0,.int .i64 0,.slice none 0 0] 38)=w0 at *
 have u:w.heap.size < w0.heap.size:=by rw [←hw0];simp
 clear hw0
 have E:w.heap.size≠k:=by omega
 refine (Qda k _ af (by omega)).mono ?_;rintro e r ⟨a,b,f,s,v,L,rfl,hv,B,an,ag,Z⟩;have J:w.heap.size < r.heap.size:=Kbq u Z.size;obtain ⟨Y,X,am,_⟩:=hv.open;subst am;go_wp2_with fail;have BP0:=QaA r a b f s (.slice Y L.length X) 38;have FP0:=QfB r a b f s (.slice Y L.length X) 38;have ah:=ag.alloc (by omega) (.cells #[.int .i64 a,.int .i64 b,.int .i64 f,.int .i64 s,.slice Y L.length X] 38);have ab:=Q0t r (.cells #[.int .i64 a,.int .i64 b,.int .i64 f,.int .i64 s,.slice Y L.length X] 38) k
 have ai:ownB (r.alloc (.cells #[.int .i64 a,.int .i64 b,.int .i64 f,.int .i64 s,.slice Y L.length X] 38)) w0.heap.size (.slice Y L.length X) L:=hv.alloc _;have ae:=(E5.other Z u E).other ab J E;have U:w0.heap.size≤r.heap.size:=Z.size
 have V:k < w0.heap.size:=by omega
 have aa:=QiT hv;generalize hw2:r.alloc (.cells #[.int .i64 a,.int .i64 b,.int .i64 f,.int .i64 s,.slice Y L.length X] 38)=w2 at *
 have ac:r.heap.size < w2.heap.size:=by rw [←hw2];simp
 clear hw2;refine (Q1w k 6 _ ah (by omega) (by omega)).mono ?_;rintro e w3 ⟨x,rfl,j,H⟩;have BP:=BP0.other H ac (by omega);have FP:=FP0.other H ac (by omega);have d:=Q35 ai H V;have EE:=ae.other H (by omega) E;have g:=Q05 Z (Q05 ab H);have ad:=Kbq ac H.size;clear hc af ag ah hv ai BP0 FP0 E5 ae Z ab H
 cases x
 ·obtain ⟨y0,y1,y2,y3,y4⟩:=BP
  obtain ⟨⟨N,O,P,R,T⟩,g0,g1,g2,g3,g4⟩:=EE;go_wp2;refine bodyPost_ret (v:=pkt a b f s (.slice Y L.length X)) (by simp [results,Tryz.results36,go_sem,N,O,P,R,T]) rfl ⟨a,b,f,s,_,L,rfl, ?_,B,by omega, ?_, ?_⟩
  ·refine Q04 (base:=w0.heap.size) ?_ (Nat.le_of_lt u)
   repeat (refine ownsRow_setCell_below ?_ u _)
   exact d
  ·exact j.below ((Q0l (Q0l (Q0l (Q0l (Q0l (Below.refl w.heap.size w3) 0 _) 1 _) 2 _) 3 _) 4 _).mono hk)
  ·exact Q0F (Q05 G g) (Q0l (Q0l (Q0l (Q0l (Q0l (Below.refl w.heap.size w3) 0 _) 1 _) 2 _) 3 _) 4 _) (Kaq _)
 ·go_wp2_with fail
  refine (Q0p k 5 _ j (by omega) (by omega)).mono ?_;rintro e w4 ⟨n,rfl,aq,ar,C,I⟩;replace BP:=BP.other I ad (by omega);replace FP:=FP.other I ad (by omega);replace d:=Q35 d I V;replace EE:=EE.other I (by omega) E;replace g:=Q05 g I;have t:=Kbq ad I.size;clear j I
  have hn:n=0∨n=1∨n=2∨n=3∨n=4:=by omega
  rcases hn with h|h|h|h|h <;> subst h
  ·go_wp2_with fail
   refine (Q0P k w4.heap.size [-1,65535,65536] _ (C.alloc (by omega) _) (by simp) (by omega) (by simp) (by simp) ?hcl).mono ?_
   case hcl=>
    intro q hq
    have:q=0∨q=1∨q=2:=by simp at hq;omega
    rcases this with h|h|h <;> subst h <;> simp
   rintro e l ⟨q5,_,rfl,j,c⟩;generalize ([-1,65535,65536]:List Int).getD q5 0=z at *;replace c:=Q05 (Q0t w4 (.cells #[.int .i64 (-1),.int .i64 65535,.int .i64 65536] 3) k) c;replace BP:=BP.other c t (by omega);replace FP:=FP.other c t (by omega);replace d:=Q35 d c V;replace EE:=EE.other c (by omega) E;replace g:=Q05 g c;have y:=Kbq t c.size;clear C c;obtain ⟨q0,q1,q2,q3,q4⟩:=FP;have BP5:=BP;obtain ⟨x0,x1,x2,x3,x4⟩:=BP5;have i:Below r.heap.size l (l.setCell ⟨r.heap.size,0,none⟩ (.int .i64 z)):=Q0l (Below.refl _ _) 0 _;replace BP:=BP.put0 z
   replace d:=Q9q d r.heap.size 0 (.int .i64 z) aa;replace EE:=EE.kept i J;replace j:=j.below (i.mono (by omega));replace g:=Q0F g i U;clear i;obtain ⟨y0,y1,y2,y3,y4⟩:=BP;obtain ⟨⟨N,O,P,R,T⟩,g0,g1,g2,g3,g4⟩:=EE;go_wp2;refine bodyPost_ret (v:=pkt z b f s (.slice Y L.length X)) (by simp [results,Tryz.results36,go_sem,N,O,P,R,T]) rfl ⟨z,b,f,s,_,L,rfl, ?_,B,by omega, ?_, ?_⟩
   ·refine Q04 (base:=w0.heap.size) ?_ (Nat.le_of_lt u)
    repeat (refine ownsRow_setCell_below ?_ u _)
    exact d
   ·exact j.below ((Q0l (Q0l (Q0l (Q0l (Q0l (Below.refl w.heap.size (l.setCell ⟨r.heap.size,0,none⟩ (.int .i64 z))) 0 _) 1 _) 2 _) 3 _) 4 _).mono hk)
   ·exact Q0F (Q05 G g) (Q0l (Q0l (Q0l (Q0l (Q0l (Below.refl w.heap.size (l.setCell ⟨r.heap.size,0,none⟩ (.int .i64 z))) 0 _) 1 _) 2 _) 3 _) 4 _) (Kaq _)
  ·go_wp2_with fail
   refine (Q0P k w4.heap.size [-1,65535,65536] _ (C.alloc (by omega) _) (by simp) (by omega) (by simp) (by simp) ?hcl).mono ?_
   case hcl=>
    intro q hq
    have:q=0∨q=1∨q=2:=by simp at hq;omega
    rcases this with h|h|h <;> subst h <;> simp
   rintro e l ⟨q5,_,rfl,j,c⟩;generalize ([-1,65535,65536]:List Int).getD q5 0=z at *;replace c:=Q05 (Q0t w4 (.cells #[.int .i64 (-1),.int .i64 65535,.int .i64 65536] 3) k) c;replace BP:=BP.other c t (by omega);replace FP:=FP.other c t (by omega);replace d:=Q35 d c V;replace EE:=EE.other c (by omega) E;replace g:=Q05 g c;have y:=Kbq t c.size;clear C c;obtain ⟨q0,q1,q2,q3,q4⟩:=FP;have BP5:=BP;obtain ⟨x0,x1,x2,x3,x4⟩:=BP5;have i:Below r.heap.size l (l.setCell ⟨r.heap.size,1,none⟩ (.int .i64 z)):=Q0l (Below.refl _ _) 1 _;replace BP:=BP.put1 z
   replace d:=Q9q d r.heap.size 1 (.int .i64 z) aa;replace EE:=EE.kept i J;replace j:=j.below (i.mono (by omega));replace g:=Q0F g i U;clear i;obtain ⟨y0,y1,y2,y3,y4⟩:=BP;obtain ⟨⟨N,O,P,R,T⟩,g0,g1,g2,g3,g4⟩:=EE;go_wp2;refine bodyPost_ret (v:=pkt a z f s (.slice Y L.length X)) (by simp [results,Tryz.results36,go_sem,N,O,P,R,T]) rfl ⟨a,z,f,s,_,L,rfl, ?_,B,by omega, ?_, ?_⟩
   ·refine Q04 (base:=w0.heap.size) ?_ (Nat.le_of_lt u)
    repeat (refine ownsRow_setCell_below ?_ u _)
    exact d
   ·exact j.below ((Q0l (Q0l (Q0l (Q0l (Q0l (Below.refl w.heap.size (l.setCell ⟨r.heap.size,1,none⟩ (.int .i64 z))) 0 _) 1 _) 2 _) 3 _) 4 _).mono hk)
   ·exact Q0F (Q05 G g) (Q0l (Q0l (Q0l (Q0l (Q0l (Below.refl w.heap.size (l.setCell ⟨r.heap.size,1,none⟩ (.int .i64 z))) 0 _) 1 _) 2 _) 3 _) 4 _) (Kaq _)
  ·go_wp2_with fail
   refine (Q0P k w4.heap.size [-1,5,9,15,16,3] _ (C.alloc (by omega) _) (by simp) (by omega) (by simp) (by simp) ?hcl).mono ?_
   case hcl=>
    intro q hq
    have:q=0∨q=1∨q=2∨q=3∨q=4∨q=5:=by simp at hq;omega
    rcases this with h|h|h|h|h|h <;> subst h <;> simp
   rintro e l ⟨q5,_,rfl,j,c⟩;generalize ([-1,5,9,15,16,3]:List Int).getD q5 0=z at *;replace c:=Q05 (Q0t w4 (.cells #[.int .i64 (-1),.int .i64 5,.int .i64 9,.int .i64 15,.int .i64 16,.int .i64 3] 3) k) c;replace BP:=BP.other c t (by omega);replace FP:=FP.other c t (by omega);replace d:=Q35 d c V;replace EE:=EE.other c (by omega) E;replace g:=Q05 g c;have y:=Kbq t c.size;clear C c;obtain ⟨q0,q1,q2,q3,q4⟩:=FP;have BP5:=BP;obtain ⟨x0,x1,x2,x3,x4⟩:=BP5
   have i:Below r.heap.size l (l.setCell ⟨r.heap.size,2,none⟩ (.int .i64 z)):=Q0l (Below.refl _ _) 2 _;replace BP:=BP.put2 z;replace d:=Q9q d r.heap.size 2 (.int .i64 z) aa;replace EE:=EE.kept i J;replace j:=j.below (i.mono (by omega));replace g:=Q0F g i U;clear i;obtain ⟨y0,y1,y2,y3,y4⟩:=BP;obtain ⟨⟨N,O,P,R,T⟩,g0,g1,g2,g3,g4⟩:=EE;go_wp2;refine bodyPost_ret (v:=pkt a b z s (.slice Y L.length X)) (by simp [results,Tryz.results36,go_sem,N,O,P,R,T]) rfl ⟨a,b,z,s,_,L,rfl, ?_,B,by omega, ?_, ?_⟩
   ·refine Q04 (base:=w0.heap.size) ?_ (Nat.le_of_lt u)
    repeat (refine ownsRow_setCell_below ?_ u _)
    exact d
   ·exact j.below ((Q0l (Q0l (Q0l (Q0l (Q0l (Below.refl w.heap.size (l.setCell ⟨r.heap.size,2,none⟩ (.int .i64 z))) 0 _) 1 _) 2 _) 3 _) 4 _).mono hk)
   ·exact Q0F (Q05 G g) (Q0l (Q0l (Q0l (Q0l (Q0l (Below.refl w.heap.size (l.setCell ⟨r.heap.size,2,none⟩ (.int .i64 z))) 0 _) 1 _) 2 _) 3 _) 4 _) (Kaq _)
  ·go_wp2_with fail
   refine (Q0P k w4.heap.size [-1,65536] _ (C.alloc (by omega) _) (by simp) (by omega) (by simp) (by simp) ?hcl).mono ?_
   case hcl=>
    intro q hq
    have:q=0∨q=1:=by simp at hq;omega
    rcases this with h|h <;> subst h <;> simp
   rintro e l ⟨q5,_,rfl,j,c⟩;generalize ([-1,65536]:List Int).getD q5 0=z at *;replace c:=Q05 (Q0t w4 (.cells #[.int .i64 (-1),.int .i64 65536] 3) k) c;replace BP:=BP.other c t (by omega);replace FP:=FP.other c t (by omega);replace d:=Q35 d c V;replace EE:=EE.other c (by omega) E;replace g:=Q05 g c;have y:=Kbq t c.size;clear C c;obtain ⟨q0,q1,q2,q3,q4⟩:=FP;have BP5:=BP;obtain ⟨x0,x1,x2,x3,x4⟩:=BP5;have i:Below r.heap.size l (l.setCell ⟨r.heap.size,3,none⟩ (.int .i64 z)):=Q0l (Below.refl _ _) 3 _;replace BP:=BP.put3 z
   replace d:=Q9q d r.heap.size 3 (.int .i64 z) aa;replace EE:=EE.kept i J;replace j:=j.below (i.mono (by omega));replace g:=Q0F g i U;clear i;obtain ⟨y0,y1,y2,y3,y4⟩:=BP;obtain ⟨⟨N,O,P,R,T⟩,g0,g1,g2,g3,g4⟩:=EE;go_wp2;refine bodyPost_ret (v:=pkt a b f z (.slice Y L.length X)) (by simp [results,Tryz.results36,go_sem,N,O,P,R,T]) rfl ⟨a,b,f,z,_,L,rfl, ?_,B,by omega, ?_, ?_⟩
   ·refine Q04 (base:=w0.heap.size) ?_ (Nat.le_of_lt u)
    repeat (refine ownsRow_setCell_below ?_ u _)
    exact d
   ·exact j.below ((Q0l (Q0l (Q0l (Q0l (Q0l (Below.refl w.heap.size (l.setCell ⟨r.heap.size,3,none⟩ (.int .i64 z))) 0 _) 1 _) 2 _) 3 _) 4 _).mono hk)
   ·exact Q0F (Q05 G g) (Q0l (Q0l (Q0l (Q0l (Q0l (Below.refl w.heap.size (l.setCell ⟨r.heap.size,3,none⟩ (.int .i64 z))) 0 _) 1 _) 2 _) 3 _) 4 _) (Kaq _)
  ·obtain ⟨i0,hi,aj,ak,al⟩:=info_parts Qea
   go_wp2_with fail;refine (Q0p k 2 _ C (by omega) (by omega)).mono ?_;rintro e l ⟨m,rfl,ao,ap,j,c⟩;replace BP:=BP.other c t (by omega);replace FP:=FP.other c t (by omega);replace EE:=EE.other c (by omega) E;replace g:=Q05 g c;have y:=Kbq t c.size;clear C c d B
   have M:w.heap.size < l.heap.size:=by omega
   have hm:m=0∨m=1:=by omega
   rcases hm with h|h <;> subst h
   ·go_wp2_with (at_make;refine wpList_make_full _ rfl _ _ 22 rfl l.heap.size 5 i0 (.int .u8 0) 1 Tryz.underlying22 hi aj ak _ _ _ _ 16 rfl rfl rfl rfl ?b2 ?b3 ?b4 ?_)
    case b2=> rw [al];omega
    case b3=> unfold maxLen;omega
    case b4=> simp
    intro w6 F A;have i:Below l.heap.size l w6:=(Below.refl _ _).grown A (Kaq _) (fun k h=> by cases h)
    have d:ownB w6 l.heap.size (.slice (some ⟨l.heap.size,0,none⟩) 16 16) (List.replicate 16 0):=by
     simpa [ownB,toList_madeCells_one,Value.cells] using F
    have B:isB (List.replicate 16 (0:Int)):=by
     intro x hx;have:=List.eq_of_mem_replicate hx;omega
    have BP6:=BP.kept i y;have FP6:=(i.frozen (p:=⟨r.heap.size,4,none⟩) y).trans FP.2.2.2.2;have x4:=BP6.2.2.2.2;have D:=Q0l (i.mono (Nat.le_of_lt y)) 4 (.slice (some ⟨l.heap.size,0,none⟩) 16 16);replace BP:=BP6.put4 (v':=.slice (some ⟨l.heap.size,0,none⟩) 16 16);replace d:=ownsRow_setCell_below d (a:=⟨r.heap.size,4,none⟩) y (.slice (some ⟨l.heap.size,0,none⟩) 16 16);replace EE:=EE.kept D J;replace j:=j.below (D.mono (by omega));replace g:=Q0F g D U;clear F A i D BP6;obtain ⟨y0,y1,y2,y3,y4⟩:=BP;obtain ⟨⟨N,O,P,R,T⟩,g0,g1,g2,g3,g4⟩:=EE
    go_wp2;refine bodyPost_ret (v:=pkt a b f s (.slice (some ⟨l.heap.size,0,none⟩) 16 16)) (by simp [results,Tryz.results36,go_sem,N,O,P,R,T]) rfl ⟨a,b,f,s,_,List.replicate 16 0,rfl, ?_,B,by simp, ?_, ?_⟩
    ·refine Q04 (base:=l.heap.size) ?_ (Nat.le_of_lt M)
     repeat (refine ownsRow_setCell_below ?_ M _)
     exact d
    ·exact j.below ((Q0l (Q0l (Q0l (Q0l (Q0l (Below.refl w.heap.size (w6.setCell ⟨r.heap.size,4,none⟩ (.slice (some ⟨l.heap.size,0,none⟩) 16 16))) 0 _) 1 _) 2 _) 3 _) 4 _).mono hk)
    ·exact Q0F (Q05 G g) (Q0l (Q0l (Q0l (Q0l (Q0l (Below.refl w.heap.size (w6.setCell ⟨r.heap.size,4,none⟩ (.slice (some ⟨l.heap.size,0,none⟩) 16 16))) 0 _) 1 _) 2 _) 3 _) 4 _) (Kaq _)
   ·go_wp2_with (at_make;refine wpList_make_full _ rfl _ _ 22 rfl l.heap.size 5 i0 (.int .u8 0) 1 Tryz.underlying22 hi aj ak _ _ _ _ 17 rfl rfl rfl rfl ?b2 ?b3 ?b4 ?_)
    case b2=> rw [al];omega
    case b3=> unfold maxLen;omega
    case b4=> simp
    intro w6 F A;have i:Below l.heap.size l w6:=(Below.refl _ _).grown A (Kaq _) (fun k h=> by cases h)
    have d:ownB w6 l.heap.size (.slice (some ⟨l.heap.size,0,none⟩) 17 17) (List.replicate 17 0):=by
     simpa [ownB,toList_madeCells_one,Value.cells] using F
    have B:isB (List.replicate 17 (0:Int)):=by
     intro x hx;have:=List.eq_of_mem_replicate hx;omega
    have BP6:=BP.kept i y;have FP6:=(i.frozen (p:=⟨r.heap.size,4,none⟩) y).trans FP.2.2.2.2;have x4:=BP6.2.2.2.2;have D:=Q0l (i.mono (Nat.le_of_lt y)) 4 (.slice (some ⟨l.heap.size,0,none⟩) 17 17);replace BP:=BP6.put4 (v':=.slice (some ⟨l.heap.size,0,none⟩) 17 17);replace d:=ownsRow_setCell_below d (a:=⟨r.heap.size,4,none⟩) y (.slice (some ⟨l.heap.size,0,none⟩) 17 17);replace EE:=EE.kept D J;replace j:=j.below (D.mono (by omega));replace g:=Q0F g D U;clear F A i D BP6;obtain ⟨y0,y1,y2,y3,y4⟩:=BP;obtain ⟨⟨N,O,P,R,T⟩,g0,g1,g2,g3,g4⟩:=EE
    go_wp2;refine bodyPost_ret (v:=pkt a b f s (.slice (some ⟨l.heap.size,0,none⟩) 17 17)) (by simp [results,Tryz.results36,go_sem,N,O,P,R,T]) rfl ⟨a,b,f,s,_,List.replicate 17 0,rfl, ?_,B,by simp, ?_, ?_⟩
    ·refine Q04 (base:=l.heap.size) ?_ (Nat.le_of_lt M)
     repeat (refine ownsRow_setCell_below ?_ M _)
     exact d
    ·exact j.below ((Q0l (Q0l (Q0l (Q0l (Q0l (Below.refl w.heap.size (w6.setCell ⟨r.heap.size,4,none⟩ (.slice (some ⟨l.heap.size,0,none⟩) 17 17))) 0 _) 1 _) 2 _) 3 _) 4 _).mono hk)
    ·exact Q0F (Q05 G g) (Q0l (Q0l (Q0l (Q0l (Q0l (Below.refl w.heap.size (w6.setCell ⟨r.heap.size,4,none⟩ (.slice (some ⟨l.heap.size,0,none⟩) 17 17))) 0 _) 1 _) 2 _) 3 _) 4 _) (Kaq _)
end Go.Proofs.YtpneolgdghbinaaGreat
