/- A drawn packet: fields of any size, a body of at most four bytes that is its own. -/
import Derived.Deep.RegionLaw
import Derived.Test.YtljogkoaaidlcaaQLoadsL20
namespace Go.Proofs.Ytljogkoaaidlcaa
open Go.ChangeShapes Go.WideShapes Go.ChangeAt Go.RowKit Go.Joins
set_option linter.unusedVariables false
set_option linter.unusedSimpArgs false
set_option maxRecDepth 100000
set_option maxHeartbeats 40000000
theorem boxed.other {k q:Nat} {a b f s:Int} {v:Value} {w w':World} (h:boxed q a b f s v w) (hg:w.grownBy w' (some k)) (hq:q < w.heap.size) (hne:q≠k):boxed q a b f s v w':=by
 have e:∀o,w'.cell? ⟨q,o,none⟩=w.cell? ⟨q,o,none⟩:=fun o=> Q0G hg hq hne
 exact ⟨(e 0).trans h.1,(e 1).trans h.2.1,(e 2).trans h.2.2.1,(e 3).trans h.2.2.2.1,(e 4).trans h.2.2.2.2⟩
theorem Q18 {k q o:Nat} {w w':World} (hg:w.grownBy w' (some k)) (hq:q < w.heap.size) (hne:q≠k):w'.frozen? ⟨q,o,none⟩=w.frozen? ⟨q,o,none⟩:=
 World.frozen?_of_block (w:=w) (hg.block q hq (by simp [hne]))
theorem empty5.other {k q:Nat} {w w':World} (h:empty5 q w) (hg:w.grownBy w' (some k)) (hq:q < w.heap.size) (hne:q≠k):empty5 q w':=
 ⟨h.1.other hg hq hne,(Q18 hg hq hne).trans h.2.1,(Q18 hg hq hne).trans h.2.2.1,(Q18 hg hq hne).trans h.2.2.2.1,(Q18 hg hq hne).trans h.2.2.2.2.1,(Q18 hg hq hne).trans h.2.2.2.2.2⟩
theorem boxed.put4 {k:Nat} {a b f s:Int} {v v':Value} {w:World} (h:boxed k a b f s v w):boxed k a b f s v' (w.setCell ⟨k,4,none⟩ v'):=by
 refine ⟨?_, ?_, ?_, ?_,World.cell?_setCell_same w _ _ h.2.2.2.2⟩
 ·exact (World.cell?_setCell_other w _ _ _ (by simp)).trans h.1
 ·exact (World.cell?_setCell_other w _ _ _ (by simp)).trans h.2.1
 ·exact (World.cell?_setCell_other w _ _ _ (by simp)).trans h.2.2.1
 ·exact (World.cell?_setCell_other w _ _ _ (by simp)).trans h.2.2.2.1
theorem isCur.drew {k:Nat} {w:World} (h:isCur k w):isCur k w.drew:=h.below (Below.drew (Below.refl _ _))
theorem Q8k (n:Int) (h0:0≤n) (h1:n≤255):IntKind.u8.wrap n=n:=by
 simp [IntKind.wrap,IntKind.bits,IntKind.signed];omega
theorem Q7A {L:List Int} {x:Int} (h:isB L) (hx:0≤x∧x≤255):isB (L++[x]):=by
 intro z hz
 rcases List.mem_append.1 hz with h1|h1
 ·exact h z h1
 ·have:z=x:=by simpa using h1
  omega
theorem Q0q {w w1 w2:World} {k B:Nat} (h:w.grownBy w1 (some k)) (hb:Below B w1 w2) (hB:w.heap.size≤B):w.grownBy w2 (some k):=
 ⟨hb.os.trans h.os,hb.tape.trans h.tape,hb.output.trans h.output,Kdq h.size hb.size,fun j hj hne=> (hb.block j (by omega)).trans (h.block j hj hne)⟩
theorem Q0x {P:Nat} {w w':World} (h:Below P w w') (o:Nat) (v:Value):Below P w (w'.setCell ⟨P,o,none⟩ v):=
 Below.setCell (p:=⟨P,o,none⟩) h (Kaq P) v
theorem Q7I {B R P k:Nat} {w0 w8:World} {a b f s:Int} {v v8:Value} {M:List Int} (hbp:boxed P a b f s v w8) (hfp:w8.frozen? ⟨P,4,none⟩=false) (hv8:ownB w8 B v8 M) (hE:empty5 R w8) (hc:isCur k w8) (hg:w0.grownBy w8 (some k)) (h0:w0.heap.size≤P) (hPB:P < B) (hkP:k < P) (hRP:R < P) (hs:B≤w8.heap.size):
  boxed P a b f s v8 (w8.setCell ⟨P,4,none⟩ v8)∧(w8.setCell ⟨P,4,none⟩ v8).frozen? ⟨P,4,none⟩=false∧ownB (w8.setCell ⟨P,4,none⟩ v8) B v8 M∧isCur k (w8.setCell ⟨P,4,none⟩ v8)∧w0.grownBy (w8.setCell ⟨P,4,none⟩ v8) (some k)∧empty5 R (w8.setCell ⟨P,4,none⟩ v8)∧B≤(w8.setCell ⟨P,4,none⟩ v8).heap.size:=by
 have hb:Below P w8 (w8.setCell ⟨P,4,none⟩ v8):=Q0x (Below.refl P w8) 4 v8
 exact ⟨hbp.put4,(World.frozen?_setCell _ _ _ _).trans hfp,ownsRow_setCell_below hv8 hPB _,hc.below (hb.mono hkP),Q0q hg hb h0,hE.kept hb hRP,Kdq hs hb.size⟩
def Q6Y (a b f s:Int):Prop:=(1≤a∧a≤3)∧(80≤b∧b≤82)∧f∈([0,1,2,6,10]:List Int)∧0≤s∧s≤65535
theorem Q5q (k:Nat) (w:World) (hc:isCur k w) (hk:k < w.heap.size):
  Calls Try.prog 73 #[.pointer (some ⟨k,0,none⟩)] w fun e w'=> ∃(a b f s:Int) (v:Value) (L:List Int),e=.returned (pkt a b f s v)∧Q6Y a b f s∧ownB w' w.heap.size v L∧isB L∧L.length≤4∧isCur k w'∧w.grownBy w' (some k):=by
 have E5:=Q6m w 31
 have hc0:=hc.alloc hk (.cells #[.int .i64 0,.int .i64 0,.int .i64 0,.int .i64 0,.slice none 0 0] 31)
 have hg0:=Q0Y w (.cells #[.int .i64 0,.int .i64 0,.int .i64 0,.int .i64 0,.slice none 0 0] 31) k
 go_enter Try.func73,Try.ntmps73
 go_wp2_with fail
 generalize hw0:w.alloc (.cells #[.int .i64 0,.int .i64 0,.int .i64 0,.int .i64 0,.slice none 0 0] 31)=w0 at *
 have hs0:w.heap.size < w0.heap.size:=by rw [←hw0];simp
 clear hw0
 have hkR:w.heap.size≠k:=by omega
 refine (Q19 k _ hc0 (by omega)).mono ?_
 rintro e w1 ⟨a,b,rfl,hra,hrb,hc1,hg1⟩
 have HRA:=Q00 (And.intro hra hrb)
 clear hra hrb
 have hs1:w.heap.size < w1.heap.size:=Kbq hs0 hg1.size
 have hc1':=hc1.alloc (by omega) (.cells #[.int .i64 1,.int .i64 1,.int .i64 2,.int .i64 2,.int .i64 2,.int .i64 6,.int .i64 10,.int .i64 0] 3)
 have hg1':=Q0d hg1 (Q0Y w1 (.cells #[.int .i64 1,.int .i64 1,.int .i64 2,.int .i64 2,.int .i64 2,.int .i64 6,.int .i64 10,.int .i64 0] 3) k)
 go_wp2_with fail
 refine (Q1i k w1.heap.size [1,1,2,2,2,6,10,0] _ hc1' (by simp) (by omega) (by simp) (by simp) ?hcl).mono ?_
 case hcl=>
  intro q hq
  have:q=0∨q=1∨q=2∨q=3∨q=4∨q=5∨q=6∨q=7:=by simp at hq;omega
  rcases this with h|h|h|h|h|h|h|h <;> subst h <;> simp
 rintro e w2 ⟨q2,hq2,rfl,hc2,hg2⟩
 have HRF:Hid (([1,1,2,2,2,6,10,0]:List Int).getD q2 0∈([0,1,2,6,10]:List Int)):=by
  have:q2=0∨q2=1∨q2=2∨q2=3∨q2=4∨q2=5∨q2=6∨q2=7:=by simp at hq2;omega
  unfold Hid
  rcases this with h|h|h|h|h|h|h|h <;> subst h <;> decide
 clear hq2
 generalize ([1,1,2,2,2,6,10,0]:List Int).getD q2 0=f at *
 have hg02:=Q0d hg1' hg2
 have hs2:w.heap.size < w2.heap.size:=Kbq hs0 hg02.size
 go_wp2_with fail
 refine (Q0h k 999 _ hc2 (by omega) (by omega)).mono ?_
 rintro e w3 ⟨x3,rfl,hx30,hx31,hc3,hg3⟩
 have HX3:=Q00 (And.intro hx30 hx31)
 clear hx30 hx31
 have hg03:=Q0d hg02 hg3
 have hs3:w.heap.size < w3.heap.size:=Kbq hs0 hg03.size
 have hc3':=hc3.alloc (by omega) (.cells #[.int .i64 0,.int .i64 1,.int .i64 65535,.int .i64 x3] 3)
 have hg3':=Q0d hg03 (Q0Y w3 (.cells #[.int .i64 0,.int .i64 1,.int .i64 65535,.int .i64 x3] 3) k)
 go_wp2_with fail
 refine (Q1i k w3.heap.size [0,1,65535,x3] _ hc3' (by simp) (by omega) (by simp) (by simp) ?hcm).mono ?_
 case hcm=>
  intro q hq
  have:q=0∨q=1∨q=2∨q=3:=by simp at hq;omega
  rcases this with h|h|h|h <;> subst h <;> simp
 rintro e w4 ⟨q4,hq4,rfl,hc4,hg4⟩
 have HRS:Hid (0≤([0,1,65535,x3]:List Int).getD q4 0∧([0,1,65535,x3]:List Int).getD q4 0≤65535):=by
  have:q4=0∨q4=1∨q4=2∨q4=3:=by simp at hq4;omega
  have h3:=HX3.out
  unfold Hid
  rcases this with h|h|h|h <;> subst h <;> simp <;> omega
 clear hq4 HX3
 generalize ([0,1,65535,x3]:List Int).getD q4 0=s at *
 have hg04:=Q0d hg3' hg4
 have hs4:w.heap.size < w4.heap.size:=Kbq hs0 hg04.size
 have hW0:w0.heap.size≤w4.heap.size:=hg04.size
 have E54:=E5.other hg04 hs0 hkR
 have BP:=Q6Q w4 a b f s (.slice none 0 0) 31
 have FP:(w4.alloc (.cells #[.int .i64 a,.int .i64 b,.int .i64 f,.int .i64 s,.slice none 0 0] 31)).frozen? ⟨w4.heap.size,4,none⟩=false:=by simp
 have hc5:=hc4.alloc (by omega) (.cells #[.int .i64 a,.int .i64 b,.int .i64 f,.int .i64 s,.slice none 0 0] 31)
 have hg5:=Q0Y w4 (.cells #[.int .i64 a,.int .i64 b,.int .i64 f,.int .i64 s,.slice none 0 0] 31) k
 clear hc hc0 hc1 hc1' hc2 hc3 hc3' hg1 hg1' hg2 hg3 hg3' hg02 hg03 hg4 E5
 go_wp2_with fail
 generalize hw5:w4.alloc (.cells #[.int .i64 a,.int .i64 b,.int .i64 f,.int .i64 s,.slice none 0 0] 31)=w5 at *
 have hs5:w4.heap.size < w5.heap.size:=by rw [←hw5];simp
 clear hw5
 refine (Q0h k 5 _ hc5 (by omega) (by omega)).mono ?_
 rintro e w6 ⟨n,rfl,hn0,hn1,hc6,hg6⟩
 have hg06:=Q0d hg04 (Q0d hg5 hg6)
 have BP6:=BP.other hg6 hs5 (by omega)
 have FP6:=(Q18 (o:=4) hg6 hs5 (by omega:w4.heap.size≠k)).trans FP
 have E56:=E54.other (Q0d hg5 hg6) hs4 hkR
 have hs6:w5.heap.size≤w6.heap.size:=hg6.size
 have H6:=Q00 (show isCur k w6∧w0.grownBy w6 (some k)∧boxed w4.heap.size a b f s (.slice none 0 0) w6∧w6.frozen? ⟨w4.heap.size,4,none⟩=false∧empty5 w.heap.size w6 from ⟨hc6,hg06,BP6,FP6,E56⟩)
 clear hc5 hc6 hg5 hg6 hg04 hg06 BP BP6 FP FP6 E54 E56 hc4
 go_wp2
 go_loopw [5] (fun i wr=> ∃(j:Nat) (L:List Int) (v:Value),(j:Int)≤n∧i=.int .i64 j∧boxed w4.heap.size a b f s v wr∧wr.frozen? ⟨w4.heap.size,4,none⟩=false∧ownB wr w5.heap.size v L∧L.length=j∧isB L∧isCur k wr∧w0.grownBy wr (some k)∧empty5 w.heap.size wr∧w5.heap.size≤wr.heap.size)
  (fun i _=> n.toNat - (intOf i).toNat)
 case atStart=> exact ⟨0,[],_,hn0,rfl,H6.out.2.2.1,H6.out.2.2.2.1,World.ownsRow_nil _ _ _ _,rfl,fun x hx=> (by cases hx),H6.out.1,H6.out.2.1,H6.out.2.2.2.2,hs6⟩
 case round=>
  obtain ⟨j,L,v,hj,rfl,hbp,hfp,hv,hL,hLb,hcr,hgr,hE,hsr⟩:=hrel
  have HL:=Q00 hL
  have hLn:L.length≤4:=by omega
  clear hL H6
  obtain ⟨ov,cv,hve,_⟩:=hv.open
  subst hve
  have hk5:k < w5.heap.size:=by omega
  by_cases hlt:(j:Int) < n
  ·have y4:=hbp.2.2.2.2
   go_wp2
   go_region_law (first|(go_simp;go_at_call 70;refine (Q1k k _ ?_).mono ?_;exact hcr.drew;rintro e w7 ⟨x,rfl,hx0,hx1,hc7,hg7⟩;replace hg7:wr.grownBy w7 (some k):=⟨hg7.os,hg7.tape,hg7.output,hg7.size,hg7.block⟩;have hv7:=Q50 hv hg7 hk5;have bp7:=hbp.other hg7 (by omega) (by omega);have z4:=bp7.2.2.2.2;have hs7:w5.heap.size≤w7.heap.size:=Kdq hsr hg7.size;have hwx:=Q8k x hx0 hx1;have z4a:∀O,(w7.alloc O).cell? ⟨w4.heap.size,4,none⟩=some (.slice ov L.length cv):=(fun O=> (bp7.kept ((Below.refl w7.heap.size w7).alloc (Kaq _) O) (by omega)).2.2.2.2);dsimp only)|(refine Q32 rfl (.tmp 25) (.tmp 29) rfl w5.heap.size (.slice ov L.length cv) L rfl (hv7.alloc _) (some ⟨w7.heap.size,0,none⟩) 1 [x] 1 rfl rfl (by simp) (Q8t w7 x _) (by simp;omega) (by simp;omega) ?_;intro v8 w8 hv8 hb8;obtain ⟨o8,c8,e8,_⟩:=hv8.open;rw [e8] at hv8 ⊢;replace hb8:Below w5.heap.size w7 w8:=((Below.refl _ _).alloc hs7 _).trans hb8;have bp8:=bp7.kept hb8 hs5;have t4:=bp8.2.2.2.2;have fp8:=(hb8.frozen (p:=⟨w4.heap.size,4,none⟩) hs5).trans ((Q18 (o:=4) hg7 (by omega) (by omega:w4.heap.size≠k)).trans hfp)))
   all_goals (
    have hc8:=hc7.below (hb8.mono hk5)
    have hg8:w0.grownBy w8 (some k):=Q0q (Q0d hgr hg7) hb8 (by omega)
    have hE8:=(hE.other hg7 (by omega) hkR).kept hb8 (by omega:w.heap.size < w5.heap.size)
    have R:=Q00 (Q7I (v8:=.slice o8 (L.length+1) c8) (M:=L++[x]) bp8 fp8 (by simpa using hv8) hE8 hc8 hg8 hW0 hs5 (by omega) hs4 (Kdq hs7 hb8.size))
    have hLx:=Q00 (Q7A hLb ⟨hx0,hx1⟩)
    clear hv8 hb8 bp8 t4 fp8 hc8 hg8 hE8 hc7 hg7 hv7 bp7 z4 z4a hwx hcr hgr hE hbp hfp hv y4
    go_wp2
    go_roundw
    case rel=> exact ⟨j+1,L++[x],_,by omega,by go_num,R.out.1,R.out.2.1,R.out.2.2.1,by have:=HL.out;simp;omega,hLx.out,R.out.2.2.2.1,R.out.2.2.2.2.1,R.out.2.2.2.2.2.1,R.out.2.2.2.2.2.2⟩
    case measure=> simp [intOf];omega)
  ·obtain ⟨y0,y1,y2,y3,y4⟩:=hbp
   obtain ⟨⟨d0,d1,d2,d3,d4⟩,g0,g1,g2,g3,g4⟩:=hE
   have hRw5:w.heap.size < w5.heap.size:=by omega
   go_wp2
   refine bodyPost_ret (v:=pkt a b f s (.slice ov L.length cv)) (by simp [results,Try.results73,go_sem,d0,d1,d2,d3,d4]) rfl ⟨a,b,f,s,_,rfl,⟨HRA.out.1,HRA.out.2,HRF.out,HRS.out⟩,L, ?_,hLb,hLn, ?_, ?_⟩
   ·refine Q0Q (base:=w5.heap.size) ?_ (Nat.le_of_lt hRw5)
    repeat (refine ownsRow_setCell_below ?_ hRw5 _)
    exact hv
   ·exact hcr.below ((Q0x (Q0x (Q0x (Q0x (Q0x (Below.refl w.heap.size wr) 0 _) 1 _) 2 _) 3 _) 4 _).mono hk)
   ·exact Q0q (Q0d hg0 hgr) (Q0x (Q0x (Q0x (Q0x (Q0x (Below.refl w.heap.size wr) 0 _) 1 _) 2 _) 3 _) 4 _) (Kaq _)
end Go.Proofs.Ytljogkoaaidlcaa
