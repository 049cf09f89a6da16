/- Several texts in one: SDraw4, SDraw5. -/
import Derived.Test.YtpneolgdghbinaaGreatQSends23
namespace Go.Proofs.YtpneolgdghbinaaGreat
open Go.ChangeShapes Go.WideShapes Go.ChangeAt Go.RowKit Go.Joins
set_option linter.unusedVariables false
set_option linter.unusedSimpArgs false
set_option maxRecDepth 100000
set_option maxHeartbeats 40000000
theorem boxed.other {k q:Nat} {a b f s:Int} {v:Value} {w w':World} (h:boxed q a b f s v w) (hg:w.grownBy w' (some k)) (hq:q < w.heap.size) (hne:q≠k):boxed q a b f s v w':=by
 have e:∀o,w'.cell? ⟨q,o,none⟩=w.cell? ⟨q,o,none⟩:=fun o=> Q3l hg hq hne
 exact ⟨(e 0).trans h.1,(e 1).trans h.2.1,(e 2).trans h.2.2.1,(e 3).trans h.2.2.2.1,(e 4).trans h.2.2.2.2⟩
theorem Q14 {k q o:Nat} {w w':World} (hg:w.grownBy w' (some k)) (hq:q < w.heap.size) (hne:q≠k):w'.frozen? ⟨q,o,none⟩=w.frozen? ⟨q,o,none⟩:=
 World.frozen?_of_block (w:=w) (hg.block q hq (by simp [hne]))
theorem empty5.other {k q:Nat} {w w':World} (h:empty5 q w) (hg:w.grownBy w' (some k)) (hq:q < w.heap.size) (hne:q≠k):empty5 q w':=
 ⟨h.1.other hg hq hne,(Q14 hg hq hne).trans h.2.1,(Q14 hg hq hne).trans h.2.2.1,(Q14 hg hq hne).trans h.2.2.2.1,(Q14 hg hq hne).trans h.2.2.2.2.1,(Q14 hg hq hne).trans h.2.2.2.2.2⟩
theorem boxed.put4 {k:Nat} {a b f s:Int} {v v':Value} {w:World} (h:boxed k a b f s v w):boxed k a b f s v' (w.setCell ⟨k,4,none⟩ v'):=by
 refine ⟨?_, ?_, ?_, ?_,World.cell?_setCell_same w _ _ h.2.2.2.2⟩
 ·exact (World.cell?_setCell_other w _ _ _ (by simp)).trans h.1
 ·exact (World.cell?_setCell_other w _ _ _ (by simp)).trans h.2.1
 ·exact (World.cell?_setCell_other w _ _ _ (by simp)).trans h.2.2.1
 ·exact (World.cell?_setCell_other w _ _ _ (by simp)).trans h.2.2.2.1
theorem isCur.drew {k:Nat} {w:World} (h:isCur k w):isCur k w.drew:=h.below (Below.drew (Below.refl _ _))
theorem Qh2 (n:Int) (h0:0≤n) (h1:n≤255):IntKind.u8.wrap n=n:=by
 simp [IntKind.wrap,IntKind.bits,IntKind.signed];omega
theorem QfV {L:List Int} {x:Int} (h:isB L) (hx:0≤x∧x≤255):isB (L++[x]):=by
 intro z hz
 rcases List.mem_append.1 hz with h1|h1
 ·exact h z h1
 ·have:z=x:=by simpa using h1
  omega
theorem Q0B {w w1 w2:World} {k B:Nat} (h:w.grownBy w1 (some k)) (hb:Below B w1 w2) (hB:w.heap.size≤B):w.grownBy w2 (some k):=
 ⟨hb.os.trans h.os,hb.tape.trans h.tape,hb.output.trans h.output,Kdq h.size hb.size,fun j hj hne=> (hb.block j (by omega)).trans (h.block j hj hne)⟩
theorem Q0g {P:Nat} {w w':World} (h:Below P w w') (o:Nat) (v:Value):Below P w (w'.setCell ⟨P,o,none⟩ v):=
 Below.setCell (p:=⟨P,o,none⟩) h (Kaq P) v
theorem QeO {B R P k:Nat} {w0 w8:World} {a b f s:Int} {v v8:Value} {M:List Int} (hbp:boxed P a b f s v w8) (hfp:w8.frozen? ⟨P,4,none⟩=false) (hv8:ownB w8 B v8 M) (hE:empty5 R w8) (hc:isCur k w8) (hg:w0.grownBy w8 (some k)) (h0:w0.heap.size≤P) (hPB:P < B) (hkP:k < P) (hRP:R < P) (hs:B≤w8.heap.size):
  boxed P a b f s v8 (w8.setCell ⟨P,4,none⟩ v8)∧(w8.setCell ⟨P,4,none⟩ v8).frozen? ⟨P,4,none⟩=false∧ownB (w8.setCell ⟨P,4,none⟩ v8) B v8 M∧isCur k (w8.setCell ⟨P,4,none⟩ v8)∧w0.grownBy (w8.setCell ⟨P,4,none⟩ v8) (some k)∧empty5 R (w8.setCell ⟨P,4,none⟩ v8)∧B≤(w8.setCell ⟨P,4,none⟩ v8).heap.size:=by
 have hb:Below P w8 (w8.setCell ⟨P,4,none⟩ v8):=Q0g (Below.refl P w8) 4 v8
 exact ⟨hbp.put4,(World.frozen?_setCell _ _ _ _).trans hfp,ownsRow_setCell_below hv8 hPB _,hc.below (hb.mono hkP),Q0B hg hb h0,hE.kept hb hRP,Kdq hs hb.size⟩
def QhB (a b f s:Int):Prop:=(1≤a∧a≤3)∧(80≤b∧b≤82)∧f∈([0,1,2,6,10]:List Int)∧0≤s∧s≤65535
theorem QaD (k:Nat) (w:World) (hc:isCur k w) (hk:k < w.heap.size):
  Calls Tryz.prog 84 #[.pointer (some ⟨k,0,none⟩)] w fun e w'=> ∃(a b f s:Int) (v:Value) (L:List Int),e=.returned (pkt a b f s v)∧QhB a b f s∧ownB w' w.heap.size v L∧isB L∧L.length≤4∧isCur k w'∧w.grownBy w' (some k):=by
 have E5:=Q5D w 38;have hc0:=hc.alloc hk (.cells #[.int .i64 0,.int .i64 0,.int .i64 0,.int .i64 0,.slice none 0 0] 38);have hg0:=Q0r w (.cells #[.int .i64 0,.int .i64 0,.int .i64 0,.int .i64 0,.slice none 0 0] 38) k
 go_enter Tryz.func84,Tryz.ntmps84
 go_wp2_with fail
 generalize hw0:w.alloc (.cells #[.int .i64 0,.int .i64 0,.int .i64 0,.int .i64 0,.slice none 0 0] 38)=w0 at *
 have hs0:w.heap.size < w0.heap.size:=by rw [←hw0];simp
 clear hw0
 have hkR:w.heap.size≠k:=by omega
 refine (Q1L k _ hc0 (by omega)).mono ?_
 rintro e w1 ⟨a,b,rfl,hra,hrb,hc1,hg1⟩
 have HRA:=Q02 (And.intro hra hrb);clear hra hrb;have hs1:w.heap.size < w1.heap.size:=Kbq hs0 hg1.size
 have hc1':=hc1.alloc (by omega) (.cells #[.int .i64 1,.int .i64 1,.int .i64 2,.int .i64 2,.int .i64 2,.int .i64 6,.int .i64 10,.int .i64 0] 3)
 have hg1':=Q05 hg1 (Q0r w1 (.cells #[.int .i64 1,.int .i64 1,.int .i64 2,.int .i64 2,.int .i64 2,.int .i64 6,.int .i64 10,.int .i64 0] 3) k)
 go_wp2_with fail
 refine (Q0H k w1.heap.size [1,1,2,2,2,6,10,0] _ hc1' (by simp) (by omega) (by simp) (by simp) ?hcl).mono ?_
 case hcl=>
  intro q hq
  have:q=0∨q=1∨q=2∨q=3∨q=4∨q=5∨q=6∨q=7:=by simp at hq;omega
  rcases this with h|h|h|h|h|h|h|h <;> subst h <;> simp
 rintro e w2 ⟨q2,hq2,rfl,hc2,hg2⟩
 have HRF:Hid (([1,1,2,2,2,6,10,0]:List Int).getD q2 0∈([0,1,2,6,10]:List Int)):=by
  have:q2=0∨q2=1∨q2=2∨q2=3∨q2=4∨q2=5∨q2=6∨q2=7:=by simp at hq2;omega
  unfold Hid
  rcases this with h|h|h|h|h|h|h|h <;> subst h <;> decide
 clear hq2;generalize ([1,1,2,2,2,6,10,0]:List Int).getD q2 0=f at *;have hg02:=Q05 hg1' hg2;have hs2:w.heap.size < w2.heap.size:=Kbq hs0 hg02.size
 go_wp2_with fail
 refine (Q0m k 999 _ hc2 (by omega) (by omega)).mono ?_
 rintro e w3 ⟨x3,rfl,hx30,hx31,hc3,hg3⟩
 have HX3:=Q02 (And.intro hx30 hx31);clear hx30 hx31;have hg03:=Q05 hg02 hg3;have hs3:w.heap.size < w3.heap.size:=Kbq hs0 hg03.size
 have hc3':=hc3.alloc (by omega) (.cells #[.int .i64 0,.int .i64 1,.int .i64 65535,.int .i64 x3] 3)
 have hg3':=Q05 hg03 (Q0r w3 (.cells #[.int .i64 0,.int .i64 1,.int .i64 65535,.int .i64 x3] 3) k)
 go_wp2_with fail
 refine (Q0H k w3.heap.size [0,1,65535,x3] _ hc3' (by simp) (by omega) (by simp) (by simp) ?hcm).mono ?_
 case hcm=>
  intro q hq
  have:q=0∨q=1∨q=2∨q=3:=by simp at hq;omega
  rcases this with h|h|h|h <;> subst h <;> simp
 rintro e w4 ⟨q4,hq4,rfl,hc4,hg4⟩
 have HRS:Hid (0≤([0,1,65535,x3]:List Int).getD q4 0∧([0,1,65535,x3]:List Int).getD q4 0≤65535):=by
  have:q4=0∨q4=1∨q4=2∨q4=3:=by simp at hq4;omega
  have h3:=HX3.out
  unfold Hid
  rcases this with h|h|h|h <;> subst h <;> simp <;> omega
 clear hq4 HX3;generalize ([0,1,65535,x3]:List Int).getD q4 0=s at *;have hg04:=Q05 hg3' hg4;have hs4:w.heap.size < w4.heap.size:=Kbq hs0 hg04.size;have hW0:w0.heap.size≤w4.heap.size:=hg04.size;have E54:=E5.other hg04 hs0 hkR;have BP:=Q9E w4 a b f s (.slice none 0 0) 38
 have FP:(w4.alloc (.cells #[.int .i64 a,.int .i64 b,.int .i64 f,.int .i64 s,.slice none 0 0] 38)).frozen? ⟨w4.heap.size,4,none⟩=false:=by simp
 have hc5:=hc4.alloc (by omega) (.cells #[.int .i64 a,.int .i64 b,.int .i64 f,.int .i64 s,.slice none 0 0] 38)
 have hg5:=Q0r w4 (.cells #[.int .i64 a,.int .i64 b,.int .i64 f,.int .i64 s,.slice none 0 0] 38) k;clear hc hc0 hc1 hc1' hc2 hc3 hc3' hg1 hg1' hg2 hg3 hg3' hg02 hg03 hg4 E5
 go_wp2_with fail
 generalize hw5:w4.alloc (.cells #[.int .i64 a,.int .i64 b,.int .i64 f,.int .i64 s,.slice none 0 0] 38)=w5 at *
 have hs5:w4.heap.size < w5.heap.size:=by rw [←hw5];simp
 clear hw5
 refine (Q0m k 5 _ hc5 (by omega) (by omega)).mono ?_
 rintro e w6 ⟨n,rfl,hn0,hn1,hc6,hg6⟩
 have hg06:=Q05 hg04 (Q05 hg5 hg6)
 have BP6:=BP.other hg6 hs5 (by omega)
 have FP6:=(Q14 (o:=4) hg6 hs5 (by omega:w4.heap.size≠k)).trans FP
 have E56:=E54.other (Q05 hg5 hg6) hs4 hkR;have hs6:w5.heap.size≤w6.heap.size:=hg6.size;have H6:=Q02 (show isCur k w6∧w0.grownBy w6 (some k)∧boxed w4.heap.size a b f s (.slice none 0 0) w6∧w6.frozen? ⟨w4.heap.size,4,none⟩=false∧empty5 w.heap.size w6 from ⟨hc6,hg06,BP6,FP6,E56⟩);clear hc5 hc6 hg5 hg6 hg04 hg06 BP BP6 FP FP6 E54 E56 hc4
 go_wp2
 go_loopw [5] (fun i wr=> ∃(j:Nat) (L:List Int) (v:Value),(j:Int)≤n∧i=.int .i64 j∧boxed w4.heap.size a b f s v wr∧wr.frozen? ⟨w4.heap.size,4,none⟩=false∧ownB wr w5.heap.size v L∧L.length=j∧isB L∧isCur k wr∧w0.grownBy wr (some k)∧empty5 w.heap.size wr∧w5.heap.size≤wr.heap.size)
  (fun i _=> n.toNat - (intOf i).toNat)
 case atStart=> exact ⟨0,[],_,hn0,rfl,H6.out.2.2.1,H6.out.2.2.2.1,World.ownsRow_nil _ _ _ _,rfl,fun x hx=> (by cases hx),H6.out.1,H6.out.2.1,H6.out.2.2.2.2,hs6⟩
 case round=>
  obtain ⟨j,L,v,hj,rfl,hbp,hfp,hv,hL,hLb,hcr,hgr,hE,hsr⟩:=hrel;have HL:=Q02 hL
  have hLn:L.length≤4:=by omega
  clear hL H6;obtain ⟨ov,cv,hve,_⟩:=hv.open;subst hve
  have hk5:k < w5.heap.size:=by omega
  by_cases hlt:(j:Int) < n
  ·have y4:=hbp.2.2.2.2
   go_wp2
   go_region_law (first|(go_simp;go_at_call 132;refine (Q2s k _ ?_).mono ?_;exact hcr.drew;rintro e w7 ⟨x,rfl,hx0,hx1,hc7,hg7⟩;replace hg7:wr.grownBy w7 (some k):=⟨hg7.os,hg7.tape,hg7.output,hg7.size,hg7.block⟩;have hv7:=Q2z hv hg7 hk5;have bp7:=hbp.other hg7 (by omega) (by omega);have z4:=bp7.2.2.2.2;have hs7:w5.heap.size≤w7.heap.size:=Kdq hsr hg7.size;have hwx:=Qh2 x hx0 hx1;have z4a:∀O,(w7.alloc O).cell? ⟨w4.heap.size,4,none⟩=some (.slice ov L.length cv):=(fun O=> (bp7.kept ((Below.refl w7.heap.size w7).alloc (Kaq _) O) (by omega)).2.2.2.2);dsimp only)|(refine Q5C rfl (.tmp 25) (.tmp 29) rfl w5.heap.size (.slice ov L.length cv) L rfl (hv7.alloc _) (some ⟨w7.heap.size,0,none⟩) 1 [x] 1 rfl rfl (by simp) (QgW w7 x _) (by simp;omega) (by simp;omega) ?_;intro v8 w8 hv8 hb8;obtain ⟨o8,c8,e8,_⟩:=hv8.open;rw [e8] at hv8 ⊢;replace hb8:Below w5.heap.size w7 w8:=((Below.refl _ _).alloc hs7 _).trans hb8;have bp8:=bp7.kept hb8 hs5;have t4:=bp8.2.2.2.2;have fp8:=(hb8.frozen (p:=⟨w4.heap.size,4,none⟩) hs5).trans ((Q14 (o:=4) hg7 (by omega) (by omega:w4.heap.size≠k)).trans hfp)))
   all_goals (
    have hc8:=hc7.below (hb8.mono hk5)
    have hg8:w0.grownBy w8 (some k):=Q0B (Q05 hgr hg7) hb8 (by omega)
    have hE8:=(hE.other hg7 (by omega) hkR).kept hb8 (by omega:w.heap.size < w5.heap.size)
    have R:=Q02 (QeO (v8:=.slice o8 (L.length+1) c8) (M:=L++[x]) bp8 fp8 (by simpa using hv8) hE8 hc8 hg8 hW0 hs5 (by omega) hs4 (Kdq hs7 hb8.size))
    have hLx:=Q02 (QfV hLb ⟨hx0,hx1⟩);clear hv8 hb8 bp8 t4 fp8 hc8 hg8 hE8 hc7 hg7 hv7 bp7 z4 z4a hwx hcr hgr hE hbp hfp hv y4
    go_wp2
    go_roundw
    case rel=> exact ⟨j+1,L++[x],_,by omega,by go_num,R.out.1,R.out.2.1,R.out.2.2.1,by have:=HL.out;simp;omega,hLx.out,R.out.2.2.2.1,R.out.2.2.2.2.1,R.out.2.2.2.2.2.1,R.out.2.2.2.2.2.2⟩
    case measure=> simp [intOf];omega)
  ·obtain ⟨y0,y1,y2,y3,y4⟩:=hbp
   obtain ⟨⟨d0,d1,d2,d3,d4⟩,g0,g1,g2,g3,g4⟩:=hE
   have hRw5:w.heap.size < w5.heap.size:=by omega
   go_wp2
   refine bodyPost_ret (v:=pkt a b f s (.slice ov L.length cv)) (by simp [results,Tryz.results84,go_sem,d0,d1,d2,d3,d4]) rfl ⟨a,b,f,s,_,rfl,⟨HRA.out.1,HRA.out.2,HRF.out,HRS.out⟩,L, ?_,hLb,hLn, ?_, ?_⟩
   ·refine Q04 (base:=w5.heap.size) ?_ (Nat.le_of_lt hRw5)
    repeat (refine ownsRow_setCell_below ?_ hRw5 _)
    exact hv
   ·exact hcr.below ((Q0g (Q0g (Q0g (Q0g (Q0g (Below.refl w.heap.size wr) 0 _) 1 _) 2 _) 3 _) 4 _).mono hk)
   ·exact Q0B (Q05 hg0 hgr) (Q0g (Q0g (Q0g (Q0g (Q0g (Below.refl w.heap.size wr) 0 _) 1 _) 2 _) 3 _) 4 _) (Kaq _)
theorem QbI (k:Nat) (w:World) (hc:isCur k w) (hk:k < w.heap.size):
  Calls Tryz.prog 84 #[.pointer (some ⟨k,0,none⟩)] w fun e w'=> ∃(a b f s:Int) (v:Value) (L:List Int),e=.returned (pkt a b f s v)∧ownB w' w.heap.size v L∧isB L∧L.length≤4∧isCur k w'∧w.grownBy w' (some k):=
 (QaD k w hc hk).mono fun _ _ ⟨a,b,f,s,v,L,h,_,r⟩=> ⟨a,b,f,s,v,L,h,r⟩
def free5 (q:Nat) (w:World):Prop:=w.frozen? ⟨q,0,none⟩=false∧w.frozen? ⟨q,1,none⟩=false∧w.frozen? ⟨q,2,none⟩=false∧w.frozen? ⟨q,3,none⟩=false∧w.frozen? ⟨q,4,none⟩=false
theorem free5.other {k q:Nat} {w w':World} (h:free5 q w) (hg:w.grownBy w' (some k)) (hq:q < w.heap.size) (hne:q≠k):free5 q w':=
 ⟨(Q14 hg hq hne).trans h.1,(Q14 hg hq hne).trans h.2.1,(Q14 hg hq hne).trans h.2.2.1,(Q14 hg hq hne).trans h.2.2.2.1,(Q14 hg hq hne).trans h.2.2.2.2⟩
theorem QdR (w:World) (a b f s:Int) (v:Value) (e:TypeId):free5 w.heap.size (w.alloc (.cells #[.int .i64 a,.int .i64 b,.int .i64 f,.int .i64 s,v] e)):=by
 unfold free5;simp
theorem boxed.put0 {k:Nat} {a b f s:Int} {v:Value} {w:World} (h:boxed k a b f s v w) (z:Int):boxed k z b f s v (w.setCell ⟨k,0,none⟩ (.int .i64 z)):=by
 exact ⟨World.cell?_setCell_same w _ _ h.1,(World.cell?_setCell_other w _ _ _ (by simp)).trans h.2.1,(World.cell?_setCell_other w _ _ _ (by simp)).trans h.2.2.1,(World.cell?_setCell_other w _ _ _ (by simp)).trans h.2.2.2.1,(World.cell?_setCell_other w _ _ _ (by simp)).trans h.2.2.2.2⟩
theorem boxed.put1 {k:Nat} {a b f s:Int} {v:Value} {w:World} (h:boxed k a b f s v w) (z:Int):boxed k a z f s v (w.setCell ⟨k,1,none⟩ (.int .i64 z)):=by
 exact ⟨(World.cell?_setCell_other w _ _ _ (by simp)).trans h.1,World.cell?_setCell_same w _ _ h.2.1,(World.cell?_setCell_other w _ _ _ (by simp)).trans h.2.2.1,(World.cell?_setCell_other w _ _ _ (by simp)).trans h.2.2.2.1,(World.cell?_setCell_other w _ _ _ (by simp)).trans h.2.2.2.2⟩
theorem boxed.put2 {k:Nat} {a b f s:Int} {v:Value} {w:World} (h:boxed k a b f s v w) (z:Int):boxed k a b z s v (w.setCell ⟨k,2,none⟩ (.int .i64 z)):=by
 exact ⟨(World.cell?_setCell_other w _ _ _ (by simp)).trans h.1,(World.cell?_setCell_other w _ _ _ (by simp)).trans h.2.1,World.cell?_setCell_same w _ _ h.2.2.1,(World.cell?_setCell_other w _ _ _ (by simp)).trans h.2.2.2.1,(World.cell?_setCell_other w _ _ _ (by simp)).trans h.2.2.2.2⟩
theorem boxed.put3 {k:Nat} {a b f s:Int} {v:Value} {w:World} (h:boxed k a b f s v w) (z:Int):boxed k a b f z v (w.setCell ⟨k,3,none⟩ (.int .i64 z)):=by
 exact ⟨(World.cell?_setCell_other w _ _ _ (by simp)).trans h.1,(World.cell?_setCell_other w _ _ _ (by simp)).trans h.2.1,(World.cell?_setCell_other w _ _ _ (by simp)).trans h.2.2.1,World.cell?_setCell_same w _ _ h.2.2.2.1,(World.cell?_setCell_other w _ _ _ (by simp)).trans h.2.2.2.2⟩
theorem Qhu {w:World} {B n c:Nat} {o:Option Addr} {L:List Int} (h:ownB w B (.slice o n c) L):∀g,o=some ⟨g,0,none⟩→g < w.heap.size:=by
 intro g hg
 subst hg;obtain ⟨_,h2⟩:=h
 rcases h2 with ⟨h2,_⟩|⟨g',cap,cur,hv,hg',hh,r⟩
 ·simp at h2
 ·simp at hv
  obtain ⟨rfl,_⟩:=hv
  obtain ⟨hlt,_⟩:=Array.getElem?_eq_some_iff.1 hh
  exact hlt
theorem Q8L {w:World} {B n c:Nat} {o:Option Addr} {L:List Int} (h:ownB w B (.slice o n c) L) (P q:Nat) (u:Value) (hP:∀g,o=some ⟨g,0,none⟩→g < P):ownB (w.setCell ⟨P,q,none⟩ u) B (.slice o n c) L:=by
 obtain ⟨h1,h2⟩:=h
 refine ⟨h1, ?_⟩
 rcases h2 with h2|⟨g,cap,cur,hv,hg,hh,r⟩
 ·exact Or.inl h2
 ·have hlt:g < P:=hP g (by simp at hv;exact hv.1)
  exact Or.inr ⟨g,cap,cur,hv,hg,by rw [Below.heap_setCell _ _ _ _ (by simp;omega)];exact hh,r⟩
theorem Qc4 (k:Nat) (w:World) (hc:isCur k w) (hk:k < w.heap.size):
  Calls Tryz.prog 36 #[.pointer (some ⟨k,0,none⟩)] w fun e w'=> ∃(a b f s:Int) (v:Value) (L:List Int),e=.returned (pkt a b f s v)∧ownB w' w.heap.size v L∧isB L∧L.length≤2000∧isCur k w'∧w.grownBy w' (some k):=by
 have E5:=Q5D w 38;have hc0:=hc.alloc hk (.cells #[.int .i64 0,.int .i64 0,.int .i64 0,.int .i64 0,.slice none 0 0] 38);have hg0:=Q0r w (.cells #[.int .i64 0,.int .i64 0,.int .i64 0,.int .i64 0,.slice none 0 0] 38) k
 go_enter Tryz.func36,Tryz.ntmps36
 go_wp2_with fail
 generalize hw0:w.alloc (.cells #[.int .i64 0,.int .i64 0,.int .i64 0,.int .i64 0,.slice none 0 0] 38)=w0 at *
 have hs0:w.heap.size < w0.heap.size:=by rw [←hw0];simp
 clear hw0
 have hkR:w.heap.size≠k:=by omega
 refine (QbI k _ hc0 (by omega)).mono ?_
 rintro e w1 ⟨a,b,f,s,v,L,rfl,hv,hLb,hLn,hc1,hg1⟩
 have hs1:w.heap.size < w1.heap.size:=Kbq hs0 hg1.size;obtain ⟨ov,cv,hve,_⟩:=hv.open;subst hve
 go_wp2_with fail
 have BP0:=Q9E w1 a b f s (.slice ov L.length cv) 38;have FP0:=QdR w1 a b f s (.slice ov L.length cv) 38
 have hc2:=hc1.alloc (by omega) (.cells #[.int .i64 a,.int .i64 b,.int .i64 f,.int .i64 s,.slice ov L.length cv] 38)
 have hg2:=Q0r w1 (.cells #[.int .i64 a,.int .i64 b,.int .i64 f,.int .i64 s,.slice ov L.length cv] 38) k;have hv2:ownB (w1.alloc (.cells #[.int .i64 a,.int .i64 b,.int .i64 f,.int .i64 s,.slice ov L.length cv] 38)) w0.heap.size (.slice ov L.length cv) L:=hv.alloc _;have E51:=(E5.other hg1 hs0 hkR).other hg2 hs1 hkR;have hP0:w0.heap.size≤w1.heap.size:=hg1.size
 have hk0:k < w0.heap.size:=by omega
 have hov:=Qhu hv;generalize hw2:w1.alloc (.cells #[.int .i64 a,.int .i64 b,.int .i64 f,.int .i64 s,.slice ov L.length cv] 38)=w2 at *
 have hs2:w1.heap.size < w2.heap.size:=by rw [←hw2];simp
 clear hw2
 refine (Q1g k 6 _ hc2 (by omega) (by omega)).mono ?_
 rintro e w3 ⟨x,rfl,hcE,hg3⟩
 have BP:=BP0.other hg3 hs2 (by omega)
 have FP:=FP0.other hg3 hs2 (by omega)
 have hvE:=Q2z hv2 hg3 hk0
 have EE:=E51.other hg3 (by omega) hkR
 have hgE:=Q05 hg1 (Q05 hg2 hg3);have hs3:=Kbq hs2 hg3.size;clear hc hc0 hc1 hc2 hv hv2 BP0 FP0 E5 E51 hg1 hg2 hg3
 cases x
 ·obtain ⟨y0,y1,y2,y3,y4⟩:=BP
  obtain ⟨⟨d0,d1,d2,d3,d4⟩,g0,g1,g2,g3,g4⟩:=EE
  go_wp2
  refine bodyPost_ret (v:=pkt a b f s (.slice ov L.length cv)) (by simp [results,Tryz.results36,go_sem,d0,d1,d2,d3,d4]) rfl ⟨a,b,f,s,_,L,rfl, ?_,hLb,by omega, ?_, ?_⟩
  ·refine Q04 (base:=w0.heap.size) ?_ (Nat.le_of_lt hs0)
   repeat (refine ownsRow_setCell_below ?_ hs0 _)
   exact hvE
  ·exact hcE.below ((Q0g (Q0g (Q0g (Q0g (Q0g (Below.refl w.heap.size w3) 0 _) 1 _) 2 _) 3 _) 4 _).mono hk)
  ·exact Q0B (Q05 hg0 hgE) (Q0g (Q0g (Q0g (Q0g (Q0g (Below.refl w.heap.size w3) 0 _) 1 _) 2 _) 3 _) 4 _) (Kaq _)
 ·go_wp2_with fail
  refine (Q0m k 5 _ hcE (by omega) (by omega)).mono ?_
  rintro e w4 ⟨n,rfl,hn0,hn1,hc4,hg4⟩
  replace BP:=BP.other hg4 hs3 (by omega)
  replace FP:=FP.other hg4 hs3 (by omega)
  replace hvE:=Q2z hvE hg4 hk0
  replace EE:=EE.other hg4 (by omega) hkR
  replace hgE:=Q05 hgE hg4;have hs4:=Kbq hs3 hg4.size;clear hcE hg4
  have hn:n=0∨n=1∨n=2∨n=3∨n=4:=by omega
  rcases hn with h|h|h|h|h <;> subst h
  ·go_wp2_with fail
   refine (Q0H k w4.heap.size [-1,65535,65536] _ (hc4.alloc (by omega) _) (by simp) (by omega) (by simp) (by simp) ?hcl).mono ?_
   case hcl=>
    intro q hq
    have:q=0∨q=1∨q=2:=by simp at hq;omega
    rcases this with h|h|h <;> subst h <;> simp
   rintro e w5 ⟨q5,_,rfl,hcE,hg5⟩
   generalize ([-1,65535,65536]:List Int).getD q5 0=z at *;replace hg5:=Q05 (Q0r w4 (.cells #[.int .i64 (-1),.int .i64 65535,.int .i64 65536] 3) k) hg5
   replace BP:=BP.other hg5 hs4 (by omega)
   replace FP:=FP.other hg5 hs4 (by omega)
   replace hvE:=Q2z hvE hg5 hk0
   replace EE:=EE.other hg5 (by omega) hkR
   replace hgE:=Q05 hgE hg5;have hs5:=Kbq hs4 hg5.size;clear hc4 hg5;obtain ⟨q0,q1,q2,q3,q4⟩:=FP;have BP5:=BP;obtain ⟨x0,x1,x2,x3,x4⟩:=BP5;have hb6:Below w1.heap.size w5 (w5.setCell ⟨w1.heap.size,0,none⟩ (.int .i64 z)):=Q0g (Below.refl _ _) 0 _;replace BP:=BP.put0 z;replace hvE:=Q8L hvE w1.heap.size 0 (.int .i64 z) hov;replace EE:=EE.kept hb6 hs1
   replace hcE:=hcE.below (hb6.mono (by omega))
   replace hgE:=Q0B hgE hb6 hP0;clear hb6;obtain ⟨y0,y1,y2,y3,y4⟩:=BP;obtain ⟨⟨d0,d1,d2,d3,d4⟩,g0,g1,g2,g3,g4⟩:=EE
   go_wp2
   refine bodyPost_ret (v:=pkt z b f s (.slice ov L.length cv)) (by simp [results,Tryz.results36,go_sem,d0,d1,d2,d3,d4]) rfl ⟨z,b,f,s,_,L,rfl, ?_,hLb,by omega, ?_, ?_⟩
   ·refine Q04 (base:=w0.heap.size) ?_ (Nat.le_of_lt hs0)
    repeat (refine ownsRow_setCell_below ?_ hs0 _)
    exact hvE
   ·exact hcE.below ((Q0g (Q0g (Q0g (Q0g (Q0g (Below.refl w.heap.size (w5.setCell ⟨w1.heap.size,0,none⟩ (.int .i64 z))) 0 _) 1 _) 2 _) 3 _) 4 _).mono hk)
   ·exact Q0B (Q05 hg0 hgE) (Q0g (Q0g (Q0g (Q0g (Q0g (Below.refl w.heap.size (w5.setCell ⟨w1.heap.size,0,none⟩ (.int .i64 z))) 0 _) 1 _) 2 _) 3 _) 4 _) (Kaq _)
  ·go_wp2_with fail
   refine (Q0H k w4.heap.size [-1,65535,65536] _ (hc4.alloc (by omega) _) (by simp) (by omega) (by simp) (by simp) ?hcl).mono ?_
   case hcl=>
    intro q hq
    have:q=0∨q=1∨q=2:=by simp at hq;omega
    rcases this with h|h|h <;> subst h <;> simp
   rintro e w5 ⟨q5,_,rfl,hcE,hg5⟩
   generalize ([-1,65535,65536]:List Int).getD q5 0=z at *;replace hg5:=Q05 (Q0r w4 (.cells #[.int .i64 (-1),.int .i64 65535,.int .i64 65536] 3) k) hg5
   replace BP:=BP.other hg5 hs4 (by omega)
   replace FP:=FP.other hg5 hs4 (by omega)
   replace hvE:=Q2z hvE hg5 hk0
   replace EE:=EE.other hg5 (by omega) hkR
   replace hgE:=Q05 hgE hg5;have hs5:=Kbq hs4 hg5.size;clear hc4 hg5;obtain ⟨q0,q1,q2,q3,q4⟩:=FP;have BP5:=BP;obtain ⟨x0,x1,x2,x3,x4⟩:=BP5;have hb6:Below w1.heap.size w5 (w5.setCell ⟨w1.heap.size,1,none⟩ (.int .i64 z)):=Q0g (Below.refl _ _) 1 _;replace BP:=BP.put1 z;replace hvE:=Q8L hvE w1.heap.size 1 (.int .i64 z) hov;replace EE:=EE.kept hb6 hs1
   replace hcE:=hcE.below (hb6.mono (by omega))
   replace hgE:=Q0B hgE hb6 hP0;clear hb6;obtain ⟨y0,y1,y2,y3,y4⟩:=BP;obtain ⟨⟨d0,d1,d2,d3,d4⟩,g0,g1,g2,g3,g4⟩:=EE
   go_wp2
   refine bodyPost_ret (v:=pkt a z f s (.slice ov L.length cv)) (by simp [results,Tryz.results36,go_sem,d0,d1,d2,d3,d4]) rfl ⟨a,z,f,s,_,L,rfl, ?_,hLb,by omega, ?_, ?_⟩
   ·refine Q04 (base:=w0.heap.size) ?_ (Nat.le_of_lt hs0)
    repeat (refine ownsRow_setCell_below ?_ hs0 _)
    exact hvE
   ·exact hcE.below ((Q0g (Q0g (Q0g (Q0g (Q0g (Below.refl w.heap.size (w5.setCell ⟨w1.heap.size,1,none⟩ (.int .i64 z))) 0 _) 1 _) 2 _) 3 _) 4 _).mono hk)
   ·exact Q0B (Q05 hg0 hgE) (Q0g (Q0g (Q0g (Q0g (Q0g (Below.refl w.heap.size (w5.setCell ⟨w1.heap.size,1,none⟩ (.int .i64 z))) 0 _) 1 _) 2 _) 3 _) 4 _) (Kaq _)
  ·go_wp2_with fail
   refine (Q0H k w4.heap.size [-1,5,9,15,16,3] _ (hc4.alloc (by omega) _) (by simp) (by omega) (by simp) (by simp) ?hcl).mono ?_
   case hcl=>
    intro q hq
    have:q=0∨q=1∨q=2∨q=3∨q=4∨q=5:=by simp at hq;omega
    rcases this with h|h|h|h|h|h <;> subst h <;> simp
   rintro e w5 ⟨q5,_,rfl,hcE,hg5⟩
   generalize ([-1,5,9,15,16,3]:List Int).getD q5 0=z at *;replace hg5:=Q05 (Q0r w4 (.cells #[.int .i64 (-1),.int .i64 5,.int .i64 9,.int .i64 15,.int .i64 16,.int .i64 3] 3) k) hg5
   replace BP:=BP.other hg5 hs4 (by omega)
   replace FP:=FP.other hg5 hs4 (by omega)
   replace hvE:=Q2z hvE hg5 hk0
   replace EE:=EE.other hg5 (by omega) hkR
   replace hgE:=Q05 hgE hg5;have hs5:=Kbq hs4 hg5.size;clear hc4 hg5;obtain ⟨q0,q1,q2,q3,q4⟩:=FP;have BP5:=BP;obtain ⟨x0,x1,x2,x3,x4⟩:=BP5;have hb6:Below w1.heap.size w5 (w5.setCell ⟨w1.heap.size,2,none⟩ (.int .i64 z)):=Q0g (Below.refl _ _) 2 _;replace BP:=BP.put2 z;replace hvE:=Q8L hvE w1.heap.size 2 (.int .i64 z) hov;replace EE:=EE.kept hb6 hs1
   replace hcE:=hcE.below (hb6.mono (by omega))
   replace hgE:=Q0B hgE hb6 hP0;clear hb6;obtain ⟨y0,y1,y2,y3,y4⟩:=BP;obtain ⟨⟨d0,d1,d2,d3,d4⟩,g0,g1,g2,g3,g4⟩:=EE
   go_wp2
   refine bodyPost_ret (v:=pkt a b z s (.slice ov L.length cv)) (by simp [results,Tryz.results36,go_sem,d0,d1,d2,d3,d4]) rfl ⟨a,b,z,s,_,L,rfl, ?_,hLb,by omega, ?_, ?_⟩
   ·refine Q04 (base:=w0.heap.size) ?_ (Nat.le_of_lt hs0)
    repeat (refine ownsRow_setCell_below ?_ hs0 _)
    exact hvE
   ·exact hcE.below ((Q0g (Q0g (Q0g (Q0g (Q0g (Below.refl w.heap.size (w5.setCell ⟨w1.heap.size,2,none⟩ (.int .i64 z))) 0 _) 1 _) 2 _) 3 _) 4 _).mono hk)
   ·exact Q0B (Q05 hg0 hgE) (Q0g (Q0g (Q0g (Q0g (Q0g (Below.refl w.heap.size (w5.setCell ⟨w1.heap.size,2,none⟩ (.int .i64 z))) 0 _) 1 _) 2 _) 3 _) 4 _) (Kaq _)
  ·go_wp2_with fail
   refine (Q0H k w4.heap.size [-1,65536] _ (hc4.alloc (by omega) _) (by simp) (by omega) (by simp) (by simp) ?hcl).mono ?_
   case hcl=>
    intro q hq
    have:q=0∨q=1:=by simp at hq;omega
    rcases this with h|h <;> subst h <;> simp
   rintro e w5 ⟨q5,_,rfl,hcE,hg5⟩
   generalize ([-1,65536]:List Int).getD q5 0=z at *;replace hg5:=Q05 (Q0r w4 (.cells #[.int .i64 (-1),.int .i64 65536] 3) k) hg5
   replace BP:=BP.other hg5 hs4 (by omega)
   replace FP:=FP.other hg5 hs4 (by omega)
   replace hvE:=Q2z hvE hg5 hk0
   replace EE:=EE.other hg5 (by omega) hkR
   replace hgE:=Q05 hgE hg5;have hs5:=Kbq hs4 hg5.size;clear hc4 hg5;obtain ⟨q0,q1,q2,q3,q4⟩:=FP;have BP5:=BP;obtain ⟨x0,x1,x2,x3,x4⟩:=BP5;have hb6:Below w1.heap.size w5 (w5.setCell ⟨w1.heap.size,3,none⟩ (.int .i64 z)):=Q0g (Below.refl _ _) 3 _;replace BP:=BP.put3 z;replace hvE:=Q8L hvE w1.heap.size 3 (.int .i64 z) hov;replace EE:=EE.kept hb6 hs1
   replace hcE:=hcE.below (hb6.mono (by omega))
   replace hgE:=Q0B hgE hb6 hP0;clear hb6;obtain ⟨y0,y1,y2,y3,y4⟩:=BP;obtain ⟨⟨d0,d1,d2,d3,d4⟩,g0,g1,g2,g3,g4⟩:=EE
   go_wp2
   refine bodyPost_ret (v:=pkt a b f z (.slice ov L.length cv)) (by simp [results,Tryz.results36,go_sem,d0,d1,d2,d3,d4]) rfl ⟨a,b,f,z,_,L,rfl, ?_,hLb,by omega, ?_, ?_⟩
   ·refine Q04 (base:=w0.heap.size) ?_ (Nat.le_of_lt hs0)
    repeat (refine ownsRow_setCell_below ?_ hs0 _)
    exact hvE
   ·exact hcE.below ((Q0g (Q0g (Q0g (Q0g (Q0g (Below.refl w.heap.size (w5.setCell ⟨w1.heap.size,3,none⟩ (.int .i64 z))) 0 _) 1 _) 2 _) 3 _) 4 _).mono hk)
   ·exact Q0B (Q05 hg0 hgE) (Q0g (Q0g (Q0g (Q0g (Q0g (Below.refl w.heap.size (w5.setCell ⟨w1.heap.size,3,none⟩ (.int .i64 z))) 0 _) 1 _) 2 _) 3 _) 4 _) (Kaq _)
  ·obtain ⟨i0,hi,hz0,hz1,hz2⟩:=info_parts QcE
   go_wp2_with fail
   refine (Q0m k 2 _ hc4 (by omega) (by omega)).mono ?_
   rintro e w5 ⟨m,rfl,hm0,hm1,hcE,hg5⟩
   replace BP:=BP.other hg5 hs4 (by omega)
   replace FP:=FP.other hg5 hs4 (by omega)
   replace EE:=EE.other hg5 (by omega) hkR
   replace hgE:=Q05 hgE hg5;have hs5:=Kbq hs4 hg5.size;clear hc4 hg5 hvE hLb
   have hRw5:w.heap.size < w5.heap.size:=by omega
   have hm:m=0∨m=1:=by omega
   rcases hm with h|h <;> subst h
   ·go_wp2_with (at_make;refine wpList_make_full _ rfl _ _ 22 rfl w5.heap.size 5 i0 (.int .u8 0) 1 Tryz.underlying22 hi hz0 hz1 _ _ _ _ 16 rfl rfl rfl rfl ?b2 ?b3 ?b4 ?_)
    case b2=> rw [hz2];omega
    case b3=> unfold maxLen;omega
    case b4=> simp
    intro w6 hown hgrow
    have hb6:Below w5.heap.size w5 w6:=(Below.refl _ _).grown hgrow (Kaq _) (fun k h=> by cases h)
    have hvE:ownB w6 w5.heap.size (.slice (some ⟨w5.heap.size,0,none⟩) 16 16) (List.replicate 16 0):=by
     simpa [ownB,toList_madeCells_one,Value.cells] using hown
    have hLb:isB (List.replicate 16 (0:Int)):=by
     intro x hx
     have:=List.eq_of_mem_replicate hx
     omega
    have BP6:=BP.kept hb6 hs5;have FP6:=(hb6.frozen (p:=⟨w1.heap.size,4,none⟩) hs5).trans FP.2.2.2.2;have x4:=BP6.2.2.2.2;have hb7:=Q0g (hb6.mono (Nat.le_of_lt hs5)) 4 (.slice (some ⟨w5.heap.size,0,none⟩) 16 16);replace BP:=BP6.put4 (v':=.slice (some ⟨w5.heap.size,0,none⟩) 16 16);replace hvE:=ownsRow_setCell_below hvE (a:=⟨w1.heap.size,4,none⟩) hs5 (.slice (some ⟨w5.heap.size,0,none⟩) 16 16);replace EE:=EE.kept hb7 hs1
    replace hcE:=hcE.below (hb7.mono (by omega))
    replace hgE:=Q0B hgE hb7 hP0;clear hown hgrow hb6 hb7 BP6;obtain ⟨y0,y1,y2,y3,y4⟩:=BP;obtain ⟨⟨d0,d1,d2,d3,d4⟩,g0,g1,g2,g3,g4⟩:=EE
    go_wp2
    refine bodyPost_ret (v:=pkt a b f s (.slice (some ⟨w5.heap.size,0,none⟩) 16 16)) (by simp [results,Tryz.results36,go_sem,d0,d1,d2,d3,d4]) rfl ⟨a,b,f,s,_,List.replicate 16 0,rfl, ?_,hLb,by simp, ?_, ?_⟩
    ·refine Q04 (base:=w5.heap.size) ?_ (Nat.le_of_lt hRw5)
     repeat (refine ownsRow_setCell_below ?_ hRw5 _)
     exact hvE
    ·exact hcE.below ((Q0g (Q0g (Q0g (Q0g (Q0g (Below.refl w.heap.size (w6.setCell ⟨w1.heap.size,4,none⟩ (.slice (some ⟨w5.heap.size,0,none⟩) 16 16))) 0 _) 1 _) 2 _) 3 _) 4 _).mono hk)
    ·exact Q0B (Q05 hg0 hgE) (Q0g (Q0g (Q0g (Q0g (Q0g (Below.refl w.heap.size (w6.setCell ⟨w1.heap.size,4,none⟩ (.slice (some ⟨w5.heap.size,0,none⟩) 16 16))) 0 _) 1 _) 2 _) 3 _) 4 _) (Kaq _)
   ·go_wp2_with (at_make;refine wpList_make_full _ rfl _ _ 22 rfl w5.heap.size 5 i0 (.int .u8 0) 1 Tryz.underlying22 hi hz0 hz1 _ _ _ _ 17 rfl rfl rfl rfl ?b2 ?b3 ?b4 ?_)
    case b2=> rw [hz2];omega
    case b3=> unfold maxLen;omega
    case b4=> simp
    intro w6 hown hgrow
    have hb6:Below w5.heap.size w5 w6:=(Below.refl _ _).grown hgrow (Kaq _) (fun k h=> by cases h)
    have hvE:ownB w6 w5.heap.size (.slice (some ⟨w5.heap.size,0,none⟩) 17 17) (List.replicate 17 0):=by
     simpa [ownB,toList_madeCells_one,Value.cells] using hown
    have hLb:isB (List.replicate 17 (0:Int)):=by
     intro x hx
     have:=List.eq_of_mem_replicate hx
     omega
    have BP6:=BP.kept hb6 hs5;have FP6:=(hb6.frozen (p:=⟨w1.heap.size,4,none⟩) hs5).trans FP.2.2.2.2;have x4:=BP6.2.2.2.2;have hb7:=Q0g (hb6.mono (Nat.le_of_lt hs5)) 4 (.slice (some ⟨w5.heap.size,0,none⟩) 17 17);replace BP:=BP6.put4 (v':=.slice (some ⟨w5.heap.size,0,none⟩) 17 17);replace hvE:=ownsRow_setCell_below hvE (a:=⟨w1.heap.size,4,none⟩) hs5 (.slice (some ⟨w5.heap.size,0,none⟩) 17 17);replace EE:=EE.kept hb7 hs1
    replace hcE:=hcE.below (hb7.mono (by omega))
    replace hgE:=Q0B hgE hb7 hP0;clear hown hgrow hb6 hb7 BP6;obtain ⟨y0,y1,y2,y3,y4⟩:=BP;obtain ⟨⟨d0,d1,d2,d3,d4⟩,g0,g1,g2,g3,g4⟩:=EE
    go_wp2
    refine bodyPost_ret (v:=pkt a b f s (.slice (some ⟨w5.heap.size,0,none⟩) 17 17)) (by simp [results,Tryz.results36,go_sem,d0,d1,d2,d3,d4]) rfl ⟨a,b,f,s,_,List.replicate 17 0,rfl, ?_,hLb,by simp, ?_, ?_⟩
    ·refine Q04 (base:=w5.heap.size) ?_ (Nat.le_of_lt hRw5)
     repeat (refine ownsRow_setCell_below ?_ hRw5 _)
     exact hvE
    ·exact hcE.below ((Q0g (Q0g (Q0g (Q0g (Q0g (Below.refl w.heap.size (w6.setCell ⟨w1.heap.size,4,none⟩ (.slice (some ⟨w5.heap.size,0,none⟩) 17 17))) 0 _) 1 _) 2 _) 3 _) 4 _).mono hk)
    ·exact Q0B (Q05 hg0 hgE) (Q0g (Q0g (Q0g (Q0g (Q0g (Below.refl w.heap.size (w6.setCell ⟨w1.heap.size,4,none⟩ (.slice (some ⟨w5.heap.size,0,none⟩) 17 17))) 0 _) 1 _) 2 _) 3 _) 4 _) (Kaq _)
end Go.Proofs.YtpneolgdghbinaaGreat
