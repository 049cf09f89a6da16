/- Several texts in one: SDropI, SDropS, SDrop, SExp2, SAg4, SHdS. -/
import Derived.Deep.LoopGhost
import Derived.Test.YtljogkoaaidlcaaQHandL12
namespace Go.Proofs.Ytljogkoaaidlcaa
open Go.ChangeShapes Go.WideShapes Go.ChangeAt Go.RowKit Go.Joins
set_option linter.unusedVariables false
set_option linter.unusedSimpArgs false
set_option maxRecDepth 100000
set_option maxHeartbeats 40000000
theorem Q5A {e:TypeId} {w:World} {base g n c:Nat} {m:List Sl} (h:w.ownsRow base e 5 (.slice (some ⟨g,0,none⟩) n c) n (m.flatMap Q0e.cs)) (hn:n=m.length) (i:Nat) (hi:i < n):
  w.cell? ⟨g,i * 5,none⟩=some (.bool (m.getD i sl0).u)∧w.cell? ⟨g,i * 5+1,none⟩=some (.int .i64 (m.getD i sl0).a)∧w.cell? ⟨g,i * 5+2,none⟩=some (.int .i64 (m.getD i sl0).p)∧w.cell? ⟨g,i * 5+3,none⟩=some (.int .i64 (m.getD i sl0).v)∧w.cell? ⟨g,i * 5+4,none⟩=some (.int .i64 (m.getD i sl0).t):=by
 have h1:=Q0n h hn
 have h2:=RdL.slot (C:=w.heap.size) h1 i (by omega)
 simpa only [Nat.zero_add] using h2
theorem Q5V (g c base n i0:Nat) (l:List Sl) (w:World) (hn:l.length=n) (h16:n≤16) (hi0:i0 < n) (hok:Q0F l) (ho:w.ownsRow base Q0k 5 (.slice (some ⟨g,0,none⟩) n c) n (l.flatMap Q0e.cs)):
  Calls Try.prog 91 #[tab (.slice (some ⟨g,0,none⟩) n c),.int .i64 i0] w fun e w'=> (∃v,e=.returned v)∧w'.ownsRow base Q0k 5 (.slice (some ⟨g,0,none⟩) n c) n ((Q1j l i0).flatMap Q0e.cs)∧Stp g (g+1) w w':=by
 have hgw:=(ho.lt g rfl).2
 have HO:=Q00 ho
 clear ho
 obtain ⟨W0,hW0⟩:∃W,(w.alloc (.cells #[.slice (some ⟨g,0,none⟩) n c] 63))=W:=⟨_,rfl⟩
 have hb_W0:Below w.heap.size w W0:=by rw [←hW0];exact ((Below.refl _ _).alloc (Kaq _) _)
 replace HO:=Q00 (Q0a HO.out hb_W0)
 have HB:=Q00 hb_W0
 clear hb_W0
 have zct:w.heap.size < W0.heap.size:=by rw [←hW0];simp
 have ct0:W0.cell? ⟨w.heap.size,0,none⟩=some (.slice (some ⟨g,0,none⟩) n c):=by rw [←hW0];simp [go_sem]
 have ho:W0.ownsRow base Q0k 5 (.slice (some ⟨g,0,none⟩) n c) n (l.flatMap Q0e.cs):=HO.out
 have hln:(l.flatMap Q0e.cs).length=n * 5:=by rw [Q0u,hn];rfl
 obtain ⟨u0,hu0⟩:∃u,W0.cell? ⟨g,i0 * 5,none⟩=some u:=⟨_,(ho.cellAt (i0 * 5) (by omega)).trans (List.getElem?_eq_getElem (by omega))⟩
 have fu0:=ho.frozenAt (i0 * 5)
 obtain ⟨u1,hu1⟩:∃u,W0.cell? ⟨g,i0 * 5+1,none⟩=some u:=⟨_,(ho.cellAt (i0 * 5+1) (by omega)).trans (List.getElem?_eq_getElem (by omega))⟩
 have fu1:=ho.frozenAt (i0 * 5+1)
 obtain ⟨u2,hu2⟩:∃u,W0.cell? ⟨g,i0 * 5+2,none⟩=some u:=⟨_,(ho.cellAt (i0 * 5+2) (by omega)).trans (List.getElem?_eq_getElem (by omega))⟩
 have fu2:=ho.frozenAt (i0 * 5+2)
 obtain ⟨u3,hu3⟩:∃u,W0.cell? ⟨g,i0 * 5+3,none⟩=some u:=⟨_,(ho.cellAt (i0 * 5+3) (by omega)).trans (List.getElem?_eq_getElem (by omega))⟩
 have fu3:=ho.frozenAt (i0 * 5+3)
 obtain ⟨u4,hu4⟩:∃u,W0.cell? ⟨g,i0 * 5+4,none⟩=some u:=⟨_,(ho.cellAt (i0 * 5+4) (by omega)).trans (List.getElem?_eq_getElem (by omega))⟩
 have fu4:=ho.frozenAt (i0 * 5+4)
 obtain ⟨W1,hW1⟩:∃W,(((((W0.setCell ⟨g,i0 * 5,none⟩ (.bool false)).setCell ⟨g,i0 * 5+1,none⟩ (.int .i64 0)).setCell ⟨g,i0 * 5+2,none⟩ (.int .i64 0)).setCell ⟨g,i0 * 5+3,none⟩ (.int .i64 0)).setCell ⟨g,i0 * 5+4,none⟩ (.int .i64 0))=W:=⟨_,rfl⟩
 have HO1:Hid (W1.ownsRow base Q0k 5 (.slice (some ⟨g,0,none⟩) n c) n ((l.set i0 sl0).flatMap Q0e.cs)):=by rw [←hW1];exact (Q1I (k:=i0) sl0 (Kaq g) ho (Below.refl g W0)).1
 have HSt1:Hid (Stp g (g+1) W0 W1):=by rw [←hW1];exact Q1z W0 g i0 sl0
 have hgz:g < W0.heap.size:=(ho.lt g rfl).2
 have ct1:W1.cell? ⟨w.heap.size,0,none⟩=some (.slice (some ⟨g,0,none⟩) n c):=HSt1.out.cell ct0 zct (.inr (by omega))
 have zct1:w.heap.size < W1.heap.size:=Kbq zct HSt1.out.size
 have i1:(i0:Int) < (n:Int):=by omega
 have HInv0:=Q00 (DropInv.start (l:=l) (i:=i0) (by omega) (by omega) hok)
 rw [hn] at HInv0
 clear ho hln hok
 go_enter Try.func91,Try.ntmps91
 go_wp2_with fail
 refine (Q2j (some ⟨g,0,none⟩) n c i0 W1 (by omega) (by omega) hi0).mono ?_
 rintro e W2 ⟨rfl,hb2⟩
 have HO2:=Q00 (Q0a HO1.out hb2)
 have ct2:W2.cell? ⟨w.heap.size,0,none⟩=some (.slice (some ⟨g,0,none⟩) n c):=(hb2.cell (p:=⟨w.heap.size,0,none⟩) zct1).trans ct1
 have HSt2:=Q00 ((Stp.of (lo:=g) (hi:=g+1) HB.out).trans (HSt1.out.trans (Stp.of hb2)))
 have zct2:w.heap.size < W2.heap.size:=Kbq zct1 hb2.size
 clear hb2 hu0 fu0 hu1 fu1 hu2 fu2 hu3 fu3 hu4 fu4 hW1 ct0 ct1 HO HO1 HSt1
 go_wp2
 go_loopg [1,4] (Q6l (l.set i0 sl0) i0 ((i0+1) % n)) (fun gk hv kv wr=> ∃(m:List Sl) (i k:Nat),hv=.int .i64 i∧kv=.int .i64 k∧Hid (DropInv n (Q1j l i0) gk m i k)∧Hid (wr.ownsRow base Q0k 5 (.slice (some ⟨g,0,none⟩) n c) n (m.flatMap Q0e.cs))∧Hid (wr.cell? ⟨w.heap.size,0,none⟩=some (.slice (some ⟨g,0,none⟩) n c))∧w.heap.size < wr.heap.size∧Hid (Stp g (g+1) w wr))
 case atStart=> exact ⟨_,i0,(i0+1) % n,rfl,by simp,HInv0,HO2,ct2,zct2,HSt2⟩
 case round=>
  obtain ⟨m,i,k,rfl,rfl,HI,HO,HC,zct,HSt⟩:=hrel
  clear HInv0 HO2 ct2 zct2 HSt2 HB
  have hml:=HI.out.len
  have hik:=HI.out.hi
  have hkk:=HI.out.hk
  have ho:wr.ownsRow base Q0k 5 (.slice (some ⟨g,0,none⟩) n c) n (m.flatMap Q0e.cs):=HO.out
  have ct0:=HC.out
  have hgr:g < wr.heap.size:=(ho.lt g rfl).2
  obtain ⟨s,hxy⟩:∃s,m.getD k sl0=s:=⟨_,rfl⟩
  have hrk:=Q5A ho hml.symm k hkk
  rw [hxy] at hrk
  have e0:=hrk.1
  have e1:=hrk.2.1
  have e2:=hrk.2.2.1
  have e3:=hrk.2.2.2.1
  have e4:=hrk.2.2.2.2
  have hk1:(k:Int) < (n:Int):=by omega
  have hi1:(i:Int) < (n:Int):=by omega
  have HX:=Q00 hxy
  clear hrk hxy
  obtain ⟨su,sa,sp,sv,st⟩:=s
  simp only at e0 e1 e2 e3 e4
  cases su with
  |false=>
   have HD:=Q00 (HI.out.done (by rw [HX.out]))
   clear ho
   go_wp2
   go_end0
   exact ⟨⟨_,rfl⟩,by rw [←HD.out];exact HO.out,HSt.out⟩
  |true=>
  have hfo:Q0c sa sp=true:=by have h:=HI.out.ok k (by omega) (by rw [HX.out]);rw [HX.out] at h;exact h
  have hne:i≠k:=fun e=> by have h:=HI.out.free;rw [e,HX.out] at h;cases h
  obtain ⟨W3,hW3⟩:∃W,wr.alloc (.cells #[.bool true,.int .i64 sa,.int .i64 sp,.int .i64 sv,.int .i64 st] 102)=W:=⟨_,rfl⟩
  have hb3:Below wr.heap.size wr W3:=by rw [←hW3];exact (Below.refl _ _).alloc (Kaq _) _
  have ct3:W3.cell? ⟨w.heap.size,0,none⟩=some (.slice (some ⟨g,0,none⟩) n c):=(hb3.cell (p:=⟨w.heap.size,0,none⟩) zct).trans ct0
  have zct3:w.heap.size < W3.heap.size:=Kbq zct hb3.size
  have zs3:wr.heap.size < W3.heap.size:=by rw [←hW3];simp
  have s0:W3.cell? ⟨wr.heap.size,0,none⟩=some (.bool true):=by rw [←hW3];simp [go_sem]
  have s1:W3.cell? ⟨wr.heap.size,1,none⟩=some (.int .i64 sa):=by rw [←hW3];simp [go_sem]
  have s2:W3.cell? ⟨wr.heap.size,2,none⟩=some (.int .i64 sp):=by rw [←hW3];simp [go_sem]
  have s3:W3.cell? ⟨wr.heap.size,3,none⟩=some (.int .i64 sv):=by rw [←hW3];simp [go_sem]
  have s4:W3.cell? ⟨wr.heap.size,4,none⟩=some (.int .i64 st):=by rw [←hW3];simp [go_sem]
  have HO3:=Q00 (Q0a ho hb3)
  have HSt3:=Q00 (HSt.out.trans (Stp.of hb3))
  clear hb3
  have G0:=Grown.cell ct3 zct3
  have G1:=Grown.cell s1 zs3
  have G2:=Grown.cell s2 zs3
  have hhl:=Q0V (show 0 < n by omega) sa sp
  have hA:=fun (P:Grown W3)=> Q09 P (Q5x (some ⟨g,0,none⟩) n c sa sp P.v (by omega) (by omega) hfo)
  have hmvx:Q2D n m i k=decide (Q0U n i k≤Q0U n (Q0B n sa sp) k):=by unfold Q2D;rw [HX.out]
  have HMv:=Q00 hmvx
  clear hmvx
  generalize Q0B n sa sp=hm at *
  have hB:=fun (P:Grown W3)=> Q09 P (Q6N (some ⟨g,0,none⟩) n c hm k P.v (by omega) hhl hkk)
  have hC:=fun (P:Grown W3)=> Q09 P (Q6N (some ⟨g,0,none⟩) n c i k P.v (by omega) hik hkk)
  generalize Q0U n hm k=d1 at *
  generalize Q0U n i k=d2 at *
  by_cases hmv:(d2:Int)≤(d1:Int)
  ·skip
   have HNx:=Q00 (HI.out.move (by rw [HX.out]) (by rw [HMv.out];exact decide_eq_true (by omega)))
   rw [HX.out] at HNx
   clear ho
   have Gs0:=Grown.cell s0 zs3
   have Gs1:=Grown.cell s1 zs3
   have Gs2:=Grown.cell s2 zs3
   have Gs3:=Grown.cell s3 zs3
   have Gs4:=Grown.cell s4 zs3
   go_wp2
   (refine Q05 (by kernel_rfl) (by kernel_rfl) ?_;intro hne9;(repeat (go_big_quiet_step ((first|(go_at_call 106;exact hA _)|(go_at_call 105;first|with_reducible exact hB _|with_reducible exact hC _)))));(with_reducible refine wpQuiet_nil ?_);intro _ hw9;obtain ⟨pq,hw8⟩:=hw9;subst hw8)
   have ho:pq.v.ownsRow base Q0k 5 (.slice (some ⟨g,0,none⟩) n c) n (m.flatMap Q0e.cs):=Q0a HO3.out pq.b
   have cp0:pq.v.cell? ⟨w.heap.size,0,none⟩=some (.slice (some ⟨g,0,none⟩) n c):=G0 pq
   have zp:w.heap.size < pq.v.heap.size:=Kbq zct3 pq.b.size
   have HStp:=Q00 (HSt3.out.trans (Stp.of pq.b))
   have sp0:pq.v.cell? ⟨wr.heap.size,0,none⟩=some (.bool true):=Gs0 pq
   have sp1:pq.v.cell? ⟨wr.heap.size,1,none⟩=some (.int .i64 sa):=Gs1 pq
   have sp2:pq.v.cell? ⟨wr.heap.size,2,none⟩=some (.int .i64 sp):=Gs2 pq
   have sp3:pq.v.cell? ⟨wr.heap.size,3,none⟩=some (.int .i64 sv):=Gs3 pq
   have sp4:pq.v.cell? ⟨wr.heap.size,4,none⟩=some (.int .i64 st):=Gs4 pq
   have hln:(m.flatMap Q0e.cs).length=n * 5:=by rw [Q0u,hml];rfl
   obtain ⟨u0,hu0⟩:∃u,pq.v.cell? ⟨g,i * 5,none⟩=some u:=⟨_,(ho.cellAt (i * 5) (by omega)).trans (List.getElem?_eq_getElem (by omega))⟩
   have fu0:=ho.frozenAt (i * 5)
   obtain ⟨u1,hu1⟩:∃u,pq.v.cell? ⟨g,i * 5+1,none⟩=some u:=⟨_,(ho.cellAt (i * 5+1) (by omega)).trans (List.getElem?_eq_getElem (by omega))⟩
   have fu1:=ho.frozenAt (i * 5+1)
   obtain ⟨u2,hu2⟩:∃u,pq.v.cell? ⟨g,i * 5+2,none⟩=some u:=⟨_,(ho.cellAt (i * 5+2) (by omega)).trans (List.getElem?_eq_getElem (by omega))⟩
   have fu2:=ho.frozenAt (i * 5+2)
   obtain ⟨u3,hu3⟩:∃u,pq.v.cell? ⟨g,i * 5+3,none⟩=some u:=⟨_,(ho.cellAt (i * 5+3) (by omega)).trans (List.getElem?_eq_getElem (by omega))⟩
   have fu3:=ho.frozenAt (i * 5+3)
   obtain ⟨u4,hu4⟩:∃u,pq.v.cell? ⟨g,i * 5+4,none⟩=some u:=⟨_,(ho.cellAt (i * 5+4) (by omega)).trans (List.getElem?_eq_getElem (by omega))⟩
   have fu4:=ho.frozenAt (i * 5+4)
   obtain ⟨W4,hW4⟩:∃W,(((((pq.v.setCell ⟨g,i * 5,none⟩ (.bool true)).setCell ⟨g,i * 5+1,none⟩ (.int .i64 sa)).setCell ⟨g,i * 5+2,none⟩ (.int .i64 sp)).setCell ⟨g,i * 5+3,none⟩ (.int .i64 sv)).setCell ⟨g,i * 5+4,none⟩ (.int .i64 st))=W:=⟨_,rfl⟩
   have ho4:W4.ownsRow base Q0k 5 (.slice (some ⟨g,0,none⟩) n c) n ((m.set i ⟨true,sa,sp,sv,st⟩).flatMap Q0e.cs):=by rw [←hW4];exact (Q1I (k:=i) ⟨true,sa,sp,sv,st⟩ (Kaq g) ho (Below.refl g pq.v)).1
   have HSt4:Hid (Stp g (g+1) pq.v W4):=by rw [←hW4];exact Q1z pq.v g i ⟨true,sa,sp,sv,st⟩
   have hln4:((m.set i ⟨true,sa,sp,sv,st⟩).flatMap Q0e.cs).length=n * 5:=by rw [Q0u,List.length_set,hml];rfl
   obtain ⟨y0,hy0⟩:∃u,W4.cell? ⟨g,k * 5,none⟩=some u:=⟨_,(ho4.cellAt (k * 5) (by omega)).trans (List.getElem?_eq_getElem (by omega))⟩
   have fy0:=ho4.frozenAt (k * 5)
   obtain ⟨y1,hy1⟩:∃u,W4.cell? ⟨g,k * 5+1,none⟩=some u:=⟨_,(ho4.cellAt (k * 5+1) (by omega)).trans (List.getElem?_eq_getElem (by omega))⟩
   have fy1:=ho4.frozenAt (k * 5+1)
   obtain ⟨y2,hy2⟩:∃u,W4.cell? ⟨g,k * 5+2,none⟩=some u:=⟨_,(ho4.cellAt (k * 5+2) (by omega)).trans (List.getElem?_eq_getElem (by omega))⟩
   have fy2:=ho4.frozenAt (k * 5+2)
   obtain ⟨y3,hy3⟩:∃u,W4.cell? ⟨g,k * 5+3,none⟩=some u:=⟨_,(ho4.cellAt (k * 5+3) (by omega)).trans (List.getElem?_eq_getElem (by omega))⟩
   have fy3:=ho4.frozenAt (k * 5+3)
   obtain ⟨y4,hy4⟩:∃u,W4.cell? ⟨g,k * 5+4,none⟩=some u:=⟨_,(ho4.cellAt (k * 5+4) (by omega)).trans (List.getElem?_eq_getElem (by omega))⟩
   have fy4:=ho4.frozenAt (k * 5+4)
   obtain ⟨W5,hW5⟩:∃W,(((((W4.setCell ⟨g,k * 5,none⟩ (.bool false)).setCell ⟨g,k * 5+1,none⟩ (.int .i64 0)).setCell ⟨g,k * 5+2,none⟩ (.int .i64 0)).setCell ⟨g,k * 5+3,none⟩ (.int .i64 0)).setCell ⟨g,k * 5+4,none⟩ (.int .i64 0))=W:=⟨_,rfl⟩
   have HO5:Hid (W5.ownsRow base Q0k 5 (.slice (some ⟨g,0,none⟩) n c) n (((m.set i ⟨true,sa,sp,sv,st⟩).set k sl0).flatMap Q0e.cs)):=by rw [←hW5];exact (Q1I (k:=k) sl0 (Kaq g) ho4 (Below.refl g W4)).1
   have HSt5:Hid (Stp g (g+1) W4 W5):=by rw [←hW5];exact Q1z W4 g k sl0
   have HStA:=Q00 (HSt4.out.trans HSt5.out)
   have hgp:g < w.heap.size:=hgw
   have cp4:W4.cell? ⟨w.heap.size,0,none⟩=some (.slice (some ⟨g,0,none⟩) n c):=HSt4.out.cell cp0 zp (.inr (by omega))
   have cp5:W5.cell? ⟨w.heap.size,0,none⟩=some (.slice (some ⟨g,0,none⟩) n c):=HStA.out.cell cp0 zp (.inr (by omega))
   have zp5:w.heap.size < W5.heap.size:=Kbq zp HStA.out.size
   clear ho ho4 hln hln4 G0 G1 G2 hA hB hC Gs0 Gs1 Gs2 Gs3 Gs4
   go_wp2
   go_region
   go_wp2_with fail
   refine (Q2j (some ⟨g,0,none⟩) n c k _ (by omega) (by omega) hkk).mono ?_
   rintro e W6 ⟨rfl,hb6⟩
   have HO6:Hid (W6.ownsRow base Q0k 5 (.slice (some ⟨g,0,none⟩) n c) n (((m.set i ⟨true,sa,sp,sv,st⟩).set k sl0).flatMap Q0e.cs)):=Q0a (show World.ownsRow W5.drew _ _ _ _ _ _ from HO5.out) hb6
   have HC6:Hid (W6.cell? ⟨w.heap.size,0,none⟩=some (.slice (some ⟨g,0,none⟩) n c)):=(hb6.cell (p:=⟨w.heap.size,0,none⟩) zp5).trans cp5
   have zc6:w.heap.size < W6.heap.size:=Kbq zp5 hb6.size
   have HSt6:=Q00 (HStp.out.trans ((HStA.out.drew).trans (Stp.of hb6)))
   clear hb6 hu0 fu0 hy0 fy0 sp0 hu1 fu1 hy1 fy1 sp1 hu2 fu2 hy2 fy2 sp2 hu3 fu3 hy3 fy3 sp3 hu4 fu4 hy4 fy4 sp4
   go_wp2
   go_roundg (gk - 1)
   case measure=> have:=HNx.out.1;omega
   case rel=> exact ⟨_,k,(k+1) % n,rfl,by simp,HNx.out.2,HO6,HC6,zc6,HSt6⟩
  ·skip
   have HNx:=Q00 (HI.out.stay (by rw [HX.out]) (by rw [HMv.out];exact decide_eq_false (by omega)))
   have hmv':decide (d2≤d1)=false:=decide_eq_false (by omega)
   have hmv2:decide ((d2:Int)≤(d1:Int))=false:=decide_eq_false hmv
   clear ho
   go_wp2
   (refine Q05 (by kernel_rfl) (by kernel_rfl) ?_;intro hne9;(repeat (go_big_quiet_step ((first|(go_at_call 106;exact hA _)|(go_at_call 105;first|with_reducible exact hB _|with_reducible exact hC _)))));(with_reducible refine wpQuiet_nil ?_);intro _ hw9;obtain ⟨pq,hw8⟩:=hw9;subst hw8)
   have HOp:=Q00 (Q0a HO3.out pq.b)
   have cp0:pq.v.cell? ⟨w.heap.size,0,none⟩=some (.slice (some ⟨g,0,none⟩) n c):=G0 pq
   have zp:w.heap.size < pq.v.heap.size:=Kbq zct3 pq.b.size
   have HStp:=Q00 (HSt3.out.trans (Stp.of pq.b))
   clear G0 G1 G2 hA hB hC
   go_wp2_with fail
   refine (Q2j (some ⟨g,0,none⟩) n c k _ (by omega) (by omega) hkk).mono ?_
   rintro e W6 ⟨rfl,hb6⟩
   have HO6:Hid (W6.ownsRow base Q0k 5 (.slice (some ⟨g,0,none⟩) n c) n (m.flatMap Q0e.cs)):=Q0a HOp.out hb6
   have HC6:Hid (W6.cell? ⟨w.heap.size,0,none⟩=some (.slice (some ⟨g,0,none⟩) n c)):=(hb6.cell (p:=⟨w.heap.size,0,none⟩) zp).trans cp0
   have zc6:w.heap.size < W6.heap.size:=Kbq zp hb6.size
   have HSt6:=Q00 (HStp.out.trans (Stp.of hb6))
   clear hb6 cp0
   go_wp2
   go_roundg (gk - 1)
   case measure=> have:=HNx.out.1;omega
   case rel=> exact ⟨m,i,(k+1) % n,rfl,by simp,HNx.out.2,HO6,HC6,zc6,HSt6⟩
theorem Q3u (b off c:Nat) (l:List Sl) (a p:Int) (w:World) (hn:0 < l.length) (h16:l.length≤16) (hf:Q0c a p=true) (hok:Q0F l) (hbl:b < w.heap.size) (hc:∀i,i < l.length→∀j,j < Q0e.k→w.cell? ⟨b,off+i * Q0e.k+j,none⟩=(Q0e.cs (l.getD i Q0e.d))[j]?):
  Calls Try.prog 96 #[tab (.slice (some ⟨b,off,none⟩) l.length c),Q2S a p] w fun e w'=> ∃b' off' c',e=.returned (.tuple #[tab (.slice (some ⟨b',off',none⟩) l.length c'),.bool (Q0m l a p).2])∧b' < w'.heap.size∧(∀i,i < (Q1N l a p).length→∀j,j < Q0e.k→w'.cell? ⟨b',off'+i * Q0e.k+j,none⟩=(Q0e.cs ((Q1N l a p).getD i Q0e.d))[j]?)∧Below w.heap.size w w'∧(b'=b∨w.heap.size≤b'):=by
 have HC:=Q00 hc
 have hl:l.length≤1048576:=by omega
 clear hc
 obtain ⟨W0,hW0⟩:∃W,(((w.alloc (.cells #[.slice (some ⟨b,off,none⟩) l.length c] 25)).alloc (.cells #[.int .i64 a,.int .i64 p] 29)).alloc (.cells #[.slice none 0 0] 25))=W:=⟨_,rfl⟩
 have hb_W0:Below w.heap.size w W0:=by rw [←hW0];exact ((((Below.refl _ _).alloc (Kaq _) _).alloc (by simp <;> omega) _).alloc (by simp <;> omega) _)
 have HB:=Q00 hb_W0
 clear hb_W0
 have zct:w.heap.size < W0.heap.size:=by rw [←hW0];simp <;> omega
 have ct0:W0.cell? ⟨w.heap.size,0,none⟩=some (.slice (some ⟨b,off,none⟩) l.length c):=by rw [←hW0];simp [go_sem]
 have zcf:w.heap.size+1 < W0.heap.size:=by rw [←hW0];simp <;> omega
 have cf0:W0.cell? ⟨w.heap.size+1,0,none⟩=some (.int .i64 a):=by rw [←hW0];simp [go_sem]
 have cf1:W0.cell? ⟨w.heap.size+1,1,none⟩=some (.int .i64 p):=by rw [←hW0];simp [go_sem]
 have zcr:w.heap.size+1+1 < W0.heap.size:=by rw [←hW0];simp
 have cr0:W0.cell? ⟨w.heap.size+1+1,0,none⟩=some (.slice none 0 0):=by rw [←hW0];simp [go_sem]
 have fcr0:W0.frozen? ⟨w.heap.size+1+1,0,none⟩=false:=by rw [←hW0];simp [go_sem]
 have hat:=Q3g (some ⟨b,off,none⟩) c l a p W0 (.inr ⟨b,off,rfl,Kbq hbl HB.out.size,(fun i hi j hj=> (HB.out.cell (p:=⟨b,off+i * Q0e.k+j,none⟩) hbl).trans (HC.out i hi j hj))⟩) hn hl hf
 have HZ:=Q00 zcr
 rcases Q0C l hn a p with hE|⟨i0,hi0,⟨hE,_⟩|⟨hE,_⟩⟩
 ·skip
  have HP:=Q00 (Q2c (l:=l) (a:=a) (p:=p) (by rw [hE]))
  have HD:=Q00 (show (Q0m l a p).2=false by rw [hE])
  rw [hE] at hat
  clear hE
  go_enter Try.func96,Try.ntmps96
  go_wp2_with fail
  refine (hat).mono ?_
  rintro e v1 ⟨rfl,hb⟩
  replace ct0:v1.cell? ⟨w.heap.size,0,none⟩=some (.slice (some ⟨b,off,none⟩) l.length c):=(hb.cell (p:=⟨w.heap.size,0,none⟩) zct).trans ct0
  replace zct:w.heap.size < v1.heap.size:=Kbq zct hb.size
  replace cf0:v1.cell? ⟨w.heap.size+1,0,none⟩=some (.int .i64 a):=(hb.cell (p:=⟨w.heap.size+1,0,none⟩) zcf).trans cf0
  replace cf1:v1.cell? ⟨w.heap.size+1,1,none⟩=some (.int .i64 p):=(hb.cell (p:=⟨w.heap.size+1,1,none⟩) zcf).trans cf1
  replace zcf:w.heap.size+1 < v1.heap.size:=Kbq zcf hb.size
  replace cr0:v1.cell? ⟨w.heap.size+1+1,0,none⟩=some (.slice none 0 0):=(hb.cell (p:=⟨w.heap.size+1+1,0,none⟩) zcr).trans cr0
  replace fcr0:v1.frozen? ⟨w.heap.size+1+1,0,none⟩=false:=(hb.frozen (p:=⟨w.heap.size+1+1,0,none⟩) zcr).trans fcr0
  replace zcr:w.heap.size+1+1 < v1.heap.size:=Kbq zcr hb.size
  replace HB:=Q00 (HB.out.trans (hb.mono HB.out.size))
  clear hb
  clear hat
  go_wp2
  refine bodyPost_ret (v:=.tuple #[tab (.slice (some ⟨b,off,none⟩) l.length c),.bool false]) (by simp [results,Try.results96,go_sem,cr0]) rfl ⟨b,off,c,by rw [HD.out], ?_, ?_, ?_,.inl rfl⟩
  ·have:=HB.out.size;simp;omega
  ·rw [HP.out]
   intro i hi j hj
   have hB2:=HB.out.setCell (p:=⟨w.heap.size+1+1,0,none⟩) (by simp <;> omega) (.slice (some ⟨b,off,none⟩) l.length c)
   exact (hB2.cell (p:=⟨b,off+i * Q0e.k+j,none⟩) hbl).trans (HC.out i hi j hj)
  ·exact HB.out.setCell (p:=⟨w.heap.size+1+1,0,none⟩) (by simp <;> omega) _
 ·skip
  have HP:=Q00 (Q2c (l:=l) (a:=a) (p:=p) (by rw [hE]))
  have HD:=Q00 (show (Q0m l a p).2=false by rw [hE])
  rw [hE] at hat
  clear hE
  go_enter Try.func96,Try.ntmps96
  go_wp2_with fail
  refine (hat).mono ?_
  rintro e v1 ⟨rfl,hb⟩
  replace ct0:v1.cell? ⟨w.heap.size,0,none⟩=some (.slice (some ⟨b,off,none⟩) l.length c):=(hb.cell (p:=⟨w.heap.size,0,none⟩) zct).trans ct0
  replace zct:w.heap.size < v1.heap.size:=Kbq zct hb.size
  replace cf0:v1.cell? ⟨w.heap.size+1,0,none⟩=some (.int .i64 a):=(hb.cell (p:=⟨w.heap.size+1,0,none⟩) zcf).trans cf0
  replace cf1:v1.cell? ⟨w.heap.size+1,1,none⟩=some (.int .i64 p):=(hb.cell (p:=⟨w.heap.size+1,1,none⟩) zcf).trans cf1
  replace zcf:w.heap.size+1 < v1.heap.size:=Kbq zcf hb.size
  replace cr0:v1.cell? ⟨w.heap.size+1+1,0,none⟩=some (.slice none 0 0):=(hb.cell (p:=⟨w.heap.size+1+1,0,none⟩) zcr).trans cr0
  replace fcr0:v1.frozen? ⟨w.heap.size+1+1,0,none⟩=false:=(hb.frozen (p:=⟨w.heap.size+1+1,0,none⟩) zcr).trans fcr0
  replace zcr:w.heap.size+1+1 < v1.heap.size:=Kbq zcr hb.size
  replace HB:=Q00 (HB.out.trans (hb.mono HB.out.size))
  clear hb
  clear hat
  go_wp2
  refine bodyPost_ret (v:=.tuple #[tab (.slice (some ⟨b,off,none⟩) l.length c),.bool false]) (by simp [results,Try.results96,go_sem,cr0]) rfl ⟨b,off,c,by rw [HD.out], ?_, ?_, ?_,.inl rfl⟩
  ·have:=HB.out.size;simp;omega
  ·rw [HP.out]
   intro i hi j hj
   have hB2:=HB.out.setCell (p:=⟨w.heap.size+1+1,0,none⟩) (by simp <;> omega) (.slice (some ⟨b,off,none⟩) l.length c)
   exact (hB2.cell (p:=⟨b,off+i * Q0e.k+j,none⟩) hbl).trans (HC.out i hi j hj)
  ·exact HB.out.setCell (p:=⟨w.heap.size+1+1,0,none⟩) (by simp <;> omega) _
 ·skip
  have HP:=Q00 (Q2M hE)
  have HD:=Q00 (show (Q0m l a p).2=true by rw [hE])
  rw [hE] at hat
  clear hE
  have HInv0:=Q00 (DropInv.start (l:=l) (i:=i0) h16 hi0 hok)
  have i1:(i0:Int) < (l.length:Int):=by omega
  go_enter Try.func96,Try.ntmps96
  go_wp2_with fail
  refine (hat).mono ?_
  rintro e v1 ⟨rfl,hb⟩
  replace ct0:v1.cell? ⟨w.heap.size,0,none⟩=some (.slice (some ⟨b,off,none⟩) l.length c):=(hb.cell (p:=⟨w.heap.size,0,none⟩) zct).trans ct0
  replace zct:w.heap.size < v1.heap.size:=Kbq zct hb.size
  replace cf0:v1.cell? ⟨w.heap.size+1,0,none⟩=some (.int .i64 a):=(hb.cell (p:=⟨w.heap.size+1,0,none⟩) zcf).trans cf0
  replace cf1:v1.cell? ⟨w.heap.size+1,1,none⟩=some (.int .i64 p):=(hb.cell (p:=⟨w.heap.size+1,1,none⟩) zcf).trans cf1
  replace zcf:w.heap.size+1 < v1.heap.size:=Kbq zcf hb.size
  replace cr0:v1.cell? ⟨w.heap.size+1+1,0,none⟩=some (.slice none 0 0):=(hb.cell (p:=⟨w.heap.size+1+1,0,none⟩) zcr).trans cr0
  replace fcr0:v1.frozen? ⟨w.heap.size+1+1,0,none⟩=false:=(hb.frozen (p:=⟨w.heap.size+1+1,0,none⟩) zcr).trans fcr0
  replace zcr:w.heap.size+1+1 < v1.heap.size:=Kbq zcr hb.size
  replace HB:=Q00 (HB.out.trans (hb.mono HB.out.size))
  clear hb
  go_wp2_with fail
  refine (Q27 b off c l v1 (Kbq hbl HB.out.size) (fun i hi j hj=> (HB.out.cell (p:=⟨b,off+i * Q0e.k+j,none⟩) hbl).trans (HC.out i hi j hj)) hl).mono ?_
  rintro e v2 ⟨o2,c2,rfl,hown,hb⟩
  have HV1:=Q00 zcr
  obtain ⟨g,c3,hve⟩:∃g c3,Value.slice o2 l.length c2=.slice (some ⟨g,0,none⟩) l.length c3:=by
   rcases hown.2 with ⟨_,h0⟩|⟨g,c3,_,h0,_⟩
   ·exact absurd h0 (by omega)
   ·exact ⟨g,c3,h0⟩
  injection hve with hv1 hv2 hv3
  subst hv1 hv3
  have HO:=Q00 hown
  clear hown
  replace ct0:v2.cell? ⟨w.heap.size,0,none⟩=some (.slice (some ⟨b,off,none⟩) l.length c):=(hb.cell (p:=⟨w.heap.size,0,none⟩) zct).trans ct0
  replace zct:w.heap.size < v2.heap.size:=Kbq zct hb.size
  replace cf0:v2.cell? ⟨w.heap.size+1,0,none⟩=some (.int .i64 a):=(hb.cell (p:=⟨w.heap.size+1,0,none⟩) zcf).trans cf0
  replace cf1:v2.cell? ⟨w.heap.size+1,1,none⟩=some (.int .i64 p):=(hb.cell (p:=⟨w.heap.size+1,1,none⟩) zcf).trans cf1
  replace zcf:w.heap.size+1 < v2.heap.size:=Kbq zcf hb.size
  replace cr0:v2.cell? ⟨w.heap.size+1+1,0,none⟩=some (.slice none 0 0):=(hb.cell (p:=⟨w.heap.size+1+1,0,none⟩) zcr).trans cr0
  replace fcr0:v2.frozen? ⟨w.heap.size+1+1,0,none⟩=false:=(hb.frozen (p:=⟨w.heap.size+1+1,0,none⟩) zcr).trans fcr0
  replace zcr:w.heap.size+1+1 < v2.heap.size:=Kbq zcr hb.size
  replace HB:=Q00 (HB.out.trans (hb.mono HB.out.size))
  clear hb
  have HOv:=HO
  obtain ⟨W2,hW2⟩:∃W,(v2.alloc (.cells #[.slice (some ⟨g,0,none⟩) l.length c2] 25))=W:=⟨_,rfl⟩
  have hb_W2:Below v2.heap.size v2 W2:=by rw [←hW2];exact ((Below.refl _ _).alloc (Kaq _) _)
  replace ct0:W2.cell? ⟨w.heap.size,0,none⟩=some (.slice (some ⟨b,off,none⟩) l.length c):=(hb_W2.cell (p:=⟨w.heap.size,0,none⟩) zct).trans ct0
  replace zct:w.heap.size < W2.heap.size:=Kbq zct hb_W2.size
  replace cf0:W2.cell? ⟨w.heap.size+1,0,none⟩=some (.int .i64 a):=(hb_W2.cell (p:=⟨w.heap.size+1,0,none⟩) zcf).trans cf0
  replace cf1:W2.cell? ⟨w.heap.size+1,1,none⟩=some (.int .i64 p):=(hb_W2.cell (p:=⟨w.heap.size+1,1,none⟩) zcf).trans cf1
  replace zcf:w.heap.size+1 < W2.heap.size:=Kbq zcf hb_W2.size
  replace cr0:W2.cell? ⟨w.heap.size+1+1,0,none⟩=some (.slice none 0 0):=(hb_W2.cell (p:=⟨w.heap.size+1+1,0,none⟩) zcr).trans cr0
  replace fcr0:W2.frozen? ⟨w.heap.size+1+1,0,none⟩=false:=(hb_W2.frozen (p:=⟨w.heap.size+1+1,0,none⟩) zcr).trans fcr0
  replace zcr:w.heap.size+1+1 < W2.heap.size:=Kbq zcr hb_W2.size
  replace HO:=Q00 (Q0a HO.out hb_W2)
  replace HB:=Q00 (HB.out.trans (hb_W2.mono HB.out.size))
  clear hb_W2
  have zco:v2.heap.size < W2.heap.size:=by rw [←hW2];simp
  have co0:W2.cell? ⟨v2.heap.size,0,none⟩=some (.slice (some ⟨g,0,none⟩) l.length c2):=by rw [←hW2];simp [go_sem]
  have hgb:=(HOv.out.lt g rfl)
  have hgv:v1.heap.size≤g:=hgb.1
  have hg2:g+1≤v2.heap.size:=hgb.2
  have hz1:=HV1.out
  have hzo2:=zco
  have ho:W2.ownsRow v1.heap.size 84 5 (.slice (some ⟨g,0,none⟩) l.length c2) l.length (l.flatMap Q0e.cs):=HO.out
  have hln:(l.flatMap Q0e.cs).length=l.length * 5:=by rw [Q0u];rfl
  obtain ⟨u0,hu0⟩:∃u,W2.cell? ⟨g,i0 * 5,none⟩=some u:=⟨_,(ho.cellAt (i0 * 5) (by omega)).trans (List.getElem?_eq_getElem (by omega))⟩
  have fu0:=ho.frozenAt (i0 * 5)
  obtain ⟨u1,hu1⟩:∃u,W2.cell? ⟨g,i0 * 5+1,none⟩=some u:=⟨_,(ho.cellAt (i0 * 5+1) (by omega)).trans (List.getElem?_eq_getElem (by omega))⟩
  have fu1:=ho.frozenAt (i0 * 5+1)
  obtain ⟨u2,hu2⟩:∃u,W2.cell? ⟨g,i0 * 5+2,none⟩=some u:=⟨_,(ho.cellAt (i0 * 5+2) (by omega)).trans (List.getElem?_eq_getElem (by omega))⟩
  have fu2:=ho.frozenAt (i0 * 5+2)
  obtain ⟨u3,hu3⟩:∃u,W2.cell? ⟨g,i0 * 5+3,none⟩=some u:=⟨_,(ho.cellAt (i0 * 5+3) (by omega)).trans (List.getElem?_eq_getElem (by omega))⟩
  have fu3:=ho.frozenAt (i0 * 5+3)
  obtain ⟨u4,hu4⟩:∃u,W2.cell? ⟨g,i0 * 5+4,none⟩=some u:=⟨_,(ho.cellAt (i0 * 5+4) (by omega)).trans (List.getElem?_eq_getElem (by omega))⟩
  have fu4:=ho.frozenAt (i0 * 5+4)
  obtain ⟨W3,hW3⟩:∃W,(((((W2.setCell ⟨g,i0 * 5,none⟩ (.bool false)).setCell ⟨g,i0 * 5+1,none⟩ (.int .i64 0)).setCell ⟨g,i0 * 5+2,none⟩ (.int .i64 0)).setCell ⟨g,i0 * 5+3,none⟩ (.int .i64 0)).setCell ⟨g,i0 * 5+4,none⟩ (.int .i64 0))=W:=⟨_,rfl⟩
  have HO3:Hid (W3.ownsRow v1.heap.size 84 5 (.slice (some ⟨g,0,none⟩) l.length c2) l.length ((l.set i0 sl0).flatMap Q0e.cs)):=by rw [←hW3];exact (Q1I (k:=i0) sl0 (Kaq g) ho (Below.refl g W2)).1
  have HSt3:Hid (Stp g (g+1) W2 W3):=by rw [←hW3];exact Q1z W2 g i0 sl0
  have co3:=HSt3.out.cell co0 zco (.inr hg2)
  have hm0:=Q2N l.length i0
  have hne0:((l.length:Int)==0)=false:=beq_eq_false_iff_ne.2 (by omega)
  clear ho hln hat
  go_wp2
  go_loopg [6,10] (Q6l (l.set i0 sl0) i0 ((i0+1) % l.length)) (fun gk iv kv wr=> ∃(m:List Sl) (i k:Nat),iv=.int .i64 i∧kv=.int .i64 k∧Hid (DropInv l.length (Q1j l i0) gk m i k)∧Hid (wr.ownsRow v1.heap.size 84 5 (.slice (some ⟨g,0,none⟩) l.length c2) l.length (m.flatMap Q0e.cs))∧Hid (Stp g (g+1) W2 wr))
  case atStart=> exact ⟨_,i0,(i0+1) % l.length,rfl,by simp,HInv0,HO3,HSt3⟩
  case round=>
   clear co3 HO3 HSt3 hW3 HInv0 hu0 fu0 hu1 fu1 hu2 fu2 hu3 fu3 hu4 fu4 hm0
   obtain ⟨m,i,k,rfl,rfl,HI,HOr,HSt⟩:=hrel
   have hml:=Q00 HI.out.len
   have hik:=HI.out.hi
   have hkk:=HI.out.hk
   have ho:wr.ownsRow v1.heap.size 84 5 (.slice (some ⟨g,0,none⟩) l.length c2) l.length (m.flatMap Q0e.cs):=HOr.out
   have hszr:W2.heap.size≤wr.heap.size:=HSt.out.size
   have cor:=HSt.out.cell co0 zco (.inr hg2)
   have crr:=HSt.out.cell cr0 zcr (.inl (show w.heap.size+1+1 < g by omega))
   have fcrr:=HSt.out.frozen fcr0 zcr (.inl (show w.heap.size+1+1 < g by omega))
   have hk1:(k:Int) < (l.length:Int):=by omega
   have hi1:(i:Int) < (l.length:Int):=by omega
   obtain ⟨s,hxy⟩:∃s,m.getD k sl0=s:=⟨_,rfl⟩
   have hrk:=Q5A ho hml.out.symm k hkk
   rw [hxy] at hrk
   have e0:=hrk.1
   have e1:=hrk.2.1
   have e2:=hrk.2.2.1
   have e3:=hrk.2.2.2.1
   have e4:=hrk.2.2.2.2
   have HX:=Q00 hxy
   clear hrk hxy
   have hsz3:w.heap.size+1+1 < v1.heap.size:=hz1
   by_cases hki:k=i
   ·have HDn:=Q00 (HI.out.done (by rw [hki];exact HI.out.free))
    subst hki
    clear ho
    go_wp2
    refine bodyPost_ret (v:=.tuple #[tab (.slice (some ⟨g,0,none⟩) l.length c2),.bool true]) (by simp [results,Try.results96,go_sem,crr]) rfl ⟨g,0,c2,by rw [HD.out], ?_, ?_, ?_,.inr (by omega)⟩
    ·have h:=(HOr.out.lt g rfl).2;simpa using h
    ·rw [HP.out,←HDn.out]
     have h:=ownsRow_setCell_below HOr.out (a:=⟨w.heap.size+1+1,0,none⟩) hsz3 (.slice (some ⟨g,0,none⟩) l.length c2)
     exact Q0n h hml.out.symm
    ·exact (HB.out.trans (HSt.out.below (by omega) (by omega))).setCell (p:=⟨w.heap.size+1+1,0,none⟩) (by simp <;> omega) _
   ·have hki2:((k:Int)==(i:Int))=false:=beq_eq_false_iff_ne.2 (by omega)
    have hki3:¬(k:Int)=(i:Int):=by omega
    obtain ⟨su,sa,sp,sv,st⟩:=s
    simp only at e0 e1 e2 e3 e4
    cases su with
    |false=>
     have HDn:=Q00 (HI.out.done (by rw [HX.out]))
     clear ho
     go_wp2
     refine bodyPost_ret (v:=.tuple #[tab (.slice (some ⟨g,0,none⟩) l.length c2),.bool true]) (by simp [results,Try.results96,go_sem,crr]) rfl ⟨g,0,c2,by rw [HD.out], ?_, ?_, ?_,.inr (by omega)⟩
     ·have h:=(HOr.out.lt g rfl).2;simpa using h
     ·rw [HP.out,←HDn.out]
      have h:=ownsRow_setCell_below HOr.out (a:=⟨w.heap.size+1+1,0,none⟩) hsz3 (.slice (some ⟨g,0,none⟩) l.length c2)
      exact Q0n h hml.out.symm
     ·exact (HB.out.trans (HSt.out.below (by omega) (by omega))).setCell (p:=⟨w.heap.size+1+1,0,none⟩) (by simp <;> omega) _
    |true=>
     have hfo:Q0c sa sp=true:=by have h:=HI.out.ok k (by have:=hml.out;omega) (by rw [HX.out]);rw [HX.out] at h;exact h
     have hhl:=Q0V hn sa sp
     have HMv:=Q00 (show Q2D l.length m i k=decide (Q0U l.length i k≤Q0U l.length (Q0B l.length sa sp) k) by unfold Q2D;rw [HX.out])
     have HOx:=Q00 ho
     clear ho
     go_wp2_with fail
     refine (Q4a l.length sa sp wr hn hl hfo).mono ?_
     rintro e W6 ⟨rfl,hb6⟩
     generalize Q0B l.length sa sp=hm at *
     have hm1:(hm:Int) < (l.length:Int):=by omega
     have hf1:=Q4r hhl hkk
     have hf2:=Q4r hik hkk
     have hnx:=Q2N l.length k
     have ho6:W6.ownsRow v1.heap.size 84 5 (.slice (some ⟨g,0,none⟩) l.length c2) l.length (m.flatMap Q0e.cs):=Q0a HOx.out hb6
     have zcor:v2.heap.size < wr.heap.size:=by omega
     have co6:W6.cell? ⟨v2.heap.size,0,none⟩=some (.slice (some ⟨g,0,none⟩) l.length c2):=(hb6.cell (p:=⟨v2.heap.size,0,none⟩) zcor).trans cor
     have HSt6:=Q00 (HSt.out.trans (Stp.of hb6))
     clear hb6 cor crr fcrr
     generalize Q0U l.length hm k=d1 at *
     generalize Q0U l.length i k=d2 at *
     by_cases hmv:(d2:Int)≤(d1:Int)
     ·skip
      have HNx:=Q00 (HI.out.move (by rw [HX.out]) (by rw [HMv.out];exact decide_eq_true (by omega)))
      rw [HX.out] at HNx
      have hln:(m.flatMap Q0e.cs).length=l.length * 5:=by rw [Q0u,hml.out];rfl
      have hrk:=Q5A ho6 hml.out.symm k hkk
      rw [HX.out] at hrk
      have g0:=hrk.1
      have g1:=hrk.2.1
      have g2:=hrk.2.2.1
      have g3:=hrk.2.2.2.1
      have g4:=hrk.2.2.2.2
      simp only at g0 g1 g2 g3 g4
      clear hrk e0 e1 e2 e3 e4
      obtain ⟨u0,hu0⟩:∃u,W6.cell? ⟨g,i * 5,none⟩=some u:=⟨_,(ho6.cellAt (i * 5) (by omega)).trans (List.getElem?_eq_getElem (by omega))⟩
      have fu0:=ho6.frozenAt (i * 5)
      obtain ⟨u1,hu1⟩:∃u,W6.cell? ⟨g,i * 5+1,none⟩=some u:=⟨_,(ho6.cellAt (i * 5+1) (by omega)).trans (List.getElem?_eq_getElem (by omega))⟩
      have fu1:=ho6.frozenAt (i * 5+1)
      obtain ⟨u2,hu2⟩:∃u,W6.cell? ⟨g,i * 5+2,none⟩=some u:=⟨_,(ho6.cellAt (i * 5+2) (by omega)).trans (List.getElem?_eq_getElem (by omega))⟩
      have fu2:=ho6.frozenAt (i * 5+2)
      obtain ⟨u3,hu3⟩:∃u,W6.cell? ⟨g,i * 5+3,none⟩=some u:=⟨_,(ho6.cellAt (i * 5+3) (by omega)).trans (List.getElem?_eq_getElem (by omega))⟩
      have fu3:=ho6.frozenAt (i * 5+3)
      obtain ⟨u4,hu4⟩:∃u,W6.cell? ⟨g,i * 5+4,none⟩=some u:=⟨_,(ho6.cellAt (i * 5+4) (by omega)).trans (List.getElem?_eq_getElem (by omega))⟩
      have fu4:=ho6.frozenAt (i * 5+4)
      obtain ⟨W4,hW4⟩:∃W,(((((W6.setCell ⟨g,i * 5,none⟩ (.bool true)).setCell ⟨g,i * 5+1,none⟩ (.int .i64 sa)).setCell ⟨g,i * 5+2,none⟩ (.int .i64 sp)).setCell ⟨g,i * 5+3,none⟩ (.int .i64 sv)).setCell ⟨g,i * 5+4,none⟩ (.int .i64 st))=W:=⟨_,rfl⟩
      have ho4:W4.ownsRow v1.heap.size 84 5 (.slice (some ⟨g,0,none⟩) l.length c2) l.length ((m.set i ⟨true,sa,sp,sv,st⟩).flatMap Q0e.cs):=by rw [←hW4];exact (Q1I (k:=i) ⟨true,sa,sp,sv,st⟩ (Kaq g) ho6 (Below.refl g W6)).1
      have HSt4:Hid (Stp g (g+1) W6 W4):=by rw [←hW4];exact Q1z W6 g i ⟨true,sa,sp,sv,st⟩
      have hln4:((m.set i ⟨true,sa,sp,sv,st⟩).flatMap Q0e.cs).length=l.length * 5:=by rw [Q0u,List.length_set,hml.out];rfl
      have zco6:v2.heap.size < W6.heap.size:=Kbq hzo2 HSt6.out.size
      have co4:=HSt4.out.cell co6 zco6 (.inr hg2)
      obtain ⟨y0,hy0⟩:∃u,W4.cell? ⟨g,k * 5,none⟩=some u:=⟨_,(ho4.cellAt (k * 5) (by omega)).trans (List.getElem?_eq_getElem (by omega))⟩
      have fy0:=ho4.frozenAt (k * 5)
      obtain ⟨y1,hy1⟩:∃u,W4.cell? ⟨g,k * 5+1,none⟩=some u:=⟨_,(ho4.cellAt (k * 5+1) (by omega)).trans (List.getElem?_eq_getElem (by omega))⟩
      have fy1:=ho4.frozenAt (k * 5+1)
      obtain ⟨y2,hy2⟩:∃u,W4.cell? ⟨g,k * 5+2,none⟩=some u:=⟨_,(ho4.cellAt (k * 5+2) (by omega)).trans (List.getElem?_eq_getElem (by omega))⟩
      have fy2:=ho4.frozenAt (k * 5+2)
      obtain ⟨y3,hy3⟩:∃u,W4.cell? ⟨g,k * 5+3,none⟩=some u:=⟨_,(ho4.cellAt (k * 5+3) (by omega)).trans (List.getElem?_eq_getElem (by omega))⟩
      have fy3:=ho4.frozenAt (k * 5+3)
      obtain ⟨y4,hy4⟩:∃u,W4.cell? ⟨g,k * 5+4,none⟩=some u:=⟨_,(ho4.cellAt (k * 5+4) (by omega)).trans (List.getElem?_eq_getElem (by omega))⟩
      have fy4:=ho4.frozenAt (k * 5+4)
      obtain ⟨W5,hW5⟩:∃W,(((((W4.setCell ⟨g,k * 5,none⟩ (.bool false)).setCell ⟨g,k * 5+1,none⟩ (.int .i64 0)).setCell ⟨g,k * 5+2,none⟩ (.int .i64 0)).setCell ⟨g,k * 5+3,none⟩ (.int .i64 0)).setCell ⟨g,k * 5+4,none⟩ (.int .i64 0))=W:=⟨_,rfl⟩
      have HO5:Hid (W5.ownsRow v1.heap.size 84 5 (.slice (some ⟨g,0,none⟩) l.length c2) l.length (((m.set i ⟨true,sa,sp,sv,st⟩).set k sl0).flatMap Q0e.cs)):=by rw [←hW5];exact (Q1I (k:=k) sl0 (Kaq g) ho4 (Below.refl g W4)).1
      have HSt5:Hid (Stp g (g+1) W4 W5):=by rw [←hW5];exact Q1z W4 g k sl0
      have HStA:=Q00 (HSt6.out.trans (HSt4.out.trans HSt5.out))
      clear ho6 ho4 hln hln4
      go_wp2
      go_region
      go_wp2
      go_region
      go_wp2
      go_roundg (gk - 1)
      case measure=> have:=HNx.out.1;omega
      case rel=> exact ⟨_,k,(k+1) % l.length,rfl,by simp,HNx.out.2,HO5,HStA.out.drew.drew⟩
     ·skip
      have HNx:=Q00 (HI.out.stay (by rw [HX.out]) (by rw [HMv.out];exact decide_eq_false (by omega)))
      have hmv':decide (d2≤d1)=false:=decide_eq_false (by omega)
      have hmv2:decide ((d2:Int)≤(d1:Int))=false:=decide_eq_false hmv
      have HO6:=Q00 ho6
      clear ho6
      go_wp2
      go_region
      go_wp2
      go_roundg (gk - 1)
      case measure=> have:=HNx.out.1;omega
      case rel=> exact ⟨m,i,(k+1) % l.length,rfl,by simp,HNx.out.2,HO6,HSt6.out.drew⟩
theorem Q7q (g c base:Nat) (l:List Sl) (a p:Int) (w:World) (hn:0 < l.length) (h16:l.length≤16) (hf:Q0c a p=true) (hok:Q0F l) (ho:w.ownsRow base Q0k 5 (.slice (some ⟨g,0,none⟩) l.length c) l.length (l.flatMap Q0e.cs)):
  Calls Try.prog 81 #[tab (.slice (some ⟨g,0,none⟩) l.length c),Q2S a p] w fun e w'=> e=.returned (.bool (Q0m l a p).2)∧w'.ownsRow base Q0k 5 (.slice (some ⟨g,0,none⟩) l.length c) l.length ((Q1N l a p).flatMap Q0e.cs)∧Stp g (g+1) w w':=by
 have HO:=Q00 ho
 have hl:l.length≤1048576:=by omega
 clear ho
 obtain ⟨W0,hW0⟩:∃W,((w.alloc (.cells #[.slice (some ⟨g,0,none⟩) l.length c] 63)).alloc (.cells #[.int .i64 a,.int .i64 p] 29))=W:=⟨_,rfl⟩
 have hb_W0:Below w.heap.size w W0:=by rw [←hW0];exact (((Below.refl _ _).alloc (Kaq _) _).alloc (by simp <;> omega) _)
 replace HO:=Q00 (Q0a HO.out hb_W0)
 have HB:=Q00 hb_W0
 clear hb_W0
 have zct:w.heap.size < W0.heap.size:=by rw [←hW0];simp <;> omega
 have ct0:W0.cell? ⟨w.heap.size,0,none⟩=some (.slice (some ⟨g,0,none⟩) l.length c):=by rw [←hW0];simp [go_sem]
 have zcf:w.heap.size+1 < W0.heap.size:=by rw [←hW0];simp
 have cf0:W0.cell? ⟨w.heap.size+1,0,none⟩=some (.int .i64 a):=by rw [←hW0];simp [go_sem]
 have cf1:W0.cell? ⟨w.heap.size+1,1,none⟩=some (.int .i64 p):=by rw [←hW0];simp [go_sem]
 have hat:=Q1C g 0 c l a p W0 hn hl hf (HO.out.lt g rfl).2 (Q0n HO.out rfl)
 rcases Q0C l hn a p with hE|⟨i0,hi0,⟨hE,_⟩|⟨hE,_⟩⟩
 ·skip
  have HP:=Q00 (Q2c (l:=l) (a:=a) (p:=p) (by rw [hE]))
  have HD:=Q00 (show (Q0m l a p).2=false by rw [hE])
  rw [hE] at hat
  clear hE
  go_enter Try.func81,Try.ntmps81
  go_wp2_with fail
  refine (hat).mono ?_
  rintro e v1 ⟨rfl,hb⟩
  replace ct0:v1.cell? ⟨w.heap.size,0,none⟩=some (.slice (some ⟨g,0,none⟩) l.length c):=(hb.cell (p:=⟨w.heap.size,0,none⟩) zct).trans ct0
  replace zct:w.heap.size < v1.heap.size:=Kbq zct hb.size
  replace cf0:v1.cell? ⟨w.heap.size+1,0,none⟩=some (.int .i64 a):=(hb.cell (p:=⟨w.heap.size+1,0,none⟩) zcf).trans cf0
  replace cf1:v1.cell? ⟨w.heap.size+1,1,none⟩=some (.int .i64 p):=(hb.cell (p:=⟨w.heap.size+1,1,none⟩) zcf).trans cf1
  replace zcf:w.heap.size+1 < v1.heap.size:=Kbq zcf hb.size
  replace HO:=Q00 (Q0a HO.out hb)
  replace HB:=Q00 (HB.out.trans (hb.mono HB.out.size))
  clear hb
  clear hat
  go_wp2
  go_ret
  exact ⟨by rw [HD.out];rfl,by rw [HP.out];exact HO.out,Stp.of HB.out⟩
 ·skip
  have HP:=Q00 (Q2c (l:=l) (a:=a) (p:=p) (by rw [hE]))
  have HD:=Q00 (show (Q0m l a p).2=false by rw [hE])
  rw [hE] at hat
  clear hE
  go_enter Try.func81,Try.ntmps81
  go_wp2_with fail
  refine (hat).mono ?_
  rintro e v1 ⟨rfl,hb⟩
  replace ct0:v1.cell? ⟨w.heap.size,0,none⟩=some (.slice (some ⟨g,0,none⟩) l.length c):=(hb.cell (p:=⟨w.heap.size,0,none⟩) zct).trans ct0
  replace zct:w.heap.size < v1.heap.size:=Kbq zct hb.size
  replace cf0:v1.cell? ⟨w.heap.size+1,0,none⟩=some (.int .i64 a):=(hb.cell (p:=⟨w.heap.size+1,0,none⟩) zcf).trans cf0
  replace cf1:v1.cell? ⟨w.heap.size+1,1,none⟩=some (.int .i64 p):=(hb.cell (p:=⟨w.heap.size+1,1,none⟩) zcf).trans cf1
  replace zcf:w.heap.size+1 < v1.heap.size:=Kbq zcf hb.size
  replace HO:=Q00 (Q0a HO.out hb)
  replace HB:=Q00 (HB.out.trans (hb.mono HB.out.size))
  clear hb
  clear hat
  go_wp2
  go_ret
  exact ⟨by rw [HD.out];rfl,by rw [HP.out];exact HO.out,Stp.of HB.out⟩
 ·skip
  have HP:=Q00 (Q2M hE)
  have HD:=Q00 (show (Q0m l a p).2=true by rw [hE])
  rw [hE] at hat
  clear hE
  go_enter Try.func81,Try.ntmps81
  go_wp2_with fail
  refine (hat).mono ?_
  rintro e v1 ⟨rfl,hb⟩
  replace ct0:v1.cell? ⟨w.heap.size,0,none⟩=some (.slice (some ⟨g,0,none⟩) l.length c):=(hb.cell (p:=⟨w.heap.size,0,none⟩) zct).trans ct0
  replace zct:w.heap.size < v1.heap.size:=Kbq zct hb.size
  replace cf0:v1.cell? ⟨w.heap.size+1,0,none⟩=some (.int .i64 a):=(hb.cell (p:=⟨w.heap.size+1,0,none⟩) zcf).trans cf0
  replace cf1:v1.cell? ⟨w.heap.size+1,1,none⟩=some (.int .i64 p):=(hb.cell (p:=⟨w.heap.size+1,1,none⟩) zcf).trans cf1
  replace zcf:w.heap.size+1 < v1.heap.size:=Kbq zcf hb.size
  replace HO:=Q00 (Q0a HO.out hb)
  replace HB:=Q00 (HB.out.trans (hb.mono HB.out.size))
  clear hb
  go_wp2_with fail
  refine (Q5V g c base l.length i0 l v1 rfl h16 hi0 hok HO.out).mono ?_
  rintro e W2 ⟨⟨v,rfl⟩,ho2,hst⟩
  have HO2:=Q00 ho2
  have HSt:=Q00 ((Stp.of (lo:=g) (hi:=g+1) HB.out).trans hst)
  clear ho2 hst hat
  go_wp2
  go_ret
  exact ⟨by rw [HD.out];rfl,by rw [HP.out];exact HO2.out,HSt.out⟩
theorem Q5K {W:World} {B b off n c:Nat} {o:Option Addr} {T:TypeId} {m:List Sl} (hm:0 < m.length) (hB:W.heap[B]? =some (.cells #[.slice o n c] T (0,0))) (hr:(∀i,i < m.length→∀j,j < Q0e.k→W.cell? ⟨b,off+i * Q0e.k+j,none⟩=(Q0e.cs (m.getD i Q0e.d))[j]?)):b≠B:=by
 rintro rfl
 have h:W.cell? ⟨b,off+0 * Q0e.k+0,none⟩=some (.bool (m.getD 0 Q0e.d).u):=hr 0 hm 0 (by decide)
 simp only [World.cell?,hB,Nat.zero_mul,Nat.add_zero] at h
 rcases off with _|off <;> simp at h
theorem Stp.same {lo hi b j:Nat} {w w':World} (s:Stp lo hi w w') (hb:b < w.heap.size) (hd:b < lo∨hi≤b):w'.cell? ⟨b,j,none⟩=w.cell? ⟨b,j,none⟩:=by
 simp only [World.cell?,s.block b hb hd]
theorem Stp.wide' {a b lo hi:Nat} {w w':World} (h:Stp a b w w') (h1:lo≤a) (h2:b≤hi):Stp lo hi w w':=⟨h.os,h.tape,h.output,h.size,fun k hk hn=> h.block k hk (by omega)⟩
theorem Q5N {m:Am} (h:Q0o m=true):Q0b m.c=true∧Q0b m.t=true∧m.c.length≤16∧m.t.length≤16:=by
 have h:=Q0A.1 h
 exact ⟨h.2.2.2.2.1,h.2.2.2.2.2.1,(Q0d.1 h.2.2.2.2.1).2.1,(Q0d.1 h.2.2.2.2.2.1).2.1⟩
theorem Q55 (n:Int) (w:World):Calls Try.prog 27 #[.int .i64 n] w fun e w'=> e=.returned (.bool (decide (0≤n) && decide (n≤100000)))∧w=w':=by
 go_enter Try.func27,Try.ntmps27
 go_wp2
 all_goals go_ret
 all_goals refine ⟨Q0i ?_,rfl⟩
 all_goals first|(simp [*];done)|(simp;omega)
theorem bC {C b j:Nat} {w w':World} {u:Value} (h:Below C w w') (hc:w.cell? ⟨b,j,none⟩=some u) (hz:b < C):w'.cell? ⟨b,j,none⟩=some u:=(h.cell (p:=⟨b,j,none⟩) hz).trans hc
theorem bF {C b j:Nat} {w w':World} (h:Below C w w') (hc:w.frozen? ⟨b,j,none⟩=false) (hz:b < C):w'.frozen? ⟨b,j,none⟩=false:=(h.frozen (p:=⟨b,j,none⟩) hz).trans hc
abbrev Row (w:World) (b off:Nat) (l:List Sl):Prop:=∀i,i < l.length→∀j,j < Q0e.k→w.cell? ⟨b,off+i * Q0e.k+j,none⟩=(Q0e.cs (l.getD i Q0e.d))[j]?
theorem Row.kept {C:Nat} {w w':World} {b off:Nat} {l:List Sl} (h:Row w b off l) (hb:Below C w w') (hz:b < C):Row w' b off l:=fun i hi j hj=> (hb.cell (p:=⟨b,off+i * Q0e.k+j,none⟩) hz).trans (h i hi j hj)
theorem Row.step {lo hi:Nat} {w w':World} {b off:Nat} {l:List Sl} (h:Row w b off l) (s:Stp lo hi w w') (hz:b < w.heap.size) (hd:b < lo∨hi≤b):Row w' b off l:=fun i hi j hj=> (s.same hz hd).trans (h i hi j hj)
theorem Q0X (m:Am) (bc fc cc bt ft ct:Nat) (now a p:Int) (w:World) (hn0:0≤now) (hn1:now≤100000) (hfl:Q0c a p=true) (hc0:0 < m.c.length) (hc16:m.c.length≤16) (ht0:0 < m.t.length) (ht16:m.t.length≤16) (zc:bc < w.heap.size) (zt:bt < w.heap.size) (hC:Row w bc fc m.c) (hT:Row w bt ft m.t):
  Calls Try.prog 107 #[agt m.id m.lim m.dr (.slice (some ⟨bc,fc,none⟩) m.c.length cc) (.slice (some ⟨bt,ft,none⟩) m.t.length ct),.int .i64 now,Q2S a p] w fun e w'=> ∃bt' ft' ct',e=.returned (.tuple #[agt m.id m.lim m.dr (.slice (some ⟨bc,fc,none⟩) m.c.length cc) (.slice (some ⟨bt',ft',none⟩) m.t.length ct'),.bool (decide (0≤(Q0m m.t a p).1))])∧bt' < w'.heap.size∧Row w' bt' ft' (Q11 m.t a p 0 (now+20+1))∧Below w.heap.size w w'∧(bt'=bt∨w.heap.size≤bt'):=by
 have HT:=Q00 hT
 clear hC hT
 obtain ⟨W0,hW0⟩:∃W,(((w.alloc (.cells #[.int .i64 m.id,.int .i64 m.lim,.bool m.dr,.slice (some ⟨bc,fc,none⟩) m.c.length cc,.slice (some ⟨bt,ft,none⟩) m.t.length ct] 27)).alloc (.cells #[.int .i64 a,.int .i64 p] 29)).alloc (.cells #[.int .i64 0,.int .i64 0,.bool false,.slice none 0 0,.slice none 0 0] 27))=W:=⟨_,rfl⟩
 have hb_W0:Below w.heap.size w W0:=by rw [←hW0];exact ((((Below.refl _ _).alloc (Kaq _) _).alloc (by simp <;> omega) _).alloc (by simp <;> omega) _)
 have HB:=Q00 hb_W0
 clear hb_W0
 have zz:w.heap.size < W0.heap.size:=by rw [←hW0];simp <;> omega
 have z0:W0.cell? ⟨w.heap.size,0,none⟩=some (.int .i64 m.id):=by rw [←hW0];simp [go_sem]
 have z1:W0.cell? ⟨w.heap.size,1,none⟩=some (.int .i64 m.lim):=by rw [←hW0];simp [go_sem]
 have z2:W0.cell? ⟨w.heap.size,2,none⟩=some (.bool m.dr):=by rw [←hW0];simp [go_sem]
 have z3:W0.cell? ⟨w.heap.size,3,none⟩=some (.slice (some ⟨bc,fc,none⟩) m.c.length cc):=by rw [←hW0];simp [go_sem]
 have z4:W0.cell? ⟨w.heap.size,4,none⟩=some (.slice (some ⟨bt,ft,none⟩) m.t.length ct):=by rw [←hW0];simp [go_sem]
 have fz0:W0.frozen? ⟨w.heap.size,0,none⟩=false:=by rw [←hW0];simp [go_sem]
 have fz1:W0.frozen? ⟨w.heap.size,1,none⟩=false:=by rw [←hW0];simp [go_sem]
 have fz2:W0.frozen? ⟨w.heap.size,2,none⟩=false:=by rw [←hW0];simp [go_sem]
 have fz3:W0.frozen? ⟨w.heap.size,3,none⟩=false:=by rw [←hW0];simp [go_sem]
 have fz4:W0.frozen? ⟨w.heap.size,4,none⟩=false:=by rw [←hW0];simp [go_sem]
 have zf:w.heap.size+1 < W0.heap.size:=by rw [←hW0];simp <;> omega
 have f0:W0.cell? ⟨w.heap.size+1,0,none⟩=some (.int .i64 a):=by rw [←hW0];simp [go_sem]
 have f1:W0.cell? ⟨w.heap.size+1,1,none⟩=some (.int .i64 p):=by rw [←hW0];simp [go_sem]
 have zr:w.heap.size+1+1 < W0.heap.size:=by rw [←hW0];simp
 have r0:W0.cell? ⟨w.heap.size+1+1,0,none⟩=some (.int .i64 0):=by rw [←hW0];simp [go_sem]
 have r1:W0.cell? ⟨w.heap.size+1+1,1,none⟩=some (.int .i64 0):=by rw [←hW0];simp [go_sem]
 have r2:W0.cell? ⟨w.heap.size+1+1,2,none⟩=some (.bool false):=by rw [←hW0];simp [go_sem]
 have r3:W0.cell? ⟨w.heap.size+1+1,3,none⟩=some (.slice none 0 0):=by rw [←hW0];simp [go_sem]
 have r4:W0.cell? ⟨w.heap.size+1+1,4,none⟩=some (.slice none 0 0):=by rw [←hW0];simp [go_sem]
 have fr0:W0.frozen? ⟨w.heap.size+1+1,0,none⟩=false:=by rw [←hW0];simp [go_sem]
 have fr1:W0.frozen? ⟨w.heap.size+1+1,1,none⟩=false:=by rw [←hW0];simp [go_sem]
 have fr2:W0.frozen? ⟨w.heap.size+1+1,2,none⟩=false:=by rw [←hW0];simp [go_sem]
 have fr3:W0.frozen? ⟨w.heap.size+1+1,3,none⟩=false:=by rw [←hW0];simp [go_sem]
 have fr4:W0.frozen? ⟨w.heap.size+1+1,4,none⟩=false:=by rw [←hW0];simp [go_sem]
 have hz0:=zr
 have H1:=Q00 (Q1P bt ft ct m.t a p 0 (now+20+1) W0 ht0 (by omega) hfl (Kbq zt HB.out.size) (HT.out.kept HB.out zt))
 have hpl:=Q0p m.t a p 0 (now+20+1)
 generalize Q11 m.t a p 0 (now+20+1)=tl at *
 generalize decide (0≤(Q0m m.t a p).1)=tb at *
 have hw1:IntKind.i64.wrap (now+20)=now+20:=by rw [IntKind.wrap_i64];omega
 have hw2:IntKind.i64.wrap (now+20+1)=now+20+1:=by rw [IntKind.wrap_i64];omega
 go_enter Try.func107,Try.ntmps107
 go_wp2_with fail
 refine (H1.out).mono ?_
 rintro e v1 ⟨b2,f2,c2,rfl,hz2,hrd,hb,hq⟩
 have HR:=Q00 hrd
 have hs1:=hb.size
 clear hrd
 replace z0:=bC hb z0 zz
 replace z1:=bC hb z1 zz
 replace z2:=bC hb z2 zz
 replace z3:=bC hb z3 zz
 replace z4:=bC hb z4 zz
 replace fz0:=bF hb fz0 zz
 replace fz1:=bF hb fz1 zz
 replace fz2:=bF hb fz2 zz
 replace fz3:=bF hb fz3 zz
 replace fz4:=bF hb fz4 zz
 replace zz:=Kbq zz hb.size
 replace f0:=bC hb f0 zf
 replace f1:=bC hb f1 zf
 replace zf:=Kbq zf hb.size
 replace r0:=bC hb r0 zr
 replace r1:=bC hb r1 zr
 replace r2:=bC hb r2 zr
 replace r3:=bC hb r3 zr
 replace r4:=bC hb r4 zr
 replace fr0:=bF hb fr0 zr
 replace fr1:=bF hb fr1 zr
 replace fr2:=bF hb fr2 zr
 replace fr3:=bF hb fr3 zr
 replace fr4:=bF hb fr4 zr
 replace zr:=Kbq zr hb.size
 replace HB:=Q00 (HB.out.trans (hb.mono HB.out.size))
 clear hb
 obtain ⟨W2,hW2⟩:∃W,(v1.alloc (.cells #[.slice (some ⟨b2,f2,none⟩) m.t.length c2] 25))=W:=⟨_,rfl⟩
 have hb_W2:Below v1.heap.size v1 W2:=by rw [←hW2];exact ((Below.refl _ _).alloc (Kaq _) _)
 replace z0:=bC hb_W2 z0 zz
 replace z1:=bC hb_W2 z1 zz
 replace z2:=bC hb_W2 z2 zz
 replace z3:=bC hb_W2 z3 zz
 replace z4:=bC hb_W2 z4 zz
 replace fz0:=bF hb_W2 fz0 zz
 replace fz1:=bF hb_W2 fz1 zz
 replace fz2:=bF hb_W2 fz2 zz
 replace fz3:=bF hb_W2 fz3 zz
 replace fz4:=bF hb_W2 fz4 zz
 replace zz:=Kbq zz hb_W2.size
 replace f0:=bC hb_W2 f0 zf
 replace f1:=bC hb_W2 f1 zf
 replace zf:=Kbq zf hb_W2.size
 replace r0:=bC hb_W2 r0 zr
 replace r1:=bC hb_W2 r1 zr
 replace r2:=bC hb_W2 r2 zr
 replace r3:=bC hb_W2 r3 zr
 replace r4:=bC hb_W2 r4 zr
 replace fr0:=bF hb_W2 fr0 zr
 replace fr1:=bF hb_W2 fr1 zr
 replace fr2:=bF hb_W2 fr2 zr
 replace fr3:=bF hb_W2 fr3 zr
 replace fr4:=bF hb_W2 fr4 zr
 replace zr:=Kbq zr hb_W2.size
 replace HB:=Q00 (HB.out.trans (hb_W2.mono HB.out.size))
 clear hb_W2
 have zx:v1.heap.size < W2.heap.size:=by rw [←hW2];simp
 have x0:W2.cell? ⟨v1.heap.size,0,none⟩=some (.slice (some ⟨b2,f2,none⟩) m.t.length c2):=by rw [←hW2];simp [go_sem]
 have hb2:=(show Below v1.heap.size v1 W2 by rw [←hW2];exact (Below.refl _ _).alloc (Kaq _) _)
 have HR2:=Q00 (Row.kept HR.out hb2 hz2)
 have hs2:=hb2.size
 clear HR hb2 H1
 have hne1:v1.heap.size≠w.heap.size:=by omega
 have hne2:w.heap.size≠v1.heap.size:=by omega
 have hqa:b2 < w.heap.size∨w.heap.size+1+1+1≤b2:=by omega
 go_wp2
 refine bodyPost_ret (v:=.tuple #[agt m.id m.lim m.dr (.slice (some ⟨bc,fc,none⟩) m.c.length cc) (.slice (some ⟨b2,f2,none⟩) m.t.length c2),.bool tb]) (by simp [results,Try.results107,go_sem,r0,r1,r2,r3,r4]) rfl ⟨b2,f2,c2,rfl,by simp;omega, ?_, ?_,by omega⟩
 ·have hst:Stp w.heap.size (w.heap.size+1+1+1) W2 _:=((Q0s W2 w.heap.size 4 (.slice (some ⟨b2,f2,none⟩) m.t.length c2)).wide' (Kaq _) (by omega)).trans ((Q04 _ (w.heap.size+1+1) (.int .i64 m.id) (.int .i64 m.lim) (.bool m.dr) (.slice (some ⟨bc,fc,none⟩) m.c.length cc) (.slice (some ⟨b2,f2,none⟩) m.t.length c2)).wide' (by omega) (Kaq _))
  exact Row.step HR2.out hst (by omega) hqa
 ·exact Q07 (HB.out.setCell (p:=⟨w.heap.size,4,none⟩) (Kaq _) _) (by omega) _ _ _ _ _
def Q2T (c:List Sl) (now a p f s:Int):List Sl:=if bits .and .i64 f 12=0 then Q11 c a p s (now+50) else Q1N c a p
def Q3e (t:List Sl) (now a p f:Int):List Sl:=if bits .and .i64 f 12=0 then t else Q11 t a p 0 (now+20+1)
theorem Q79 (c:List Sl) (now a p f s:Int):(Q2T c now a p f s).length=c.length:=by
 unfold Q2T
 split
 ·exact Q0p _ _ _ _ _
 ·exact Q22 _ _ _
theorem Q6w (t:List Sl) (now a p f:Int):(Q3e t now a p f).length=t.length:=by
 unfold Q3e
 split
 ·rfl
 ·exact Q0p _ _ _ _ _
theorem Q4c (m:Am) (bc fc cc bt ft ct:Nat) (now a p f s:Int) (o:Option Addr) (n cp:Nat) (w:World) (hn0:0≤now) (hn1:now≤100000) (hfl:Q0c a p=true) (hc0:0 < m.c.length) (hc16:m.c.length≤16) (ht0:0 < m.t.length) (ht16:m.t.length≤16) (zc:bc < w.heap.size) (zt:bt < w.heap.size) (hC:Row w bc fc m.c) (hT:Row w bt ft m.t) (hok:Q0F m.c):
  Calls Try.prog 92 #[agt m.id m.lim m.dr (.slice (some ⟨bc,fc,none⟩) m.c.length cc) (.slice (some ⟨bt,ft,none⟩) m.t.length ct),.int .i64 now,.agg #[.int .i64 a,.int .i64 p,.int .i64 f,.int .i64 s,.slice o n cp]] w fun e w'=> ∃bc' fc' cc' bt' ft' ct',e=.returned (agt m.id m.lim m.dr (.slice (some ⟨bc',fc',none⟩) m.c.length cc') (.slice (some ⟨bt',ft',none⟩) m.t.length ct'))∧bc' < w'.heap.size∧bt' < w'.heap.size∧Row w' bc' fc' (Q2T m.c now a p f s)∧Row w' bt' ft' (Q3e m.t now a p f)∧Below w.heap.size w w'∧(bc'=bc∨w.heap.size≤bc')∧(bt'=bt∨w.heap.size≤bt'):=by
 have HC:=Q00 hC
 have HT:=Q00 hT
 clear hC hT
 have hw1:IntKind.i64.wrap (now+50)=now+50:=by rw [IntKind.wrap_i64];omega
 obtain ⟨W0,hW0⟩:∃W,(((w.alloc (.cells #[.int .i64 m.id,.int .i64 m.lim,.bool m.dr,.slice (some ⟨bc,fc,none⟩) m.c.length cc,.slice (some ⟨bt,ft,none⟩) m.t.length ct] 27)).alloc (.cells #[.int .i64 a,.int .i64 p,.int .i64 f,.int .i64 s,.slice o n cp] 31)).alloc (.cells #[.int .i64 0,.int .i64 0,.bool false,.slice none 0 0,.slice none 0 0] 27))=W:=⟨_,rfl⟩
 have hb_W0:Below w.heap.size w W0:=by rw [←hW0];exact ((((Below.refl _ _).alloc (Kaq _) _).alloc (by simp <;> omega) _).alloc (by simp <;> omega) _)
 have HB:=Q00 hb_W0
 clear hb_W0
 have zz:w.heap.size < W0.heap.size:=by rw [←hW0];simp <;> omega
 have z0:W0.cell? ⟨w.heap.size,0,none⟩=some (.int .i64 m.id):=by rw [←hW0];simp [go_sem]
 have z1:W0.cell? ⟨w.heap.size,1,none⟩=some (.int .i64 m.lim):=by rw [←hW0];simp [go_sem]
 have z2:W0.cell? ⟨w.heap.size,2,none⟩=some (.bool m.dr):=by rw [←hW0];simp [go_sem]
 have z3:W0.cell? ⟨w.heap.size,3,none⟩=some (.slice (some ⟨bc,fc,none⟩) m.c.length cc):=by rw [←hW0];simp [go_sem]
 have z4:W0.cell? ⟨w.heap.size,4,none⟩=some (.slice (some ⟨bt,ft,none⟩) m.t.length ct):=by rw [←hW0];simp [go_sem]
 have fz0:W0.frozen? ⟨w.heap.size,0,none⟩=false:=by rw [←hW0];simp [go_sem]
 have fz1:W0.frozen? ⟨w.heap.size,1,none⟩=false:=by rw [←hW0];simp [go_sem]
 have fz2:W0.frozen? ⟨w.heap.size,2,none⟩=false:=by rw [←hW0];simp [go_sem]
 have fz3:W0.frozen? ⟨w.heap.size,3,none⟩=false:=by rw [←hW0];simp [go_sem]
 have fz4:W0.frozen? ⟨w.heap.size,4,none⟩=false:=by rw [←hW0];simp [go_sem]
 have zk:w.heap.size+1 < W0.heap.size:=by rw [←hW0];simp <;> omega
 have k0:W0.cell? ⟨w.heap.size+1,0,none⟩=some (.int .i64 a):=by rw [←hW0];simp [go_sem]
 have k1:W0.cell? ⟨w.heap.size+1,1,none⟩=some (.int .i64 p):=by rw [←hW0];simp [go_sem]
 have k2:W0.cell? ⟨w.heap.size+1,2,none⟩=some (.int .i64 f):=by rw [←hW0];simp [go_sem]
 have k3:W0.cell? ⟨w.heap.size+1,3,none⟩=some (.int .i64 s):=by rw [←hW0];simp [go_sem]
 have k4:W0.cell? ⟨w.heap.size+1,4,none⟩=some (.slice o n cp):=by rw [←hW0];simp [go_sem]
 have zr:w.heap.size+1+1 < W0.heap.size:=by rw [←hW0];simp
 have r0:W0.cell? ⟨w.heap.size+1+1,0,none⟩=some (.int .i64 0):=by rw [←hW0];simp [go_sem]
 have r1:W0.cell? ⟨w.heap.size+1+1,1,none⟩=some (.int .i64 0):=by rw [←hW0];simp [go_sem]
 have r2:W0.cell? ⟨w.heap.size+1+1,2,none⟩=some (.bool false):=by rw [←hW0];simp [go_sem]
 have r3:W0.cell? ⟨w.heap.size+1+1,3,none⟩=some (.slice none 0 0):=by rw [←hW0];simp [go_sem]
 have r4:W0.cell? ⟨w.heap.size+1+1,4,none⟩=some (.slice none 0 0):=by rw [←hW0];simp [go_sem]
 have fr0:W0.frozen? ⟨w.heap.size+1+1,0,none⟩=false:=by rw [←hW0];simp [go_sem]
 have fr1:W0.frozen? ⟨w.heap.size+1+1,1,none⟩=false:=by rw [←hW0];simp [go_sem]
 have fr2:W0.frozen? ⟨w.heap.size+1+1,2,none⟩=false:=by rw [←hW0];simp [go_sem]
 have fr3:W0.frozen? ⟨w.heap.size+1+1,3,none⟩=false:=by rw [←hW0];simp [go_sem]
 have fr4:W0.frozen? ⟨w.heap.size+1+1,4,none⟩=false:=by rw [←hW0];simp [go_sem]
 have hz0:=zr
 by_cases hb12:bits .and .i64 f 12=0
 ·have HTC:=Q00 (show Q2T m.c now a p f s=Q11 m.c a p s (now+50) by unfold Q2T;rw [if_pos hb12])
  have HTT:=Q00 (show Q3e m.t now a p f=m.t by unfold Q3e;rw [if_pos hb12])
  have H1:=Q00 (Q1P bc fc cc m.c a p s (now+50) W0 hc0 (by omega) hfl (Kbq zc HB.out.size) (HC.out.kept HB.out zc))
  have hpl:=Q0p m.c a p s (now+50)
  generalize Q11 m.c a p s (now+50)=tl at *
  generalize decide (0≤(Q0m m.c a p).1)=tb at *
  go_enter Try.func92,Try.ntmps92
  go_wp2_with fail
  refine (H1.out).mono ?_
  rintro e v1 ⟨b2,f2,c2,rfl,hz2,hrd,hb,hq⟩
  have HR:=Q00 hrd
  have hs1:=hb.size
  clear hrd
  replace z0:=bC hb z0 zz
  replace z1:=bC hb z1 zz
  replace z2:=bC hb z2 zz
  replace z3:=bC hb z3 zz
  replace z4:=bC hb z4 zz
  replace fz0:=bF hb fz0 zz
  replace fz1:=bF hb fz1 zz
  replace fz2:=bF hb fz2 zz
  replace fz3:=bF hb fz3 zz
  replace fz4:=bF hb fz4 zz
  replace zz:=Kbq zz hb.size
  replace k0:=bC hb k0 zk
  replace k1:=bC hb k1 zk
  replace k2:=bC hb k2 zk
  replace k3:=bC hb k3 zk
  replace k4:=bC hb k4 zk
  replace zk:=Kbq zk hb.size
  replace r0:=bC hb r0 zr
  replace r1:=bC hb r1 zr
  replace r2:=bC hb r2 zr
  replace r3:=bC hb r3 zr
  replace r4:=bC hb r4 zr
  replace fr0:=bF hb fr0 zr
  replace fr1:=bF hb fr1 zr
  replace fr2:=bF hb fr2 zr
  replace fr3:=bF hb fr3 zr
  replace fr4:=bF hb fr4 zr
  replace zr:=Kbq zr hb.size
  replace HB:=Q00 (HB.out.trans (hb.mono HB.out.size))
  clear hb
  have hqa:b2 < w.heap.size∨w.heap.size+1+1+1≤b2:=by omega
  clear H1 hW0
  have HT1:=Q00 (HT.out.kept HB.out zt)
  go_wp2
  refine bodyPost_ret (v:=agt m.id m.lim m.dr (.slice (some ⟨b2,f2,none⟩) m.c.length c2) (.slice (some ⟨bt,ft,none⟩) m.t.length ct)) (by simp [results,Try.results92,go_sem,r0,r1,r2,r3,r4]) rfl ⟨b2,f2,c2,bt,ft,ct,rfl,by simp;omega,by simp;omega, ?_, ?_, ?_,by omega,.inl rfl⟩
  ·rw [HTC.out]
   have hst:Stp w.heap.size (w.heap.size+1+1+1) v1 _:=((Q0s v1 w.heap.size 3 (.slice (some ⟨b2,f2,none⟩) m.c.length c2)).wide' (Kaq _) (by omega)).trans ((Q04 _ (w.heap.size+1+1) (.int .i64 m.id) (.int .i64 m.lim) (.bool m.dr) (.slice (some ⟨b2,f2,none⟩) m.c.length c2) (.slice (some ⟨bt,ft,none⟩) m.t.length ct)).wide' (by omega) (Kaq _))
   exact Row.step HR.out hst hz2 hqa
  ·rw [HTT.out]
   have hst:Stp w.heap.size (w.heap.size+1+1+1) v1 _:=((Q0s v1 w.heap.size 3 (.slice (some ⟨b2,f2,none⟩) m.c.length c2)).wide' (Kaq _) (by omega)).trans ((Q04 _ (w.heap.size+1+1) (.int .i64 m.id) (.int .i64 m.lim) (.bool m.dr) (.slice (some ⟨b2,f2,none⟩) m.c.length c2) (.slice (some ⟨bt,ft,none⟩) m.t.length ct)).wide' (by omega) (Kaq _))
   exact Row.step HT1.out hst (by omega) (.inl zt)
  ·exact Q07 (HB.out.setCell (p:=⟨w.heap.size,3,none⟩) (Kaq _) _) (by omega) _ _ _ _ _
 ·have HTC:=Q00 (show Q2T m.c now a p f s=Q1N m.c a p by unfold Q2T;rw [if_neg hb12])
  have HTT:=Q00 (show Q3e m.t now a p f=Q11 m.t a p 0 (now+20+1) by unfold Q3e;rw [if_neg hb12])
  have H1:=Q00 (Q3u bc fc cc m.c a p W0 hc0 hc16 hfl hok (Kbq zc HB.out.size) (HC.out.kept HB.out zc))
  have hpl:=Q22 m.c a p
  obtain ⟨mc,hmc⟩:∃q,Q1N m.c a p=q:=⟨_,rfl⟩
  rw [hmc] at H1 hpl HTC
  generalize (Q0m m.c a p).2=tb at *
  clear hmc
  go_enter Try.func92,Try.ntmps92
  go_wp2_with fail
  refine (H1.out).mono ?_
  rintro e v1 ⟨b2,f2,c2,rfl,hz2,hrd,hb,hq⟩
  have HR:=Q00 hrd
  have hs1:=hb.size
  clear hrd
  replace z0:=bC hb z0 zz
  replace z1:=bC hb z1 zz
  replace z2:=bC hb z2 zz
  replace z3:=bC hb z3 zz
  replace z4:=bC hb z4 zz
  replace fz0:=bF hb fz0 zz
  replace fz1:=bF hb fz1 zz
  replace fz2:=bF hb fz2 zz
  replace fz3:=bF hb fz3 zz
  replace fz4:=bF hb fz4 zz
  replace zz:=Kbq zz hb.size
  replace k0:=bC hb k0 zk
  replace k1:=bC hb k1 zk
  replace k2:=bC hb k2 zk
  replace k3:=bC hb k3 zk
  replace k4:=bC hb k4 zk
  replace zk:=Kbq zk hb.size
  replace r0:=bC hb r0 zr
  replace r1:=bC hb r1 zr
  replace r2:=bC hb r2 zr
  replace r3:=bC hb r3 zr
  replace r4:=bC hb r4 zr
  replace fr0:=bF hb fr0 zr
  replace fr1:=bF hb fr1 zr
  replace fr2:=bF hb fr2 zr
  replace fr3:=bF hb fr3 zr
  replace fr4:=bF hb fr4 zr
  replace zr:=Kbq zr hb.size
  replace HB:=Q00 (HB.out.trans (hb.mono HB.out.size))
  clear hb
  have hqa:b2 < w.heap.size∨w.heap.size+1+1+1≤b2:=by omega
  clear H1 hW0
  have HT1:=Q00 (HT.out.kept HB.out zt)
  go_wp2_with fail
  obtain ⟨W2,hW2⟩:∃W,(v1.setCell ⟨w.heap.size,3,none⟩ (.slice (some ⟨b2,f2,none⟩) m.c.length c2))=W:=⟨_,rfl⟩
  have hst:Stp (w.heap.size) (w.heap.size+1) v1 W2:=by rw [←hW2];exact Q0s v1 (w.heap.size) 3 _
  rw [hW2]
  have z0':W2.cell? ⟨w.heap.size,0,none⟩=some (.int .i64 m.id):=by rw [←hW2];simp [go_sem,z0,z1,z2,z3,z4]
  have fz0':W2.frozen? ⟨w.heap.size,0,none⟩=false:=by rw [←hW2];simp [go_sem,fz0,fz1,fz2,fz3,fz4]
  have z1':W2.cell? ⟨w.heap.size,1,none⟩=some (.int .i64 m.lim):=by rw [←hW2];simp [go_sem,z0,z1,z2,z3,z4]
  have fz1':W2.frozen? ⟨w.heap.size,1,none⟩=false:=by rw [←hW2];simp [go_sem,fz0,fz1,fz2,fz3,fz4]
  have z2':W2.cell? ⟨w.heap.size,2,none⟩=some (.bool m.dr):=by rw [←hW2];simp [go_sem,z0,z1,z2,z3,z4]
  have fz2':W2.frozen? ⟨w.heap.size,2,none⟩=false:=by rw [←hW2];simp [go_sem,fz0,fz1,fz2,fz3,fz4]
  have z3':W2.cell? ⟨w.heap.size,3,none⟩=some (.slice (some ⟨b2,f2,none⟩) m.c.length c2):=by rw [←hW2];simp [go_sem,z0,z1,z2,z3,z4]
  have fz3':W2.frozen? ⟨w.heap.size,3,none⟩=false:=by rw [←hW2];simp [go_sem,fz0,fz1,fz2,fz3,fz4]
  have z4':W2.cell? ⟨w.heap.size,4,none⟩=some (.slice (some ⟨bt,ft,none⟩) m.t.length ct):=by rw [←hW2];simp [go_sem,z0,z1,z2,z3,z4]
  have fz4':W2.frozen? ⟨w.heap.size,4,none⟩=false:=by rw [←hW2];simp [go_sem,fz0,fz1,fz2,fz3,fz4]
  replace z0:=z0'
  replace fz0:=fz0'
  replace z1:=z1'
  replace fz1:=fz1'
  replace z2:=z2'
  replace fz2:=fz2'
  replace z3:=z3'
  replace fz3:=fz3'
  replace z4:=z4'
  replace fz4:=fz4'
  replace zz:w.heap.size < W2.heap.size:=Kbq zz hst.size
  replace k0:W2.cell? ⟨w.heap.size+1,0,none⟩=some (.int .i64 a):=hst.cell k0 zk (by omega)
  replace k1:W2.cell? ⟨w.heap.size+1,1,none⟩=some (.int .i64 p):=hst.cell k1 zk (by omega)
  replace k2:W2.cell? ⟨w.heap.size+1,2,none⟩=some (.int .i64 f):=hst.cell k2 zk (by omega)
  replace k3:W2.cell? ⟨w.heap.size+1,3,none⟩=some (.int .i64 s):=hst.cell k3 zk (by omega)
  replace k4:W2.cell? ⟨w.heap.size+1,4,none⟩=some (.slice o n cp):=hst.cell k4 zk (by omega)
  replace zk:w.heap.size+1 < W2.heap.size:=Kbq zk hst.size
  replace r0:W2.cell? ⟨w.heap.size+1+1,0,none⟩=some (.int .i64 0):=hst.cell r0 zr (by omega)
  replace r1:W2.cell? ⟨w.heap.size+1+1,1,none⟩=some (.int .i64 0):=hst.cell r1 zr (by omega)
  replace r2:W2.cell? ⟨w.heap.size+1+1,2,none⟩=some (.bool false):=hst.cell r2 zr (by omega)
  replace r3:W2.cell? ⟨w.heap.size+1+1,3,none⟩=some (.slice none 0 0):=hst.cell r3 zr (by omega)
  replace r4:W2.cell? ⟨w.heap.size+1+1,4,none⟩=some (.slice none 0 0):=hst.cell r4 zr (by omega)
  replace fr0:W2.frozen? ⟨w.heap.size+1+1,0,none⟩=false:=hst.frozen fr0 zr (by omega)
  replace fr1:W2.frozen? ⟨w.heap.size+1+1,1,none⟩=false:=hst.frozen fr1 zr (by omega)
  replace fr2:W2.frozen? ⟨w.heap.size+1+1,2,none⟩=false:=hst.frozen fr2 zr (by omega)
  replace fr3:W2.frozen? ⟨w.heap.size+1+1,3,none⟩=false:=hst.frozen fr3 zr (by omega)
  replace fr4:W2.frozen? ⟨w.heap.size+1+1,4,none⟩=false:=hst.frozen fr4 zr (by omega)
  replace zr:w.heap.size+1+1 < W2.heap.size:=Kbq zr hst.size
  have HR2:=Q00 (Row.step HR.out hst hz2 (by omega))
  have HT2:=Q00 (Row.step HT1.out hst (by omega) (by omega))
  have hs2:=hst.size
  replace HB:=Q00 (HB.out.trans (hst.below (by omega) HB.out.size))
  clear hst
  have H3:=Q00 (Q0X ⟨m.id,m.lim,m.dr,mc,m.t⟩ b2 f2 c2 bt ft ct now a p W2 hn0 hn1 hfl (by simp only;omega) (by simp only;omega) ht0 ht16 (by omega) (by omega) HR2.out HT2.out)
  simp only [hpl] at H3
  generalize decide (0≤(Q0m m.t a p).1)=tb2 at *
  have hpl2:=Q0p m.t a p 0 (now+20+1)
  generalize Q11 m.t a p 0 (now+20+1)=tl at *
  refine (H3.out).mono ?_
  rintro e v2 ⟨b3,f3,c3,rfl,hz3,hrd,hb,hq3⟩
  have HR3:=Q00 (Row.kept HR2.out hb (by omega))
  have HS3:=Q00 hrd
  have hs3:=hb.size
  clear hrd
  replace z0:=bC hb z0 zz
  replace z1:=bC hb z1 zz
  replace z2:=bC hb z2 zz
  replace z3:=bC hb z3 zz
  replace z4:=bC hb z4 zz
  replace fz0:=bF hb fz0 zz
  replace fz1:=bF hb fz1 zz
  replace fz2:=bF hb fz2 zz
  replace fz3:=bF hb fz3 zz
  replace fz4:=bF hb fz4 zz
  replace zz:=Kbq zz hb.size
  replace k0:=bC hb k0 zk
  replace k1:=bC hb k1 zk
  replace k2:=bC hb k2 zk
  replace k3:=bC hb k3 zk
  replace k4:=bC hb k4 zk
  replace zk:=Kbq zk hb.size
  replace r0:=bC hb r0 zr
  replace r1:=bC hb r1 zr
  replace r2:=bC hb r2 zr
  replace r3:=bC hb r3 zr
  replace r4:=bC hb r4 zr
  replace fr0:=bF hb fr0 zr
  replace fr1:=bF hb fr1 zr
  replace fr2:=bF hb fr2 zr
  replace fr3:=bF hb fr3 zr
  replace fr4:=bF hb fr4 zr
  replace zr:=Kbq zr hb.size
  replace HB:=Q00 (HB.out.trans (hb.mono HB.out.size))
  clear hb
  have hqb:b3 < w.heap.size∨w.heap.size+1+1+1≤b3:=by omega
  clear H3 hW2
  go_wp2
  refine bodyPost_ret (v:=agt m.id m.lim m.dr (.slice (some ⟨b2,f2,none⟩) m.c.length c2) (.slice (some ⟨b3,f3,none⟩) m.t.length c3)) (by simp [results,Try.results92,go_sem,r0,r1,r2,r3,r4]) rfl ⟨b2,f2,c2,b3,f3,c3,rfl,by simp;omega,by simp;omega, ?_, ?_, ?_,by omega,by omega⟩
  ·rw [HTC.out]
   have hst:Stp w.heap.size (w.heap.size+1+1+1) v2 _:=((Q04 v2 w.heap.size (.int .i64 m.id) (.int .i64 m.lim) (.bool m.dr) (.slice (some ⟨b2,f2,none⟩) m.c.length c2) (.slice (some ⟨b3,f3,none⟩) m.t.length c3)).wide' (Kaq _) (by omega)).trans ((Q04 _ (w.heap.size+1+1) (.int .i64 m.id) (.int .i64 m.lim) (.bool m.dr) (.slice (some ⟨b2,f2,none⟩) m.c.length c2) (.slice (some ⟨b3,f3,none⟩) m.t.length c3)).wide' (by omega) (Kaq _))
   exact Row.step HR3.out hst (by omega) hqa
  ·rw [HTT.out]
   have hst:Stp w.heap.size (w.heap.size+1+1+1) v2 _:=((Q04 v2 w.heap.size (.int .i64 m.id) (.int .i64 m.lim) (.bool m.dr) (.slice (some ⟨b2,f2,none⟩) m.c.length c2) (.slice (some ⟨b3,f3,none⟩) m.t.length c3)).wide' (Kaq _) (by omega)).trans ((Q04 _ (w.heap.size+1+1) (.int .i64 m.id) (.int .i64 m.lim) (.bool m.dr) (.slice (some ⟨b2,f2,none⟩) m.c.length c2) (.slice (some ⟨b3,f3,none⟩) m.t.length c3)).wide' (by omega) (Kaq _))
   exact Row.step HS3.out hst hz3 hqb
  ·exact Q07 (Q07 HB.out (Kaq _) _ _ _ _ _) (by omega) _ _ _ _ _
end Go.Proofs.Ytljogkoaaidlcaa
