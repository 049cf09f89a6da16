/- Several texts in one: SDropI, SDropS, SDrop, SExp, SExp2, SAg4, ExpMath0, LoadMath, SHdS. -/
import Derived.Deep.LoopGhost
import Derived.Test.YtljogkoaaidlcaaQLoadsL12
namespace Go.Proofs.Ytljogkoaaidlcaa
open Go.ChangeShapes Go.WideShapes Go.ChangeAt Go.RowKit Go.Joins
set_option linter.unusedVariables false
set_option linter.unusedSimpArgs false
set_option maxRecDepth 100000
set_option maxHeartbeats 40000000
theorem Q5J {e:TypeId} {w:World} {base g n c:Nat} {m:List Sl} (h:w.ownsRow base e 5 (.slice (some ⟨g,0,none⟩) n c) n (m.flatMap Q0a.cs)) (hn:n=m.length) (i:Nat) (hi:i < n):
  w.cell? ⟨g,i * 5,none⟩=some (.bool (m.getD i sl0).u)∧w.cell? ⟨g,i * 5+1,none⟩=some (.int .i64 (m.getD i sl0).a)∧w.cell? ⟨g,i * 5+2,none⟩=some (.int .i64 (m.getD i sl0).p)∧w.cell? ⟨g,i * 5+3,none⟩=some (.int .i64 (m.getD i sl0).v)∧w.cell? ⟨g,i * 5+4,none⟩=some (.int .i64 (m.getD i sl0).t):=by
 have h1:=Q0l h hn
 have h2:=RdL.slot (C:=w.heap.size) h1 i (by omega)
 simpa only [Nat.zero_add] using h2
theorem Q4m (g c base n i0:Nat) (l:List Sl) (w:World) (hn:l.length=n) (h16:n≤16) (hi0:i0 < n) (hok:Q0C l) (ho:w.ownsRow base Q0j 5 (.slice (some ⟨g,0,none⟩) n c) n (l.flatMap Q0a.cs)):
  Calls Try.prog 91 #[tab (.slice (some ⟨g,0,none⟩) n c),.int .i64 i0] w fun e w'=> (∃v,e=.returned v)∧w'.ownsRow base Q0j 5 (.slice (some ⟨g,0,none⟩) n c) n ((Q0O l i0).flatMap Q0a.cs)∧Stp g (g+1) w w':=by
 have hgw:=(ho.lt g rfl).2
 have HO:=Q00 ho
 clear ho
 obtain ⟨W0,hW0⟩:∃W,(w.alloc (.cells #[.slice (some ⟨g,0,none⟩) n c] 63))=W:=⟨_,rfl⟩
 have hb_W0:Below w.heap.size w W0:=by rw [←hW0];exact ((Below.refl _ _).alloc (Kaq _) _)
 replace HO:=Q00 (Q07 HO.out hb_W0)
 have HB:=Q00 hb_W0
 clear hb_W0
 have zct:w.heap.size < W0.heap.size:=by rw [←hW0];simp
 have ct0:W0.cell? ⟨w.heap.size,0,none⟩=some (.slice (some ⟨g,0,none⟩) n c):=by rw [←hW0];simp [go_sem]
 have ho:W0.ownsRow base Q0j 5 (.slice (some ⟨g,0,none⟩) n c) n (l.flatMap Q0a.cs):=HO.out
 have hln:(l.flatMap Q0a.cs).length=n * 5:=by rw [Q0r,hn];rfl
 obtain ⟨u0,hu0⟩:∃u,W0.cell? ⟨g,i0 * 5,none⟩=some u:=⟨_,(ho.cellAt (i0 * 5) (by omega)).trans (List.getElem?_eq_getElem (by omega))⟩
 have fu0:=ho.frozenAt (i0 * 5)
 obtain ⟨u1,hu1⟩:∃u,W0.cell? ⟨g,i0 * 5+1,none⟩=some u:=⟨_,(ho.cellAt (i0 * 5+1) (by omega)).trans (List.getElem?_eq_getElem (by omega))⟩
 have fu1:=ho.frozenAt (i0 * 5+1)
 obtain ⟨u2,hu2⟩:∃u,W0.cell? ⟨g,i0 * 5+2,none⟩=some u:=⟨_,(ho.cellAt (i0 * 5+2) (by omega)).trans (List.getElem?_eq_getElem (by omega))⟩
 have fu2:=ho.frozenAt (i0 * 5+2)
 obtain ⟨u3,hu3⟩:∃u,W0.cell? ⟨g,i0 * 5+3,none⟩=some u:=⟨_,(ho.cellAt (i0 * 5+3) (by omega)).trans (List.getElem?_eq_getElem (by omega))⟩
 have fu3:=ho.frozenAt (i0 * 5+3)
 obtain ⟨u4,hu4⟩:∃u,W0.cell? ⟨g,i0 * 5+4,none⟩=some u:=⟨_,(ho.cellAt (i0 * 5+4) (by omega)).trans (List.getElem?_eq_getElem (by omega))⟩
 have fu4:=ho.frozenAt (i0 * 5+4)
 obtain ⟨W1,hW1⟩:∃W,(((((W0.setCell ⟨g,i0 * 5,none⟩ (.bool false)).setCell ⟨g,i0 * 5+1,none⟩ (.int .i64 0)).setCell ⟨g,i0 * 5+2,none⟩ (.int .i64 0)).setCell ⟨g,i0 * 5+3,none⟩ (.int .i64 0)).setCell ⟨g,i0 * 5+4,none⟩ (.int .i64 0))=W:=⟨_,rfl⟩
 have HO1:Hid (W1.ownsRow base Q0j 5 (.slice (some ⟨g,0,none⟩) n c) n ((l.set i0 sl0).flatMap Q0a.cs)):=by rw [←hW1];exact (Q1D (k:=i0) sl0 (Kaq g) ho (Below.refl g W0)).1
 have HSt1:Hid (Stp g (g+1) W0 W1):=by rw [←hW1];exact Q1z W0 g i0 sl0
 have hgz:g < W0.heap.size:=(ho.lt g rfl).2
 have ct1:W1.cell? ⟨w.heap.size,0,none⟩=some (.slice (some ⟨g,0,none⟩) n c):=HSt1.out.cell ct0 zct (.inr (by omega))
 have zct1:w.heap.size < W1.heap.size:=Kbq zct HSt1.out.size
 have i1:(i0:Int) < (n:Int):=by omega
 have HInv0:=Q00 (DropInv.start (l:=l) (i:=i0) (by omega) (by omega) hok)
 rw [hn] at HInv0
 clear ho hln hok
 go_enter Try.func91,Try.ntmps91
 go_wp2_with fail
 refine (Q2n (some ⟨g,0,none⟩) n c i0 W1 (by omega) (by omega) hi0).mono ?_
 rintro e W2 ⟨rfl,hb2⟩
 have HO2:=Q00 (Q07 HO1.out hb2)
 have ct2:W2.cell? ⟨w.heap.size,0,none⟩=some (.slice (some ⟨g,0,none⟩) n c):=(hb2.cell (p:=⟨w.heap.size,0,none⟩) zct1).trans ct1
 have HSt2:=Q00 ((Stp.of (lo:=g) (hi:=g+1) HB.out).trans (HSt1.out.trans (Stp.of hb2)))
 have zct2:w.heap.size < W2.heap.size:=Kbq zct1 hb2.size
 clear hb2 hu0 fu0 hu1 fu1 hu2 fu2 hu3 fu3 hu4 fu4 hW1 ct0 ct1 HO HO1 HSt1
 go_wp2
 go_loopg [1,4] (Q72 (l.set i0 sl0) i0 ((i0+1) % n)) (fun gk hv kv wr=> ∃(m:List Sl) (i k:Nat),hv=.int .i64 i∧kv=.int .i64 k∧Hid (DropInv n (Q0O l i0) gk m i k)∧Hid (wr.ownsRow base Q0j 5 (.slice (some ⟨g,0,none⟩) n c) n (m.flatMap Q0a.cs))∧Hid (wr.cell? ⟨w.heap.size,0,none⟩=some (.slice (some ⟨g,0,none⟩) n c))∧w.heap.size < wr.heap.size∧Hid (Stp g (g+1) w wr))
 case atStart=> exact ⟨_,i0,(i0+1) % n,rfl,by simp,HInv0,HO2,ct2,zct2,HSt2⟩
 case round=>
  obtain ⟨m,i,k,rfl,rfl,HI,HO,HC,zct,HSt⟩:=hrel
  clear HInv0 HO2 ct2 zct2 HSt2 HB
  have hml:=HI.out.len
  have hik:=HI.out.hi
  have hkk:=HI.out.hk
  have ho:wr.ownsRow base Q0j 5 (.slice (some ⟨g,0,none⟩) n c) n (m.flatMap Q0a.cs):=HO.out
  have ct0:=HC.out
  have hgr:g < wr.heap.size:=(ho.lt g rfl).2
  obtain ⟨s,hxy⟩:∃s,m.getD k sl0=s:=⟨_,rfl⟩
  have hrk:=Q5J ho hml.symm k hkk
  rw [hxy] at hrk
  have e0:=hrk.1
  have e1:=hrk.2.1
  have e2:=hrk.2.2.1
  have e3:=hrk.2.2.2.1
  have e4:=hrk.2.2.2.2
  have hk1:(k:Int) < (n:Int):=by omega
  have hi1:(i:Int) < (n:Int):=by omega
  have HX:=Q00 hxy
  clear hrk hxy
  obtain ⟨su,sa,sp,sv,st⟩:=s
  simp only at e0 e1 e2 e3 e4
  cases su with
  |false=>
   have HD:=Q00 (HI.out.done (by rw [HX.out]))
   clear ho
   go_wp2
   go_end0
   exact ⟨⟨_,rfl⟩,by rw [←HD.out];exact HO.out,HSt.out⟩
  |true=>
  have hfo:Q0b sa sp=true:=by have h:=HI.out.ok k (by omega) (by rw [HX.out]);rw [HX.out] at h;exact h
  have hne:i≠k:=fun e=> by have h:=HI.out.free;rw [e,HX.out] at h;cases h
  obtain ⟨W3,hW3⟩:∃W,wr.alloc (.cells #[.bool true,.int .i64 sa,.int .i64 sp,.int .i64 sv,.int .i64 st] 102)=W:=⟨_,rfl⟩
  have hb3:Below wr.heap.size wr W3:=by rw [←hW3];exact (Below.refl _ _).alloc (Kaq _) _
  have ct3:W3.cell? ⟨w.heap.size,0,none⟩=some (.slice (some ⟨g,0,none⟩) n c):=(hb3.cell (p:=⟨w.heap.size,0,none⟩) zct).trans ct0
  have zct3:w.heap.size < W3.heap.size:=Kbq zct hb3.size
  have zs3:wr.heap.size < W3.heap.size:=by rw [←hW3];simp
  have s0:W3.cell? ⟨wr.heap.size,0,none⟩=some (.bool true):=by rw [←hW3];simp [go_sem]
  have s1:W3.cell? ⟨wr.heap.size,1,none⟩=some (.int .i64 sa):=by rw [←hW3];simp [go_sem]
  have s2:W3.cell? ⟨wr.heap.size,2,none⟩=some (.int .i64 sp):=by rw [←hW3];simp [go_sem]
  have s3:W3.cell? ⟨wr.heap.size,3,none⟩=some (.int .i64 sv):=by rw [←hW3];simp [go_sem]
  have s4:W3.cell? ⟨wr.heap.size,4,none⟩=some (.int .i64 st):=by rw [←hW3];simp [go_sem]
  have HO3:=Q00 (Q07 ho hb3)
  have HSt3:=Q00 (HSt.out.trans (Stp.of hb3))
  clear hb3
  have G0:=Grown.cell ct3 zct3
  have G1:=Grown.cell s1 zs3
  have G2:=Grown.cell s2 zs3
  have hhl:=Q0S (show 0 < n by omega) sa sp
  have hA:=fun (P:Grown W3)=> Q06 P (Q5S (some ⟨g,0,none⟩) n c sa sp P.v (by omega) (by omega) hfo)
  have hmvx:Q2t n m i k=decide (Q0P n i k≤Q0P n (Q0B n sa sp) k):=by unfold Q2t;rw [HX.out]
  have HMv:=Q00 hmvx
  clear hmvx
  generalize Q0B n sa sp=hm at *
  have hB:=fun (P:Grown W3)=> Q06 P (Q6A (some ⟨g,0,none⟩) n c hm k P.v (by omega) hhl hkk)
  have hC:=fun (P:Grown W3)=> Q06 P (Q6A (some ⟨g,0,none⟩) n c i k P.v (by omega) hik hkk)
  generalize Q0P n hm k=d1 at *
  generalize Q0P n i k=d2 at *
  by_cases hmv:(d2:Int)≤(d1:Int)
  ·skip
   have HNx:=Q00 (HI.out.move (by rw [HX.out]) (by rw [HMv.out];exact decide_eq_true (by omega)))
   rw [HX.out] at HNx
   clear ho
   have Gs0:=Grown.cell s0 zs3
   have Gs1:=Grown.cell s1 zs3
   have Gs2:=Grown.cell s2 zs3
   have Gs3:=Grown.cell s3 zs3
   have Gs4:=Grown.cell s4 zs3
   go_wp2
   (refine Q03 (by kernel_rfl) (by kernel_rfl) ?_;intro hne9;(repeat (go_big_quiet_step ((first|(go_at_call 106;exact hA _)|(go_at_call 105;first|with_reducible exact hB _|with_reducible exact hC _)))));(with_reducible refine wpQuiet_nil ?_);intro _ hw9;obtain ⟨pq,hw8⟩:=hw9;subst hw8)
   have ho:pq.v.ownsRow base Q0j 5 (.slice (some ⟨g,0,none⟩) n c) n (m.flatMap Q0a.cs):=Q07 HO3.out pq.b
   have cp0:pq.v.cell? ⟨w.heap.size,0,none⟩=some (.slice (some ⟨g,0,none⟩) n c):=G0 pq
   have zp:w.heap.size < pq.v.heap.size:=Kbq zct3 pq.b.size
   have HStp:=Q00 (HSt3.out.trans (Stp.of pq.b))
   have sp0:pq.v.cell? ⟨wr.heap.size,0,none⟩=some (.bool true):=Gs0 pq
   have sp1:pq.v.cell? ⟨wr.heap.size,1,none⟩=some (.int .i64 sa):=Gs1 pq
   have sp2:pq.v.cell? ⟨wr.heap.size,2,none⟩=some (.int .i64 sp):=Gs2 pq
   have sp3:pq.v.cell? ⟨wr.heap.size,3,none⟩=some (.int .i64 sv):=Gs3 pq
   have sp4:pq.v.cell? ⟨wr.heap.size,4,none⟩=some (.int .i64 st):=Gs4 pq
   have hln:(m.flatMap Q0a.cs).length=n * 5:=by rw [Q0r,hml];rfl
   obtain ⟨u0,hu0⟩:∃u,pq.v.cell? ⟨g,i * 5,none⟩=some u:=⟨_,(ho.cellAt (i * 5) (by omega)).trans (List.getElem?_eq_getElem (by omega))⟩
   have fu0:=ho.frozenAt (i * 5)
   obtain ⟨u1,hu1⟩:∃u,pq.v.cell? ⟨g,i * 5+1,none⟩=some u:=⟨_,(ho.cellAt (i * 5+1) (by omega)).trans (List.getElem?_eq_getElem (by omega))⟩
   have fu1:=ho.frozenAt (i * 5+1)
   obtain ⟨u2,hu2⟩:∃u,pq.v.cell? ⟨g,i * 5+2,none⟩=some u:=⟨_,(ho.cellAt (i * 5+2) (by omega)).trans (List.getElem?_eq_getElem (by omega))⟩
   have fu2:=ho.frozenAt (i * 5+2)
   obtain ⟨u3,hu3⟩:∃u,pq.v.cell? ⟨g,i * 5+3,none⟩=some u:=⟨_,(ho.cellAt (i * 5+3) (by omega)).trans (List.getElem?_eq_getElem (by omega))⟩
   have fu3:=ho.frozenAt (i * 5+3)
   obtain ⟨u4,hu4⟩:∃u,pq.v.cell? ⟨g,i * 5+4,none⟩=some u:=⟨_,(ho.cellAt (i * 5+4) (by omega)).trans (List.getElem?_eq_getElem (by omega))⟩
   have fu4:=ho.frozenAt (i * 5+4)
   obtain ⟨W4,hW4⟩:∃W,(((((pq.v.setCell ⟨g,i * 5,none⟩ (.bool true)).setCell ⟨g,i * 5+1,none⟩ (.int .i64 sa)).setCell ⟨g,i * 5+2,none⟩ (.int .i64 sp)).setCell ⟨g,i * 5+3,none⟩ (.int .i64 sv)).setCell ⟨g,i * 5+4,none⟩ (.int .i64 st))=W:=⟨_,rfl⟩
   have ho4:W4.ownsRow base Q0j 5 (.slice (some ⟨g,0,none⟩) n c) n ((m.set i ⟨true,sa,sp,sv,st⟩).flatMap Q0a.cs):=by rw [←hW4];exact (Q1D (k:=i) ⟨true,sa,sp,sv,st⟩ (Kaq g) ho (Below.refl g pq.v)).1
   have HSt4:Hid (Stp g (g+1) pq.v W4):=by rw [←hW4];exact Q1z pq.v g i ⟨true,sa,sp,sv,st⟩
   have hln4:((m.set i ⟨true,sa,sp,sv,st⟩).flatMap Q0a.cs).length=n * 5:=by rw [Q0r,List.length_set,hml];rfl
   obtain ⟨y0,hy0⟩:∃u,W4.cell? ⟨g,k * 5,none⟩=some u:=⟨_,(ho4.cellAt (k * 5) (by omega)).trans (List.getElem?_eq_getElem (by omega))⟩
   have fy0:=ho4.frozenAt (k * 5)
   obtain ⟨y1,hy1⟩:∃u,W4.cell? ⟨g,k * 5+1,none⟩=some u:=⟨_,(ho4.cellAt (k * 5+1) (by omega)).trans (List.getElem?_eq_getElem (by omega))⟩
   have fy1:=ho4.frozenAt (k * 5+1)
   obtain ⟨y2,hy2⟩:∃u,W4.cell? ⟨g,k * 5+2,none⟩=some u:=⟨_,(ho4.cellAt (k * 5+2) (by omega)).trans (List.getElem?_eq_getElem (by omega))⟩
   have fy2:=ho4.frozenAt (k * 5+2)
   obtain ⟨y3,hy3⟩:∃u,W4.cell? ⟨g,k * 5+3,none⟩=some u:=⟨_,(ho4.cellAt (k * 5+3) (by omega)).trans (List.getElem?_eq_getElem (by omega))⟩
   have fy3:=ho4.frozenAt (k * 5+3)
   obtain ⟨y4,hy4⟩:∃u,W4.cell? ⟨g,k * 5+4,none⟩=some u:=⟨_,(ho4.cellAt (k * 5+4) (by omega)).trans (List.getElem?_eq_getElem (by omega))⟩
   have fy4:=ho4.frozenAt (k * 5+4)
   obtain ⟨W5,hW5⟩:∃W,(((((W4.setCell ⟨g,k * 5,none⟩ (.bool false)).setCell ⟨g,k * 5+1,none⟩ (.int .i64 0)).setCell ⟨g,k * 5+2,none⟩ (.int .i64 0)).setCell ⟨g,k * 5+3,none⟩ (.int .i64 0)).setCell ⟨g,k * 5+4,none⟩ (.int .i64 0))=W:=⟨_,rfl⟩
   have HO5:Hid (W5.ownsRow base Q0j 5 (.slice (some ⟨g,0,none⟩) n c) n (((m.set i ⟨true,sa,sp,sv,st⟩).set k sl0).flatMap Q0a.cs)):=by rw [←hW5];exact (Q1D (k:=k) sl0 (Kaq g) ho4 (Below.refl g W4)).1
   have HSt5:Hid (Stp g (g+1) W4 W5):=by rw [←hW5];exact Q1z W4 g k sl0
   have HStA:=Q00 (HSt4.out.trans HSt5.out)
   have hgp:g < w.heap.size:=hgw
   have cp4:W4.cell? ⟨w.heap.size,0,none⟩=some (.slice (some ⟨g,0,none⟩) n c):=HSt4.out.cell cp0 zp (.inr (by omega))
   have cp5:W5.cell? ⟨w.heap.size,0,none⟩=some (.slice (some ⟨g,0,none⟩) n c):=HStA.out.cell cp0 zp (.inr (by omega))
   have zp5:w.heap.size < W5.heap.size:=Kbq zp HStA.out.size
   clear ho ho4 hln hln4 G0 G1 G2 hA hB hC Gs0 Gs1 Gs2 Gs3 Gs4
   go_wp2
   go_region
   go_wp2_with fail
   refine (Q2n (some ⟨g,0,none⟩) n c k _ (by omega) (by omega) hkk).mono ?_
   rintro e W6 ⟨rfl,hb6⟩
   have HO6:Hid (W6.ownsRow base Q0j 5 (.slice (some ⟨g,0,none⟩) n c) n (((m.set i ⟨true,sa,sp,sv,st⟩).set k sl0).flatMap Q0a.cs)):=Q07 (show World.ownsRow W5.drew _ _ _ _ _ _ from HO5.out) hb6
   have HC6:Hid (W6.cell? ⟨w.heap.size,0,none⟩=some (.slice (some ⟨g,0,none⟩) n c)):=(hb6.cell (p:=⟨w.heap.size,0,none⟩) zp5).trans cp5
   have zc6:w.heap.size < W6.heap.size:=Kbq zp5 hb6.size
   have HSt6:=Q00 (HStp.out.trans ((HStA.out.drew).trans (Stp.of hb6)))
   clear hb6 hu0 fu0 hy0 fy0 sp0 hu1 fu1 hy1 fy1 sp1 hu2 fu2 hy2 fy2 sp2 hu3 fu3 hy3 fy3 sp3 hu4 fu4 hy4 fy4 sp4
   go_wp2
   go_roundg (gk - 1)
   case measure=> have:=HNx.out.1;omega
   case rel=> exact ⟨_,k,(k+1) % n,rfl,by simp,HNx.out.2,HO6,HC6,zc6,HSt6⟩
  ·skip
   have HNx:=Q00 (HI.out.stay (by rw [HX.out]) (by rw [HMv.out];exact decide_eq_false (by omega)))
   have hmv':decide (d2≤d1)=false:=decide_eq_false (by omega)
   have hmv2:decide ((d2:Int)≤(d1:Int))=false:=decide_eq_false hmv
   clear ho
   go_wp2
   (refine Q03 (by kernel_rfl) (by kernel_rfl) ?_;intro hne9;(repeat (go_big_quiet_step ((first|(go_at_call 106;exact hA _)|(go_at_call 105;first|with_reducible exact hB _|with_reducible exact hC _)))));(with_reducible refine wpQuiet_nil ?_);intro _ hw9;obtain ⟨pq,hw8⟩:=hw9;subst hw8)
   have HOp:=Q00 (Q07 HO3.out pq.b)
   have cp0:pq.v.cell? ⟨w.heap.size,0,none⟩=some (.slice (some ⟨g,0,none⟩) n c):=G0 pq
   have zp:w.heap.size < pq.v.heap.size:=Kbq zct3 pq.b.size
   have HStp:=Q00 (HSt3.out.trans (Stp.of pq.b))
   clear G0 G1 G2 hA hB hC
   go_wp2_with fail
   refine (Q2n (some ⟨g,0,none⟩) n c k _ (by omega) (by omega) hkk).mono ?_
   rintro e W6 ⟨rfl,hb6⟩
   have HO6:Hid (W6.ownsRow base Q0j 5 (.slice (some ⟨g,0,none⟩) n c) n (m.flatMap Q0a.cs)):=Q07 HOp.out hb6
   have HC6:Hid (W6.cell? ⟨w.heap.size,0,none⟩=some (.slice (some ⟨g,0,none⟩) n c)):=(hb6.cell (p:=⟨w.heap.size,0,none⟩) zp).trans cp0
   have zc6:w.heap.size < W6.heap.size:=Kbq zp hb6.size
   have HSt6:=Q00 (HStp.out.trans (Stp.of hb6))
   clear hb6 cp0
   go_wp2
   go_roundg (gk - 1)
   case measure=> have:=HNx.out.1;omega
   case rel=> exact ⟨m,i,(k+1) % n,rfl,by simp,HNx.out.2,HO6,HC6,zc6,HSt6⟩
theorem Q3A (b off c:Nat) (l:List Sl) (a p:Int) (w:World) (hn:0 < l.length) (h16:l.length≤16) (hf:Q0b a p=true) (hok:Q0C l) (hbl:b < w.heap.size) (hc:∀i,i < l.length→∀j,j < Q0a.k→w.cell? ⟨b,off+i * Q0a.k+j,none⟩=(Q0a.cs (l.getD i Q0a.d))[j]?):
  Calls Try.prog 96 #[tab (.slice (some ⟨b,off,none⟩) l.length c),Q3p a p] w fun e w'=> ∃b' off' c',e=.returned (.tuple #[tab (.slice (some ⟨b',off',none⟩) l.length c'),.bool (Q0m l a p).2])∧b' < w'.heap.size∧(∀i,i < (Q1V l a p).length→∀j,j < Q0a.k→w'.cell? ⟨b',off'+i * Q0a.k+j,none⟩=(Q0a.cs ((Q1V l a p).getD i Q0a.d))[j]?)∧Below w.heap.size w w'∧(b'=b∨w.heap.size≤b'):=by
 have HC:=Q00 hc
 have hl:l.length≤1048576:=by omega
 clear hc
 obtain ⟨W0,hW0⟩:∃W,(((w.alloc (.cells #[.slice (some ⟨b,off,none⟩) l.length c] 25)).alloc (.cells #[.int .i64 a,.int .i64 p] 29)).alloc (.cells #[.slice none 0 0] 25))=W:=⟨_,rfl⟩
 have hb_W0:Below w.heap.size w W0:=by rw [←hW0];exact ((((Below.refl _ _).alloc (Kaq _) _).alloc (by simp <;> omega) _).alloc (by simp <;> omega) _)
 have HB:=Q00 hb_W0
 clear hb_W0
 have zct:w.heap.size < W0.heap.size:=by rw [←hW0];simp <;> omega
 have ct0:W0.cell? ⟨w.heap.size,0,none⟩=some (.slice (some ⟨b,off,none⟩) l.length c):=by rw [←hW0];simp [go_sem]
 have zcf:w.heap.size+1 < W0.heap.size:=by rw [←hW0];simp <;> omega
 have cf0:W0.cell? ⟨w.heap.size+1,0,none⟩=some (.int .i64 a):=by rw [←hW0];simp [go_sem]
 have cf1:W0.cell? ⟨w.heap.size+1,1,none⟩=some (.int .i64 p):=by rw [←hW0];simp [go_sem]
 have zcr:w.heap.size+1+1 < W0.heap.size:=by rw [←hW0];simp
 have cr0:W0.cell? ⟨w.heap.size+1+1,0,none⟩=some (.slice none 0 0):=by rw [←hW0];simp [go_sem]
 have fcr0:W0.frozen? ⟨w.heap.size+1+1,0,none⟩=false:=by rw [←hW0];simp [go_sem]
 have hat:=Q3n (some ⟨b,off,none⟩) c l a p W0 (.inr ⟨b,off,rfl,Kbq hbl HB.out.size,(fun i hi j hj=> (HB.out.cell (p:=⟨b,off+i * Q0a.k+j,none⟩) hbl).trans (HC.out i hi j hj))⟩) hn hl hf
 have HZ:=Q00 zcr
 rcases Q0Z l hn a p with hE|⟨i0,hi0,⟨hE,_⟩|⟨hE,_⟩⟩
 ·skip
  have HP:=Q00 (Q2g (l:=l) (a:=a) (p:=p) (by rw [hE]))
  have HD:=Q00 (show (Q0m l a p).2=false by rw [hE])
  rw [hE] at hat
  clear hE
  go_enter Try.func96,Try.ntmps96
  go_wp2_with fail
  refine (hat).mono ?_
  rintro e v1 ⟨rfl,hb⟩
  replace ct0:v1.cell? ⟨w.heap.size,0,none⟩=some (.slice (some ⟨b,off,none⟩) l.length c):=(hb.cell (p:=⟨w.heap.size,0,none⟩) zct).trans ct0
  replace zct:w.heap.size < v1.heap.size:=Kbq zct hb.size
  replace cf0:v1.cell? ⟨w.heap.size+1,0,none⟩=some (.int .i64 a):=(hb.cell (p:=⟨w.heap.size+1,0,none⟩) zcf).trans cf0
  replace cf1:v1.cell? ⟨w.heap.size+1,1,none⟩=some (.int .i64 p):=(hb.cell (p:=⟨w.heap.size+1,1,none⟩) zcf).trans cf1
  replace zcf:w.heap.size+1 < v1.heap.size:=Kbq zcf hb.size
  replace cr0:v1.cell? ⟨w.heap.size+1+1,0,none⟩=some (.slice none 0 0):=(hb.cell (p:=⟨w.heap.size+1+1,0,none⟩) zcr).trans cr0
  replace fcr0:v1.frozen? ⟨w.heap.size+1+1,0,none⟩=false:=(hb.frozen (p:=⟨w.heap.size+1+1,0,none⟩) zcr).trans fcr0
  replace zcr:w.heap.size+1+1 < v1.heap.size:=Kbq zcr hb.size
  replace HB:=Q00 (HB.out.trans (hb.mono HB.out.size))
  clear hb
  clear hat
  go_wp2
  refine bodyPost_ret (v:=.tuple #[tab (.slice (some ⟨b,off,none⟩) l.length c),.bool false]) (by simp [results,Try.results96,go_sem,cr0]) rfl ⟨b,off,c,by rw [HD.out], ?_, ?_, ?_,.inl rfl⟩
  ·have:=HB.out.size;simp;omega
  ·rw [HP.out]
   intro i hi j hj
   have hB2:=HB.out.setCell (p:=⟨w.heap.size+1+1,0,none⟩) (by simp <;> omega) (.slice (some ⟨b,off,none⟩) l.length c)
   exact (hB2.cell (p:=⟨b,off+i * Q0a.k+j,none⟩) hbl).trans (HC.out i hi j hj)
  ·exact HB.out.setCell (p:=⟨w.heap.size+1+1,0,none⟩) (by simp <;> omega) _
 ·skip
  have HP:=Q00 (Q2g (l:=l) (a:=a) (p:=p) (by rw [hE]))
  have HD:=Q00 (show (Q0m l a p).2=false by rw [hE])
  rw [hE] at hat
  clear hE
  go_enter Try.func96,Try.ntmps96
  go_wp2_with fail
  refine (hat).mono ?_
  rintro e v1 ⟨rfl,hb⟩
  replace ct0:v1.cell? ⟨w.heap.size,0,none⟩=some (.slice (some ⟨b,off,none⟩) l.length c):=(hb.cell (p:=⟨w.heap.size,0,none⟩) zct).trans ct0
  replace zct:w.heap.size < v1.heap.size:=Kbq zct hb.size
  replace cf0:v1.cell? ⟨w.heap.size+1,0,none⟩=some (.int .i64 a):=(hb.cell (p:=⟨w.heap.size+1,0,none⟩) zcf).trans cf0
  replace cf1:v1.cell? ⟨w.heap.size+1,1,none⟩=some (.int .i64 p):=(hb.cell (p:=⟨w.heap.size+1,1,none⟩) zcf).trans cf1
  replace zcf:w.heap.size+1 < v1.heap.size:=Kbq zcf hb.size
  replace cr0:v1.cell? ⟨w.heap.size+1+1,0,none⟩=some (.slice none 0 0):=(hb.cell (p:=⟨w.heap.size+1+1,0,none⟩) zcr).trans cr0
  replace fcr0:v1.frozen? ⟨w.heap.size+1+1,0,none⟩=false:=(hb.frozen (p:=⟨w.heap.size+1+1,0,none⟩) zcr).trans fcr0
  replace zcr:w.heap.size+1+1 < v1.heap.size:=Kbq zcr hb.size
  replace HB:=Q00 (HB.out.trans (hb.mono HB.out.size))
  clear hb
  clear hat
  go_wp2
  refine bodyPost_ret (v:=.tuple #[tab (.slice (some ⟨b,off,none⟩) l.length c),.bool false]) (by simp [results,Try.results96,go_sem,cr0]) rfl ⟨b,off,c,by rw [HD.out], ?_, ?_, ?_,.inl rfl⟩
  ·have:=HB.out.size;simp;omega
  ·rw [HP.out]
   intro i hi j hj
   have hB2:=HB.out.setCell (p:=⟨w.heap.size+1+1,0,none⟩) (by simp <;> omega) (.slice (some ⟨b,off,none⟩) l.length c)
   exact (hB2.cell (p:=⟨b,off+i * Q0a.k+j,none⟩) hbl).trans (HC.out i hi j hj)
  ·exact HB.out.setCell (p:=⟨w.heap.size+1+1,0,none⟩) (by simp <;> omega) _
 ·skip
  have HP:=Q00 (Q3S hE)
  have HD:=Q00 (show (Q0m l a p).2=true by rw [hE])
  rw [hE] at hat
  clear hE
  have HInv0:=Q00 (DropInv.start (l:=l) (i:=i0) h16 hi0 hok)
  have i1:(i0:Int) < (l.length:Int):=by omega
  go_enter Try.func96,Try.ntmps96
  go_wp2_with fail
  refine (hat).mono ?_
  rintro e v1 ⟨rfl,hb⟩
  replace ct0:v1.cell? ⟨w.heap.size,0,none⟩=some (.slice (some ⟨b,off,none⟩) l.length c):=(hb.cell (p:=⟨w.heap.size,0,none⟩) zct).trans ct0
  replace zct:w.heap.size < v1.heap.size:=Kbq zct hb.size
  replace cf0:v1.cell? ⟨w.heap.size+1,0,none⟩=some (.int .i64 a):=(hb.cell (p:=⟨w.heap.size+1,0,none⟩) zcf).trans cf0
  replace cf1:v1.cell? ⟨w.heap.size+1,1,none⟩=some (.int .i64 p):=(hb.cell (p:=⟨w.heap.size+1,1,none⟩) zcf).trans cf1
  replace zcf:w.heap.size+1 < v1.heap.size:=Kbq zcf hb.size
  replace cr0:v1.cell? ⟨w.heap.size+1+1,0,none⟩=some (.slice none 0 0):=(hb.cell (p:=⟨w.heap.size+1+1,0,none⟩) zcr).trans cr0
  replace fcr0:v1.frozen? ⟨w.heap.size+1+1,0,none⟩=false:=(hb.frozen (p:=⟨w.heap.size+1+1,0,none⟩) zcr).trans fcr0
  replace zcr:w.heap.size+1+1 < v1.heap.size:=Kbq zcr hb.size
  replace HB:=Q00 (HB.out.trans (hb.mono HB.out.size))
  clear hb
  go_wp2_with fail
  refine (Q29 b off c l v1 (Kbq hbl HB.out.size) (fun i hi j hj=> (HB.out.cell (p:=⟨b,off+i * Q0a.k+j,none⟩) hbl).trans (HC.out i hi j hj)) hl).mono ?_
  rintro e v2 ⟨o2,c2,rfl,hown,hb⟩
  have HV1:=Q00 zcr
  obtain ⟨g,c3,hve⟩:∃g c3,Value.slice o2 l.length c2=.slice (some ⟨g,0,none⟩) l.length c3:=by
   rcases hown.2 with ⟨_,h0⟩|⟨g,c3,_,h0,_⟩
   ·exact absurd h0 (by omega)
   ·exact ⟨g,c3,h0⟩
  injection hve with hv1 hv2 hv3
  subst hv1 hv3
  have HO:=Q00 hown
  clear hown
  replace ct0:v2.cell? ⟨w.heap.size,0,none⟩=some (.slice (some ⟨b,off,none⟩) l.length c):=(hb.cell (p:=⟨w.heap.size,0,none⟩) zct).trans ct0
  replace zct:w.heap.size < v2.heap.size:=Kbq zct hb.size
  replace cf0:v2.cell? ⟨w.heap.size+1,0,none⟩=some (.int .i64 a):=(hb.cell (p:=⟨w.heap.size+1,0,none⟩) zcf).trans cf0
  replace cf1:v2.cell? ⟨w.heap.size+1,1,none⟩=some (.int .i64 p):=(hb.cell (p:=⟨w.heap.size+1,1,none⟩) zcf).trans cf1
  replace zcf:w.heap.size+1 < v2.heap.size:=Kbq zcf hb.size
  replace cr0:v2.cell? ⟨w.heap.size+1+1,0,none⟩=some (.slice none 0 0):=(hb.cell (p:=⟨w.heap.size+1+1,0,none⟩) zcr).trans cr0
  replace fcr0:v2.frozen? ⟨w.heap.size+1+1,0,none⟩=false:=(hb.frozen (p:=⟨w.heap.size+1+1,0,none⟩) zcr).trans fcr0
  replace zcr:w.heap.size+1+1 < v2.heap.size:=Kbq zcr hb.size
  replace HB:=Q00 (HB.out.trans (hb.mono HB.out.size))
  clear hb
  have HOv:=HO
  obtain ⟨W2,hW2⟩:∃W,(v2.alloc (.cells #[.slice (some ⟨g,0,none⟩) l.length c2] 25))=W:=⟨_,rfl⟩
  have hb_W2:Below v2.heap.size v2 W2:=by rw [←hW2];exact ((Below.refl _ _).alloc (Kaq _) _)
  replace ct0:W2.cell? ⟨w.heap.size,0,none⟩=some (.slice (some ⟨b,off,none⟩) l.length c):=(hb_W2.cell (p:=⟨w.heap.size,0,none⟩) zct).trans ct0
  replace zct:w.heap.size < W2.heap.size:=Kbq zct hb_W2.size
  replace cf0:W2.cell? ⟨w.heap.size+1,0,none⟩=some (.int .i64 a):=(hb_W2.cell (p:=⟨w.heap.size+1,0,none⟩) zcf).trans cf0
  replace cf1:W2.cell? ⟨w.heap.size+1,1,none⟩=some (.int .i64 p):=(hb_W2.cell (p:=⟨w.heap.size+1,1,none⟩) zcf).trans cf1
  replace zcf:w.heap.size+1 < W2.heap.size:=Kbq zcf hb_W2.size
  replace cr0:W2.cell? ⟨w.heap.size+1+1,0,none⟩=some (.slice none 0 0):=(hb_W2.cell (p:=⟨w.heap.size+1+1,0,none⟩) zcr).trans cr0
  replace fcr0:W2.frozen? ⟨w.heap.size+1+1,0,none⟩=false:=(hb_W2.frozen (p:=⟨w.heap.size+1+1,0,none⟩) zcr).trans fcr0
  replace zcr:w.heap.size+1+1 < W2.heap.size:=Kbq zcr hb_W2.size
  replace HO:=Q00 (Q07 HO.out hb_W2)
  replace HB:=Q00 (HB.out.trans (hb_W2.mono HB.out.size))
  clear hb_W2
  have zco:v2.heap.size < W2.heap.size:=by rw [←hW2];simp
  have co0:W2.cell? ⟨v2.heap.size,0,none⟩=some (.slice (some ⟨g,0,none⟩) l.length c2):=by rw [←hW2];simp [go_sem]
  have hgb:=(HOv.out.lt g rfl)
  have hgv:v1.heap.size≤g:=hgb.1
  have hg2:g+1≤v2.heap.size:=hgb.2
  have hz1:=HV1.out
  have hzo2:=zco
  have ho:W2.ownsRow v1.heap.size 84 5 (.slice (some ⟨g,0,none⟩) l.length c2) l.length (l.flatMap Q0a.cs):=HO.out
  have hln:(l.flatMap Q0a.cs).length=l.length * 5:=by rw [Q0r];rfl
  obtain ⟨u0,hu0⟩:∃u,W2.cell? ⟨g,i0 * 5,none⟩=some u:=⟨_,(ho.cellAt (i0 * 5) (by omega)).trans (List.getElem?_eq_getElem (by omega))⟩
  have fu0:=ho.frozenAt (i0 * 5)
  obtain ⟨u1,hu1⟩:∃u,W2.cell? ⟨g,i0 * 5+1,none⟩=some u:=⟨_,(ho.cellAt (i0 * 5+1) (by omega)).trans (List.getElem?_eq_getElem (by omega))⟩
  have fu1:=ho.frozenAt (i0 * 5+1)
  obtain ⟨u2,hu2⟩:∃u,W2.cell? ⟨g,i0 * 5+2,none⟩=some u:=⟨_,(ho.cellAt (i0 * 5+2) (by omega)).trans (List.getElem?_eq_getElem (by omega))⟩
  have fu2:=ho.frozenAt (i0 * 5+2)
  obtain ⟨u3,hu3⟩:∃u,W2.cell? ⟨g,i0 * 5+3,none⟩=some u:=⟨_,(ho.cellAt (i0 * 5+3) (by omega)).trans (List.getElem?_eq_getElem (by omega))⟩
  have fu3:=ho.frozenAt (i0 * 5+3)
  obtain ⟨u4,hu4⟩:∃u,W2.cell? ⟨g,i0 * 5+4,none⟩=some u:=⟨_,(ho.cellAt (i0 * 5+4) (by omega)).trans (List.getElem?_eq_getElem (by omega))⟩
  have fu4:=ho.frozenAt (i0 * 5+4)
  obtain ⟨W3,hW3⟩:∃W,(((((W2.setCell ⟨g,i0 * 5,none⟩ (.bool false)).setCell ⟨g,i0 * 5+1,none⟩ (.int .i64 0)).setCell ⟨g,i0 * 5+2,none⟩ (.int .i64 0)).setCell ⟨g,i0 * 5+3,none⟩ (.int .i64 0)).setCell ⟨g,i0 * 5+4,none⟩ (.int .i64 0))=W:=⟨_,rfl⟩
  have HO3:Hid (W3.ownsRow v1.heap.size 84 5 (.slice (some ⟨g,0,none⟩) l.length c2) l.length ((l.set i0 sl0).flatMap Q0a.cs)):=by rw [←hW3];exact (Q1D (k:=i0) sl0 (Kaq g) ho (Below.refl g W2)).1
  have HSt3:Hid (Stp g (g+1) W2 W3):=by rw [←hW3];exact Q1z W2 g i0 sl0
  have co3:=HSt3.out.cell co0 zco (.inr hg2)
  have hm0:=Q2R l.length i0
  have hne0:((l.length:Int)==0)=false:=beq_eq_false_iff_ne.2 (by omega)
  clear ho hln hat
  go_wp2
  go_loopg [6,10] (Q72 (l.set i0 sl0) i0 ((i0+1) % l.length)) (fun gk iv kv wr=> ∃(m:List Sl) (i k:Nat),iv=.int .i64 i∧kv=.int .i64 k∧Hid (DropInv l.length (Q0O l i0) gk m i k)∧Hid (wr.ownsRow v1.heap.size 84 5 (.slice (some ⟨g,0,none⟩) l.length c2) l.length (m.flatMap Q0a.cs))∧Hid (Stp g (g+1) W2 wr))
  case atStart=> exact ⟨_,i0,(i0+1) % l.length,rfl,by simp,HInv0,HO3,HSt3⟩
  case round=>
   clear co3 HO3 HSt3 hW3 HInv0 hu0 fu0 hu1 fu1 hu2 fu2 hu3 fu3 hu4 fu4 hm0
   obtain ⟨m,i,k,rfl,rfl,HI,HOr,HSt⟩:=hrel
   have hml:=Q00 HI.out.len
   have hik:=HI.out.hi
   have hkk:=HI.out.hk
   have ho:wr.ownsRow v1.heap.size 84 5 (.slice (some ⟨g,0,none⟩) l.length c2) l.length (m.flatMap Q0a.cs):=HOr.out
   have hszr:W2.heap.size≤wr.heap.size:=HSt.out.size
   have cor:=HSt.out.cell co0 zco (.inr hg2)
   have crr:=HSt.out.cell cr0 zcr (.inl (show w.heap.size+1+1 < g by omega))
   have fcrr:=HSt.out.frozen fcr0 zcr (.inl (show w.heap.size+1+1 < g by omega))
   have hk1:(k:Int) < (l.length:Int):=by omega
   have hi1:(i:Int) < (l.length:Int):=by omega
   obtain ⟨s,hxy⟩:∃s,m.getD k sl0=s:=⟨_,rfl⟩
   have hrk:=Q5J ho hml.out.symm k hkk
   rw [hxy] at hrk
   have e0:=hrk.1
   have e1:=hrk.2.1
   have e2:=hrk.2.2.1
   have e3:=hrk.2.2.2.1
   have e4:=hrk.2.2.2.2
   have HX:=Q00 hxy
   clear hrk hxy
   have hsz3:w.heap.size+1+1 < v1.heap.size:=hz1
   by_cases hki:k=i
   ·have HDn:=Q00 (HI.out.done (by rw [hki];exact HI.out.free))
    subst hki
    clear ho
    go_wp2
    refine bodyPost_ret (v:=.tuple #[tab (.slice (some ⟨g,0,none⟩) l.length c2),.bool true]) (by simp [results,Try.results96,go_sem,crr]) rfl ⟨g,0,c2,by rw [HD.out], ?_, ?_, ?_,.inr (by omega)⟩
    ·have h:=(HOr.out.lt g rfl).2;simpa using h
    ·rw [HP.out,←HDn.out]
     have h:=ownsRow_setCell_below HOr.out (a:=⟨w.heap.size+1+1,0,none⟩) hsz3 (.slice (some ⟨g,0,none⟩) l.length c2)
     exact Q0l h hml.out.symm
    ·exact (HB.out.trans (HSt.out.below (by omega) (by omega))).setCell (p:=⟨w.heap.size+1+1,0,none⟩) (by simp <;> omega) _
   ·have hki2:((k:Int)==(i:Int))=false:=beq_eq_false_iff_ne.2 (by omega)
    have hki3:¬(k:Int)=(i:Int):=by omega
    obtain ⟨su,sa,sp,sv,st⟩:=s
    simp only at e0 e1 e2 e3 e4
    cases su with
    |false=>
     have HDn:=Q00 (HI.out.done (by rw [HX.out]))
     clear ho
     go_wp2
     refine bodyPost_ret (v:=.tuple #[tab (.slice (some ⟨g,0,none⟩) l.length c2),.bool true]) (by simp [results,Try.results96,go_sem,crr]) rfl ⟨g,0,c2,by rw [HD.out], ?_, ?_, ?_,.inr (by omega)⟩
     ·have h:=(HOr.out.lt g rfl).2;simpa using h
     ·rw [HP.out,←HDn.out]
      have h:=ownsRow_setCell_below HOr.out (a:=⟨w.heap.size+1+1,0,none⟩) hsz3 (.slice (some ⟨g,0,none⟩) l.length c2)
      exact Q0l h hml.out.symm
     ·exact (HB.out.trans (HSt.out.below (by omega) (by omega))).setCell (p:=⟨w.heap.size+1+1,0,none⟩) (by simp <;> omega) _
    |true=>
     have hfo:Q0b sa sp=true:=by have h:=HI.out.ok k (by have:=hml.out;omega) (by rw [HX.out]);rw [HX.out] at h;exact h
     have hhl:=Q0S hn sa sp
     have HMv:=Q00 (show Q2t l.length m i k=decide (Q0P l.length i k≤Q0P l.length (Q0B l.length sa sp) k) by unfold Q2t;rw [HX.out])
     have HOx:=Q00 ho
     clear ho
     go_wp2_with fail
     refine (Q4q l.length sa sp wr hn hl hfo).mono ?_
     rintro e W6 ⟨rfl,hb6⟩
     generalize Q0B l.length sa sp=hm at *
     have hm1:(hm:Int) < (l.length:Int):=by omega
     have hf1:=Q4B hhl hkk
     have hf2:=Q4B hik hkk
     have hnx:=Q2R l.length k
     have ho6:W6.ownsRow v1.heap.size 84 5 (.slice (some ⟨g,0,none⟩) l.length c2) l.length (m.flatMap Q0a.cs):=Q07 HOx.out hb6
     have zcor:v2.heap.size < wr.heap.size:=by omega
     have co6:W6.cell? ⟨v2.heap.size,0,none⟩=some (.slice (some ⟨g,0,none⟩) l.length c2):=(hb6.cell (p:=⟨v2.heap.size,0,none⟩) zcor).trans cor
     have HSt6:=Q00 (HSt.out.trans (Stp.of hb6))
     clear hb6 cor crr fcrr
     generalize Q0P l.length hm k=d1 at *
     generalize Q0P l.length i k=d2 at *
     by_cases hmv:(d2:Int)≤(d1:Int)
     ·skip
      have HNx:=Q00 (HI.out.move (by rw [HX.out]) (by rw [HMv.out];exact decide_eq_true (by omega)))
      rw [HX.out] at HNx
      have hln:(m.flatMap Q0a.cs).length=l.length * 5:=by rw [Q0r,hml.out];rfl
      have hrk:=Q5J ho6 hml.out.symm k hkk
      rw [HX.out] at hrk
      have g0:=hrk.1
      have g1:=hrk.2.1
      have g2:=hrk.2.2.1
      have g3:=hrk.2.2.2.1
      have g4:=hrk.2.2.2.2
      simp only at g0 g1 g2 g3 g4
      clear hrk e0 e1 e2 e3 e4
      obtain ⟨u0,hu0⟩:∃u,W6.cell? ⟨g,i * 5,none⟩=some u:=⟨_,(ho6.cellAt (i * 5) (by omega)).trans (List.getElem?_eq_getElem (by omega))⟩
      have fu0:=ho6.frozenAt (i * 5)
      obtain ⟨u1,hu1⟩:∃u,W6.cell? ⟨g,i * 5+1,none⟩=some u:=⟨_,(ho6.cellAt (i * 5+1) (by omega)).trans (List.getElem?_eq_getElem (by omega))⟩
      have fu1:=ho6.frozenAt (i * 5+1)
      obtain ⟨u2,hu2⟩:∃u,W6.cell? ⟨g,i * 5+2,none⟩=some u:=⟨_,(ho6.cellAt (i * 5+2) (by omega)).trans (List.getElem?_eq_getElem (by omega))⟩
      have fu2:=ho6.frozenAt (i * 5+2)
      obtain ⟨u3,hu3⟩:∃u,W6.cell? ⟨g,i * 5+3,none⟩=some u:=⟨_,(ho6.cellAt (i * 5+3) (by omega)).trans (List.getElem?_eq_getElem (by omega))⟩
      have fu3:=ho6.frozenAt (i * 5+3)
      obtain ⟨u4,hu4⟩:∃u,W6.cell? ⟨g,i * 5+4,none⟩=some u:=⟨_,(ho6.cellAt (i * 5+4) (by omega)).trans (List.getElem?_eq_getElem (by omega))⟩
      have fu4:=ho6.frozenAt (i * 5+4)
      obtain ⟨W4,hW4⟩:∃W,(((((W6.setCell ⟨g,i * 5,none⟩ (.bool true)).setCell ⟨g,i * 5+1,none⟩ (.int .i64 sa)).setCell ⟨g,i * 5+2,none⟩ (.int .i64 sp)).setCell ⟨g,i * 5+3,none⟩ (.int .i64 sv)).setCell ⟨g,i * 5+4,none⟩ (.int .i64 st))=W:=⟨_,rfl⟩
      have ho4:W4.ownsRow v1.heap.size 84 5 (.slice (some ⟨g,0,none⟩) l.length c2) l.length ((m.set i ⟨true,sa,sp,sv,st⟩).flatMap Q0a.cs):=by rw [←hW4];exact (Q1D (k:=i) ⟨true,sa,sp,sv,st⟩ (Kaq g) ho6 (Below.refl g W6)).1
      have HSt4:Hid (Stp g (g+1) W6 W4):=by rw [←hW4];exact Q1z W6 g i ⟨true,sa,sp,sv,st⟩
      have hln4:((m.set i ⟨true,sa,sp,sv,st⟩).flatMap Q0a.cs).length=l.length * 5:=by rw [Q0r,List.length_set,hml.out];rfl
      have zco6:v2.heap.size < W6.heap.size:=Kbq hzo2 HSt6.out.size
      have co4:=HSt4.out.cell co6 zco6 (.inr hg2)
      obtain ⟨y0,hy0⟩:∃u,W4.cell? ⟨g,k * 5,none⟩=some u:=⟨_,(ho4.cellAt (k * 5) (by omega)).trans (List.getElem?_eq_getElem (by omega))⟩
      have fy0:=ho4.frozenAt (k * 5)
      obtain ⟨y1,hy1⟩:∃u,W4.cell? ⟨g,k * 5+1,none⟩=some u:=⟨_,(ho4.cellAt (k * 5+1) (by omega)).trans (List.getElem?_eq_getElem (by omega))⟩
      have fy1:=ho4.frozenAt (k * 5+1)
      obtain ⟨y2,hy2⟩:∃u,W4.cell? ⟨g,k * 5+2,none⟩=some u:=⟨_,(ho4.cellAt (k * 5+2) (by omega)).trans (List.getElem?_eq_getElem (by omega))⟩
      have fy2:=ho4.frozenAt (k * 5+2)
      obtain ⟨y3,hy3⟩:∃u,W4.cell? ⟨g,k * 5+3,none⟩=some u:=⟨_,(ho4.cellAt (k * 5+3) (by omega)).trans (List.getElem?_eq_getElem (by omega))⟩
      have fy3:=ho4.frozenAt (k * 5+3)
      obtain ⟨y4,hy4⟩:∃u,W4.cell? ⟨g,k * 5+4,none⟩=some u:=⟨_,(ho4.cellAt (k * 5+4) (by omega)).trans (List.getElem?_eq_getElem (by omega))⟩
      have fy4:=ho4.frozenAt (k * 5+4)
      obtain ⟨W5,hW5⟩:∃W,(((((W4.setCell ⟨g,k * 5,none⟩ (.bool false)).setCell ⟨g,k * 5+1,none⟩ (.int .i64 0)).setCell ⟨g,k * 5+2,none⟩ (.int .i64 0)).setCell ⟨g,k * 5+3,none⟩ (.int .i64 0)).setCell ⟨g,k * 5+4,none⟩ (.int .i64 0))=W:=⟨_,rfl⟩
      have HO5:Hid (W5.ownsRow v1.heap.size 84 5 (.slice (some ⟨g,0,none⟩) l.length c2) l.length (((m.set i ⟨true,sa,sp,sv,st⟩).set k sl0).flatMap Q0a.cs)):=by rw [←hW5];exact (Q1D (k:=k) sl0 (Kaq g) ho4 (Below.refl g W4)).1
      have HSt5:Hid (Stp g (g+1) W4 W5):=by rw [←hW5];exact Q1z W4 g k sl0
      have HStA:=Q00 (HSt6.out.trans (HSt4.out.trans HSt5.out))
      clear ho6 ho4 hln hln4
      go_wp2
      go_region
      go_wp2
      go_region
      go_wp2
      go_roundg (gk - 1)
      case measure=> have:=HNx.out.1;omega
      case rel=> exact ⟨_,k,(k+1) % l.length,rfl,by simp,HNx.out.2,HO5,HStA.out.drew.drew⟩
     ·skip
      have HNx:=Q00 (HI.out.stay (by rw [HX.out]) (by rw [HMv.out];exact decide_eq_false (by omega)))
      have hmv':decide (d2≤d1)=false:=decide_eq_false (by omega)
      have hmv2:decide ((d2:Int)≤(d1:Int))=false:=decide_eq_false hmv
      have HO6:=Q00 ho6
      clear ho6
      go_wp2
      go_region
      go_wp2
      go_roundg (gk - 1)
      case measure=> have:=HNx.out.1;omega
      case rel=> exact ⟨m,i,(k+1) % l.length,rfl,by simp,HNx.out.2,HO6,HSt6.out.drew⟩
theorem Q7y (g c base:Nat) (l:List Sl) (a p:Int) (w:World) (hn:0 < l.length) (h16:l.length≤16) (hf:Q0b a p=true) (hok:Q0C l) (ho:w.ownsRow base Q0j 5 (.slice (some ⟨g,0,none⟩) l.length c) l.length (l.flatMap Q0a.cs)):
  Calls Try.prog 81 #[tab (.slice (some ⟨g,0,none⟩) l.length c),Q3p a p] w fun e w'=> e=.returned (.bool (Q0m l a p).2)∧w'.ownsRow base Q0j 5 (.slice (some ⟨g,0,none⟩) l.length c) l.length ((Q1V l a p).flatMap Q0a.cs)∧Stp g (g+1) w w':=by
 have HO:=Q00 ho
 have hl:l.length≤1048576:=by omega
 clear ho
 obtain ⟨W0,hW0⟩:∃W,((w.alloc (.cells #[.slice (some ⟨g,0,none⟩) l.length c] 63)).alloc (.cells #[.int .i64 a,.int .i64 p] 29))=W:=⟨_,rfl⟩
 have hb_W0:Below w.heap.size w W0:=by rw [←hW0];exact (((Below.refl _ _).alloc (Kaq _) _).alloc (by simp <;> omega) _)
 replace HO:=Q00 (Q07 HO.out hb_W0)
 have HB:=Q00 hb_W0
 clear hb_W0
 have zct:w.heap.size < W0.heap.size:=by rw [←hW0];simp <;> omega
 have ct0:W0.cell? ⟨w.heap.size,0,none⟩=some (.slice (some ⟨g,0,none⟩) l.length c):=by rw [←hW0];simp [go_sem]
 have zcf:w.heap.size+1 < W0.heap.size:=by rw [←hW0];simp
 have cf0:W0.cell? ⟨w.heap.size+1,0,none⟩=some (.int .i64 a):=by rw [←hW0];simp [go_sem]
 have cf1:W0.cell? ⟨w.heap.size+1,1,none⟩=some (.int .i64 p):=by rw [←hW0];simp [go_sem]
 have hat:=Q1y g 0 c l a p W0 hn hl hf (HO.out.lt g rfl).2 (Q0l HO.out rfl)
 rcases Q0Z l hn a p with hE|⟨i0,hi0,⟨hE,_⟩|⟨hE,_⟩⟩
 ·skip
  have HP:=Q00 (Q2g (l:=l) (a:=a) (p:=p) (by rw [hE]))
  have HD:=Q00 (show (Q0m l a p).2=false by rw [hE])
  rw [hE] at hat
  clear hE
  go_enter Try.func81,Try.ntmps81
  go_wp2_with fail
  refine (hat).mono ?_
  rintro e v1 ⟨rfl,hb⟩
  replace ct0:v1.cell? ⟨w.heap.size,0,none⟩=some (.slice (some ⟨g,0,none⟩) l.length c):=(hb.cell (p:=⟨w.heap.size,0,none⟩) zct).trans ct0
  replace zct:w.heap.size < v1.heap.size:=Kbq zct hb.size
  replace cf0:v1.cell? ⟨w.heap.size+1,0,none⟩=some (.int .i64 a):=(hb.cell (p:=⟨w.heap.size+1,0,none⟩) zcf).trans cf0
  replace cf1:v1.cell? ⟨w.heap.size+1,1,none⟩=some (.int .i64 p):=(hb.cell (p:=⟨w.heap.size+1,1,none⟩) zcf).trans cf1
  replace zcf:w.heap.size+1 < v1.heap.size:=Kbq zcf hb.size
  replace HO:=Q00 (Q07 HO.out hb)
  replace HB:=Q00 (HB.out.trans (hb.mono HB.out.size))
  clear hb
  clear hat
  go_wp2
  go_ret
  exact ⟨by rw [HD.out];rfl,by rw [HP.out];exact HO.out,Stp.of HB.out⟩
 ·skip
  have HP:=Q00 (Q2g (l:=l) (a:=a) (p:=p) (by rw [hE]))
  have HD:=Q00 (show (Q0m l a p).2=false by rw [hE])
  rw [hE] at hat
  clear hE
  go_enter Try.func81,Try.ntmps81
  go_wp2_with fail
  refine (hat).mono ?_
  rintro e v1 ⟨rfl,hb⟩
  replace ct0:v1.cell? ⟨w.heap.size,0,none⟩=some (.slice (some ⟨g,0,none⟩) l.length c):=(hb.cell (p:=⟨w.heap.size,0,none⟩) zct).trans ct0
  replace zct:w.heap.size < v1.heap.size:=Kbq zct hb.size
  replace cf0:v1.cell? ⟨w.heap.size+1,0,none⟩=some (.int .i64 a):=(hb.cell (p:=⟨w.heap.size+1,0,none⟩) zcf).trans cf0
  replace cf1:v1.cell? ⟨w.heap.size+1,1,none⟩=some (.int .i64 p):=(hb.cell (p:=⟨w.heap.size+1,1,none⟩) zcf).trans cf1
  replace zcf:w.heap.size+1 < v1.heap.size:=Kbq zcf hb.size
  replace HO:=Q00 (Q07 HO.out hb)
  replace HB:=Q00 (HB.out.trans (hb.mono HB.out.size))
  clear hb
  clear hat
  go_wp2
  go_ret
  exact ⟨by rw [HD.out];rfl,by rw [HP.out];exact HO.out,Stp.of HB.out⟩
 ·skip
  have HP:=Q00 (Q3S hE)
  have HD:=Q00 (show (Q0m l a p).2=true by rw [hE])
  rw [hE] at hat
  clear hE
  go_enter Try.func81,Try.ntmps81
  go_wp2_with fail
  refine (hat).mono ?_
  rintro e v1 ⟨rfl,hb⟩
  replace ct0:v1.cell? ⟨w.heap.size,0,none⟩=some (.slice (some ⟨g,0,none⟩) l.length c):=(hb.cell (p:=⟨w.heap.size,0,none⟩) zct).trans ct0
  replace zct:w.heap.size < v1.heap.size:=Kbq zct hb.size
  replace cf0:v1.cell? ⟨w.heap.size+1,0,none⟩=some (.int .i64 a):=(hb.cell (p:=⟨w.heap.size+1,0,none⟩) zcf).trans cf0
  replace cf1:v1.cell? ⟨w.heap.size+1,1,none⟩=some (.int .i64 p):=(hb.cell (p:=⟨w.heap.size+1,1,none⟩) zcf).trans cf1
  replace zcf:w.heap.size+1 < v1.heap.size:=Kbq zcf hb.size
  replace HO:=Q00 (Q07 HO.out hb)
  replace HB:=Q00 (HB.out.trans (hb.mono HB.out.size))
  clear hb
  go_wp2_with fail
  refine (Q4m g c base l.length i0 l v1 rfl h16 hi0 hok HO.out).mono ?_
  rintro e W2 ⟨⟨v,rfl⟩,ho2,hst⟩
  have HO2:=Q00 ho2
  have HSt:=Q00 ((Stp.of (lo:=g) (hi:=g+1) HB.out).trans hst)
  clear ho2 hst hat
  go_wp2
  go_ret
  exact ⟨by rw [HD.out];rfl,by rw [HP.out];exact HO2.out,HSt.out⟩
def Q84 (l:List Sl) (now:Int):Int:=match Q2u l now with
 |some i=> (i:Int)
 |none=> -1
theorem Q35 (b off c:Nat) (l:List Sl) (now:Int) (w:World) (hl:l.length≤1048576) (hbl:b < w.heap.size) (hc:∀i,i < l.length→∀j,j < Q0a.k→w.cell? ⟨b,off+i * Q0a.k+j,none⟩=(Q0a.cs (l.getD i Q0a.d))[j]?):
  Calls Try.prog 90 #[tab (.slice (some ⟨b,off,none⟩) l.length c),.int .i64 now] w fun e w'=> e=.returned (.int .i64 (Q84 l now))∧Below w.heap.size w w':=by
 have HC:=Q00 hc
 clear hc
 obtain ⟨W0,hW0⟩:∃W,(w.alloc (.cells #[.slice (some ⟨b,off,none⟩) l.length c] 63))=W:=⟨_,rfl⟩
 have hb_W0:Below w.heap.size w W0:=by rw [←hW0];exact ((Below.refl _ _).alloc (Kaq _) _)
 have HB:=Q00 hb_W0
 clear hb_W0
 have zct:w.heap.size < W0.heap.size:=by rw [←hW0];simp
 have ct0:W0.cell? ⟨w.heap.size,0,none⟩=some (.slice (some ⟨b,off,none⟩) l.length c):=by rw [←hW0];simp [go_sem]
 go_enter Try.func90,Try.ntmps90
 go_wp2
 go_loopw [10] (fun i wr=> ∃k:Nat,k≤l.length∧i=.int .i64 k∧Hid (Q6x l now k)∧Hid (Below W0.heap.size W0 wr))
  (fun i _=> l.length - (intOf i).toNat)
 case atStart=> exact ⟨0,Kcq _,rfl,fun j hj=> absurd hj (Nat.not_lt_zero _),Below.refl _ _⟩
 case round=>
  obtain ⟨k,hk,rfl,hT,HBr⟩:=hrel
  have HB2:=Q00 (HB.out.trans (HBr.out.mono HB.out.size))
  by_cases hlt:k < l.length
  ·have hcx:=RdL.slot (C:=w.heap.size) HC.out k hlt
   obtain ⟨s,hxy⟩:∃s,l.getD k sl0=s:=⟨_,rfl⟩
   rw [hxy] at hcx
   have e0:=(HB2.out.cell (p:=⟨b,off+k * 5,none⟩) hbl).trans hcx.1
   have e1:=(HB2.out.cell (p:=⟨b,off+k * 5+1,none⟩) hbl).trans hcx.2.1
   have e2:=(HB2.out.cell (p:=⟨b,off+k * 5+2,none⟩) hbl).trans hcx.2.2.1
   have e3:=(HB2.out.cell (p:=⟨b,off+k * 5+3,none⟩) hbl).trans hcx.2.2.2.1
   have e4:=(HB2.out.cell (p:=⟨b,off+k * 5+4,none⟩) hbl).trans hcx.2.2.2.2
   have hk':(k:Int) < (l.length:Int):=by omega
   have HX:=Q00 (show at' l k=s from hxy)
   clear hcx hxy
   obtain ⟨su,sa,sp,sv,st⟩:=s
   simp only at e0 e1 e2 e3 e4
   cases su with
   |false=>
    have HT:=Q00 (Q4k hT.out (show Q5i (at' l k) now=false by rw [HX.out];rfl))
    go_wp2
    go_roundw
    case rel=> exact ⟨k+1,hlt,by go_num,HT,HBr.out.alloc HBr.out.size _⟩
    case measure=> simp [intOf];omega
   |true=>
    by_cases hd:st≤now
    ·have HD:=Q00 (Q6h hlt hT.out (show Q5i (at' l k) now=true by rw [HX.out];simp [Q5i,hd]))
     go_wp2
     go_ret
     exact ⟨Q1F (by unfold Q84;rw [HD.out]),HB2.out.alloc HB2.out.size _⟩
    ·have HT:=Q00 (Q4k hT.out (show Q5i (at' l k) now=false by rw [HX.out];simp [Q5i];omega))
     go_wp2
     go_roundw
     case rel=> exact ⟨k+1,hlt,by go_num,HT,HBr.out.alloc HBr.out.size _⟩
     case measure=> simp [intOf];omega
  ·have e:k=l.length:=by omega
   subst e
   have HD:=Q00 (Q6g hT.out)
   go_wp2
   go_ret
   exact ⟨Q1F (by unfold Q84;rw [HD.out]),HB2.out⟩
theorem Q3T (g c base n:Nat) (l:List Sl) (now:Int) (w:World) (hn:l.length=n) (hok:Q08 l=true) (ho:w.ownsRow base Q0j 5 (.slice (some ⟨g,0,none⟩) n c) n (l.flatMap Q0a.cs)):
  Calls Try.prog 66 #[tab (.slice (some ⟨g,0,none⟩) n c),.int .i64 now] w fun e w'=> e=.returned (.int .i64 ((Q2Q l now).2:Nat))∧w'.ownsRow base Q0j 5 (.slice (some ⟨g,0,none⟩) n c) n ((Q2Q l now).1.flatMap Q0a.cs)∧Stp g (g+1) w w':=by
 have hgw:=(ho.lt g rfl).2
 have HO:=Q00 ho
 have h16:n≤16:=by have:=(Q09.1 hok).2.1;omega
 have HInv0:=Q00 (ExpInv.start (now:=now) hok)
 rw [hn] at HInv0
 clear ho
 obtain ⟨W0,hW0⟩:∃W,(w.alloc (.cells #[.slice (some ⟨g,0,none⟩) n c] 63))=W:=⟨_,rfl⟩
 have hb_W0:Below w.heap.size w W0:=by rw [←hW0];exact ((Below.refl _ _).alloc (Kaq _) _)
 replace HO:=Q00 (Q07 HO.out hb_W0)
 have HB:=Q00 hb_W0
 clear hb_W0
 have zct:w.heap.size < W0.heap.size:=by rw [←hW0];simp
 have ct0:W0.cell? ⟨w.heap.size,0,none⟩=some (.slice (some ⟨g,0,none⟩) n c):=by rw [←hW0];simp [go_sem]
 have hfd:=Q35 g 0 c l now W0 (by omega) (HO.out.lt g rfl).2 (Q0l HO.out hn.symm)
 rw [hn] at hfd
 go_enter Try.func66,Try.ntmps66
 go_wp2_with fail
 refine (hfd).mono ?_
 rintro e v1 ⟨rfl,hb⟩
 replace ct0:v1.cell? ⟨w.heap.size,0,none⟩=some (.slice (some ⟨g,0,none⟩) n c):=(hb.cell (p:=⟨w.heap.size,0,none⟩) zct).trans ct0
 replace zct:w.heap.size < v1.heap.size:=Kbq zct hb.size
 replace HO:=Q00 (Q07 HO.out hb)
 replace HB:=Q00 (HB.out.trans (hb.mono HB.out.size))
 clear hb
 have HSt:=Q00 (Stp.of (lo:=g) (hi:=g+1) HB.out)
 clear hfd
 go_wp2
 go_loopg [5,6] (cnt l) (fun gk dv av wr=> ∃(m:List Sl) (d:Nat),dv=.int .i64 d∧av=.int .i64 (Q84 m now)∧Hid (ExpInv n now (Q2Q l now) gk m d)∧Hid (wr.ownsRow base Q0j 5 (.slice (some ⟨g,0,none⟩) n c) n (m.flatMap Q0a.cs))∧Hid (wr.cell? ⟨w.heap.size,0,none⟩=some (.slice (some ⟨g,0,none⟩) n c))∧w.heap.size < wr.heap.size∧Hid (Stp g (g+1) w wr))
 case atStart=> exact ⟨l,0,rfl,rfl,HInv0,HO,ct0,zct,HSt⟩
 case round=>
  clear HInv0 HO ct0 zct HSt HB
  obtain ⟨m,d,rfl,rfl,HI,HO,HC,zct,HSt⟩:=hrel
  have ct0:=HC.out
  have hml:=Q00 HI.out.len
  cases hd:Q2u m now with
  |none=>
   have HV:=(show Q84 m now= -1 by unfold Q84;rw [hd])
   have HD:=Q00 (HI.out.done hd)
   rw [HV]
   clear hd HV
   go_wp2
   go_ret
   exact ⟨by rw [HD.out];rfl,by rw [HD.out];exact HO.out,HSt.out⟩
  |some i=>
   have HV:=(show Q84 m now=(i:Int) by unfold Q84;rw [hd])
   obtain ⟨hg,hin,hu,hc16,hN⟩:=HI.out.step hd
   have HN:=Q00 hN
   have HF:=Q00 (Q10 HI.out.ok)
   rw [HV]
   clear hd HV hN hu
   go_wp2_with fail
   refine (Q4m g c base n i m wr hml.out h16 hin HF.out HO.out).mono ?_
   rintro e W2 ⟨⟨v,rfl⟩,ho2,hst⟩
   have HO2:=Q00 ho2
   have HSt2:=Q00 (HSt.out.trans hst)
   have ct2:W2.cell? ⟨w.heap.size,0,none⟩=some (.slice (some ⟨g,0,none⟩) n c):=hst.cell ct0 zct (.inr (by omega))
   have zct2:w.heap.size < W2.heap.size:=Kbq zct hst.size
   have hfd:=Q35 g 0 c (Q0O m i) now W2 (by rw [Q0N,hml.out];omega) (ho2.lt g rfl).2 (Q0l ho2 (by rw [Q0N,hml.out]))
   rw [Q0N,hml.out] at hfd
   clear ho2 hst ct0
   go_wp2_with fail
   refine hfd.mono ?_
   rintro e W3 ⟨rfl,hb3⟩
   have HO3:Hid (W3.ownsRow base Q0j 5 (.slice (some ⟨g,0,none⟩) n c) n ((Q0O m i).flatMap Q0a.cs)):=Q07 HO2.out hb3
   have HC3:Hid (W3.cell? ⟨w.heap.size,0,none⟩=some (.slice (some ⟨g,0,none⟩) n c)):=(hb3.cell (p:=⟨w.heap.size,0,none⟩) zct2).trans ct2
   have zct3:w.heap.size < W3.heap.size:=Kbq zct2 hb3.size
   have HSt3:=Q00 (HSt2.out.trans (Stp.of hb3))
   clear hb3 hfd ct2
   go_wp2
   go_roundg (gk - 1)
   case measure=> omega
   case rel=> exact ⟨Q0O m i,d+1,by simp,rfl,HN,HO3,HC3,zct3,HSt3⟩
theorem Q66 {W:World} {B b off n c:Nat} {o:Option Addr} {T:TypeId} {m:List Sl} (hm:0 < m.length) (hB:W.heap[B]? =some (.cells #[.slice o n c] T (0,0))) (hr:(∀i,i < m.length→∀j,j < Q0a.k→W.cell? ⟨b,off+i * Q0a.k+j,none⟩=(Q0a.cs (m.getD i Q0a.d))[j]?)):b≠B:=by
 rintro rfl
 have h:W.cell? ⟨b,off+0 * Q0a.k+0,none⟩=some (.bool (m.getD 0 Q0a.d).u):=hr 0 hm 0 (by decide)
 simp only [World.cell?,hB,Nat.zero_mul,Nat.add_zero] at h
 rcases off with _|off <;> simp at h
theorem Stp.same {lo hi b j:Nat} {w w':World} (s:Stp lo hi w w') (hb:b < w.heap.size) (hd:b < lo∨hi≤b):w'.cell? ⟨b,j,none⟩=w.cell? ⟨b,j,none⟩:=by
 simp only [World.cell?,s.block b hb hd]
theorem Stp.wide' {a b lo hi:Nat} {w w':World} (h:Stp a b w w') (h1:lo≤a) (h2:b≤hi):Stp lo hi w w':=⟨h.os,h.tape,h.output,h.size,fun k hk hn=> h.block k hk (by omega)⟩
theorem Q5O (now:Int):∀(f:Nat) (l:List Sl) (c:Nat),(Q4G now f l c).2≤c+f
 |0,l,c=> Kaq _
 |f+1,l,c=> by
  unfold Q4G
  cases Q2u l now with
  |none=> simp
  |some i=> exact Kdq (Q5O now f (Q0O l i) (c+1)) (by omega)
theorem Q6I {l:List Sl} (now:Int) (h:l.length≤16):(Q2Q l now).2≤17:=by
 have h1:=Q5O now (cnt l+1) l 0
 have h2:=Q5I l
 unfold Q2Q
 omega
def Q1N (m:Am) (now:Int):Am:={ m with c:=(Q2Q m.c now).1,t:=(Q2Q m.t now).1 }
def Q3l (m:Am) (now:Int):Bool:=Q0f m && (decide (0≤now) && decide (now≤100000))
def Q1E (m:Am) (now:Int):Am:=if Q3l m now=true then Q1N m now else am0
def Q42 (m:Am) (now:Int):Int:=if Q3l m now=true then ((Q2Q m.c now).2:Nat)+((Q2Q m.t now).2:Nat) else -1
theorem Q3B {m:Am} (now:Int) (h:m.c.length+m.t.length≤1048576):(Q1E m now).c.length+(Q1E m now).t.length≤1048576:=by
 unfold Q1E
 split
 ·unfold Q1N;simp only [Q1r];exact h
 ·decide
theorem Q2W {m:Am} (h:Q0f m=true):Q08 m.c=true∧Q08 m.t=true∧m.c.length≤16∧m.t.length≤16:=by
 have h:=Q0p.1 h
 exact ⟨h.2.2.2.2.1,h.2.2.2.2.2.1,(Q09.1 h.2.2.2.2.1).2.1,(Q09.1 h.2.2.2.2.2.1).2.1⟩
theorem Q3c (n:Int) (w:World):Calls Try.prog 27 #[.int .i64 n] w fun e w'=> e=.returned (.bool (decide (0≤n) && decide (n≤100000)))∧w=w':=by
 go_enter Try.func27,Try.ntmps27
 go_wp2
 all_goals go_ret
 all_goals refine ⟨Q0g ?_,rfl⟩
 all_goals first|(simp [*];done)|(simp;omega)
theorem Q51 (v:Value) (m:Am) (now:Int) (lo hi:Nat) (w:World) (hO:OwnG lo hi w v m) (h1:Q08 m.c=true) (h2:Q08 m.t=true):
  Calls Try.prog 42 #[v,.int .i64 now] w fun e w'=> e=.returned (.int .i64 (((Q2Q m.c now).2:Nat)+((Q2Q m.t now).2:Nat)))∧OwnG lo hi w' v (Q1N m now)∧Stp lo hi w w':=by
 obtain ⟨g,h,mid,rfl,i1,i2,g1,g2⟩:=hO
 have hb1:=Q6I now (Q09.1 h1).2.1
 have hb2:=Q6I now (Q09.1 h2).2.1
 have el1:=Q1r m.c now
 have el2:=Q1r m.t now
 have zg:=(i1.1.lt g rfl).2
 have zh:=(i2.1.lt h rfl).2
 have lg:=(i1.1.lt g rfl).1
 have lh:=(i2.1.lt h rfl).1
 have mg:=i1.2 g rfl
 have mh:=i2.2 h rfl
 obtain ⟨W0,hW0⟩:∃W,(w.alloc (.cells #[.slice (some ⟨g,0,none⟩) m.c.length m.c.length,.slice (some ⟨h,0,none⟩) m.t.length m.t.length,.int .i64 m.id,.int .i64 m.lim,.bool m.dr] 68))=W:=⟨_,rfl⟩
 have hb_W0:Below w.heap.size w W0:=by rw [←hW0];exact ((Below.refl _ _).alloc (Kaq _) _)
 have HB:=Q00 hb_W0
 clear hb_W0
 have zz:w.heap.size < W0.heap.size:=by rw [←hW0];simp
 have z0:W0.cell? ⟨w.heap.size,0,none⟩=some (.slice (some ⟨g,0,none⟩) m.c.length m.c.length):=by rw [←hW0];simp [go_sem]
 have z1:W0.cell? ⟨w.heap.size,1,none⟩=some (.slice (some ⟨h,0,none⟩) m.t.length m.t.length):=by rw [←hW0];simp [go_sem]
 have z2:W0.cell? ⟨w.heap.size,2,none⟩=some (.int .i64 m.id):=by rw [←hW0];simp [go_sem]
 have z3:W0.cell? ⟨w.heap.size,3,none⟩=some (.int .i64 m.lim):=by rw [←hW0];simp [go_sem]
 have z4:W0.cell? ⟨w.heap.size,4,none⟩=some (.bool m.dr):=by rw [←hW0];simp [go_sem]
 have HO1:Hid (W0.drew.ownsRow lo Q0j 5 (.slice (some ⟨g,0,none⟩) m.c.length m.c.length) m.c.length (m.c.flatMap Q0a.cs)):=Q07 i1.1 (Below.drew HB.out)
 have HO2:Hid (W0.drew.ownsRow mid Q0j 5 (.slice (some ⟨h,0,none⟩) m.t.length m.t.length) m.t.length (m.t.flatMap Q0a.cs)):=Q07 i2.1 (Below.drew HB.out)
 have HS0:Hid (Stp lo hi w W0.drew):=Stp.of (Below.drew HB.out)
 clear i1 i2
 have HD1:=Q00 (Q3T g m.c.length lo m.c.length m.c now W0.drew rfl h1 HO1.out)
 have HD2:=Q00 (fun W (ho:W.ownsRow mid Q0j 5 (.slice (some ⟨h,0,none⟩) m.t.length m.t.length) m.t.length (m.t.flatMap Q0a.cs))=> Q3T h m.t.length mid m.t.length m.t now W rfl h2 ho)
 have HTA:=Q00 (show Q1N m now={ m with c:=(Q2Q m.c now).1,t:=(Q2Q m.t now).1 } from rfl)
 generalize Q2Q m.c now=E1 at *
 generalize Q2Q m.t now=E2 at *
 obtain ⟨l1,n1⟩:=E1
 obtain ⟨l2,n2⟩:=E2
 simp only at el1 el2 hb1 hb2 HTA HD1 HD2 ⊢
 clear h1 h2
 go_enter Try.func42,Try.ntmps42
 go_wp2
 go_region_held3 (fun w'=> w'.cell? ⟨w.heap.size,0,none⟩=some (.slice (some ⟨g,0,none⟩) m.c.length m.c.length)∧w'.cell? ⟨w.heap.size,1,none⟩=some (.slice (some ⟨h,0,none⟩) m.t.length m.t.length)∧w'.cell? ⟨w.heap.size,2,none⟩=some (.int .i64 m.id)∧w'.cell? ⟨w.heap.size,3,none⟩=some (.int .i64 m.lim)∧w'.cell? ⟨w.heap.size,4,none⟩=some (.bool m.dr)) (first|with_reducible exact ⟨qz0,qz1,qz2,qz3,qz4⟩|with_reducible exact ⟨pz0,pz1,pz2,pz3,pz4⟩|exact ⟨z0,z1,z2,z3,z4⟩|go_keep) (first|(go_at_call 66;(with_reducible refine HD1.out.mono ?_);rintro e v1 ⟨rfl,ho1,st1⟩;have HP1:=Q00 ho1;have HQ1:Hid (v1.ownsRow mid Q0j 5 (.slice (some ⟨h,0,none⟩) m.t.length m.t.length) m.t.length (m.t.flatMap Q0a.cs)):=(InRow.step (b:=h+1) ⟨HO2.out,fun b e=> by simp [Value.ownBlock] at e;omega⟩ st1 (.inl (by omega))).1;have HS1:Hid (Stp lo hi w v1):=HS0.out.trans (st1.wide' (by omega) (by omega));have zs1:W0.heap.size≤v1.heap.size:=st1.size;have pz0:v1.cell? ⟨w.heap.size,0,none⟩=some (.slice (some ⟨g,0,none⟩) m.c.length m.c.length):=st1.cell z0 zz (.inr (by omega));have pz1:v1.cell? ⟨w.heap.size,1,none⟩=some (.slice (some ⟨h,0,none⟩) m.t.length m.t.length):=st1.cell z1 zz (.inr (by omega));have pz2:v1.cell? ⟨w.heap.size,2,none⟩=some (.int .i64 m.id):=st1.cell z2 zz (.inr (by omega));have pz3:v1.cell? ⟨w.heap.size,3,none⟩=some (.int .i64 m.lim):=st1.cell z3 zz (.inr (by omega));have pz4:v1.cell? ⟨w.heap.size,4,none⟩=some (.bool m.dr):=st1.cell z4 zz (.inr (by omega));clear ho1 st1)|(go_at_call 66;(with_reducible refine (HD2.out v1 HQ1.out).mono ?_);rintro e v2 ⟨rfl,ho2,st2⟩;have HP2:=Q00 ho2;have HQ2:Hid (v2.ownsRow lo Q0j 5 (.slice (some ⟨g,0,none⟩) m.c.length m.c.length) m.c.length (l1.flatMap Q0a.cs)):=(InRow.step (b:=g+1) ⟨HP1.out,fun b e=> by simp [Value.ownBlock] at e;omega⟩ st2 (.inr (by omega))).1;have HS2:Hid (Stp lo hi w v2):=HS1.out.trans (st2.wide' (by omega) (by omega));have qz0:v2.cell? ⟨w.heap.size,0,none⟩=some (.slice (some ⟨g,0,none⟩) m.c.length m.c.length):=st2.cell pz0 (by omega) (.inr (by omega));have qz1:v2.cell? ⟨w.heap.size,1,none⟩=some (.slice (some ⟨h,0,none⟩) m.t.length m.t.length):=st2.cell pz1 (by omega) (.inr (by omega));have qz2:v2.cell? ⟨w.heap.size,2,none⟩=some (.int .i64 m.id):=st2.cell pz2 (by omega) (.inr (by omega));have qz3:v2.cell? ⟨w.heap.size,3,none⟩=some (.int .i64 m.lim):=st2.cell pz3 (by omega) (.inr (by omega));have qz4:v2.cell? ⟨w.heap.size,4,none⟩=some (.bool m.dr):=st2.cell pz4 (by omega) (.inr (by omega));clear ho2 st2)|fail)
 have hw:IntKind.i64.wrap ((n1:Int)+(n2:Int))=(n1:Int)+(n2:Int):=by rw [IntKind.wrap_i64];omega
 go_wp2
 go_ret
 refine ⟨Q1F hw, ?_,HS2.out⟩
 rw [HTA.out]
 exact ⟨g,h,mid,by simp only [el1,el2],⟨by rw [el1];exact HQ2.out,fun b e=> by simp [Value.ownBlock] at e;omega⟩,⟨by rw [el2];exact HP2.out,fun b e=> by simp [Value.ownBlock] at e;omega⟩,g1,g2⟩
theorem Q1f (v:Value) (m:Am) (now:Int) (w:World) (hR:RdA w.heap.size w v m) (hf:m.c.length+m.t.length≤1048576):
  Calls Try.prog 19 #[v,.int .i64 now] w fun e w'=> ∃v',e=.returned (.tuple #[v',.int .i64 (Q42 m now)])∧InA w.heap.size w'.heap.size w' v' (Q1E m now)∧Below w.heap.size w w':=by
 have hR0:=hR
 obtain ⟨vc,vt,rfl,⟨oc,cc,rfl,rc⟩,⟨ot,ct,rfl,rt⟩⟩:=hR0
 clear rc rt
 obtain ⟨W0,hW0⟩:∃W,((w.alloc (.cells #[.int .i64 m.id,.int .i64 m.lim,.bool m.dr,.slice oc m.c.length cc,.slice ot m.t.length ct] 27)).alloc (.cells #[.int .i64 0,.int .i64 0,.bool false,.slice none 0 0,.slice none 0 0] 27))=W:=⟨_,rfl⟩
 have hb_W0:Below w.heap.size w W0:=by rw [←hW0];exact (((Below.refl _ _).alloc (Kaq _) _).alloc (by simp <;> omega) _)
 have HB:=Q00 hb_W0
 clear hb_W0
 have zz:w.heap.size < W0.heap.size:=by rw [←hW0];simp <;> omega
 have z0:W0.cell? ⟨w.heap.size,0,none⟩=some (.int .i64 m.id):=by rw [←hW0];simp [go_sem]
 have z1:W0.cell? ⟨w.heap.size,1,none⟩=some (.int .i64 m.lim):=by rw [←hW0];simp [go_sem]
 have z2:W0.cell? ⟨w.heap.size,2,none⟩=some (.bool m.dr):=by rw [←hW0];simp [go_sem]
 have z3:W0.cell? ⟨w.heap.size,3,none⟩=some (.slice oc m.c.length cc):=by rw [←hW0];simp [go_sem]
 have z4:W0.cell? ⟨w.heap.size,4,none⟩=some (.slice ot m.t.length ct):=by rw [←hW0];simp [go_sem]
 have zr:w.heap.size+1 < W0.heap.size:=by rw [←hW0];simp
 have r0:W0.cell? ⟨w.heap.size+1,0,none⟩=some (.int .i64 0):=by rw [←hW0];simp [go_sem]
 have r1:W0.cell? ⟨w.heap.size+1,1,none⟩=some (.int .i64 0):=by rw [←hW0];simp [go_sem]
 have r2:W0.cell? ⟨w.heap.size+1,2,none⟩=some (.bool false):=by rw [←hW0];simp [go_sem]
 have r3:W0.cell? ⟨w.heap.size+1,3,none⟩=some (.slice none 0 0):=by rw [←hW0];simp [go_sem]
 have r4:W0.cell? ⟨w.heap.size+1,4,none⟩=some (.slice none 0 0):=by rw [←hW0];simp [go_sem]
 have fr0:W0.frozen? ⟨w.heap.size+1,0,none⟩=false:=by rw [←hW0];simp [go_sem]
 have fr1:W0.frozen? ⟨w.heap.size+1,1,none⟩=false:=by rw [←hW0];simp [go_sem]
 have fr2:W0.frozen? ⟨w.heap.size+1,2,none⟩=false:=by rw [←hW0];simp [go_sem]
 have fr3:W0.frozen? ⟨w.heap.size+1,3,none⟩=false:=by rw [←hW0];simp [go_sem]
 have fr4:W0.frozen? ⟨w.heap.size+1,4,none⟩=false:=by rw [←hW0];simp [go_sem]
 have hz0:=zr
 have HOK:=Q00 (Q0V _ m W0 ((hR.kept HB.out (Kaq _)).le HB.out.size) hf)
 have hnw:=fun W=> Q3c now W
 have HTB:=Q00 (show Q3l m now=(Q0f m && (decide (0≤now) && decide (now≤100000))) from rfl)
 have HTM:=Q00 (show Q1E m now=if Q3l m now=true then Q1N m now else am0 from rfl)
 have HTN:=Q00 (show Q42 m now=if Q3l m now=true then (((Q2Q m.c now).2:Nat):Int)+((Q2Q m.t now).2:Nat) else -1 from rfl)
 have HAG:=Q00 (fun h:Q0f m=true=> And.intro (Q57 h) (Q2W h))
 generalize (decide (0≤now) && decide (now≤100000))=bl at *
 rw [HTB.out] at HTM HTN
 generalize Q0f m=ok at *
 by_cases hall:(ok && bl)=true
 ·obtain ⟨rfl,rfl⟩:ok=true∧bl=true:=by cases ok <;> cases bl <;> simp_all
  obtain ⟨⟨hp1,hp2⟩,ht1,ht2,hl1,hl2⟩:=HAG.out rfl
  clear hall HAG
  go_enter Try.func19,Try.ntmps19
  go_wp2_with fail
  refine (HOK.out).mono ?_
  rintro e v1 ⟨o1,n1,k1,o2,n2,k2,i,l,d,rfl,hv,hb⟩
  have hO:=hv (by simp)
  obtain ⟨g,h,mid,e,i1,i2,g1,g2⟩:=hO
  injection e with e
  simp at e
  obtain ⟨⟨rfl,rfl,rfl⟩,⟨rfl,rfl,rfl⟩,rfl,rfl,rfl⟩:=e
  have HI:Hid (OwnG W0.heap.size v1.heap.size v1 (agi (.slice (some ⟨g,0,none⟩) m.c.length m.c.length) (.slice (some ⟨h,0,none⟩) m.t.length m.t.length) m.id m.lim m.dr) m):=⟨g,h,mid,rfl,i1,i2,g1,g2⟩
  have hs1:=hb.size
  clear hv i1 i2 g1 g2
  replace z0:v1.cell? ⟨w.heap.size,0,none⟩=some (.int .i64 m.id):=(hb.cell (p:=⟨w.heap.size,0,none⟩) zz).trans z0
  replace z1:v1.cell? ⟨w.heap.size,1,none⟩=some (.int .i64 m.lim):=(hb.cell (p:=⟨w.heap.size,1,none⟩) zz).trans z1
  replace z2:v1.cell? ⟨w.heap.size,2,none⟩=some (.bool m.dr):=(hb.cell (p:=⟨w.heap.size,2,none⟩) zz).trans z2
  replace z3:v1.cell? ⟨w.heap.size,3,none⟩=some (.slice oc m.c.length cc):=(hb.cell (p:=⟨w.heap.size,3,none⟩) zz).trans z3
  replace z4:v1.cell? ⟨w.heap.size,4,none⟩=some (.slice ot m.t.length ct):=(hb.cell (p:=⟨w.heap.size,4,none⟩) zz).trans z4
  replace zz:w.heap.size < v1.heap.size:=Kbq zz hb.size
  replace r0:v1.cell? ⟨w.heap.size+1,0,none⟩=some (.int .i64 0):=(hb.cell (p:=⟨w.heap.size+1,0,none⟩) zr).trans r0
  replace r1:v1.cell? ⟨w.heap.size+1,1,none⟩=some (.int .i64 0):=(hb.cell (p:=⟨w.heap.size+1,1,none⟩) zr).trans r1
  replace r2:v1.cell? ⟨w.heap.size+1,2,none⟩=some (.bool false):=(hb.cell (p:=⟨w.heap.size+1,2,none⟩) zr).trans r2
  replace r3:v1.cell? ⟨w.heap.size+1,3,none⟩=some (.slice none 0 0):=(hb.cell (p:=⟨w.heap.size+1,3,none⟩) zr).trans r3
  replace r4:v1.cell? ⟨w.heap.size+1,4,none⟩=some (.slice none 0 0):=(hb.cell (p:=⟨w.heap.size+1,4,none⟩) zr).trans r4
  replace fr0:v1.frozen? ⟨w.heap.size+1,0,none⟩=false:=(hb.frozen (p:=⟨w.heap.size+1,0,none⟩) zr).trans fr0
  replace fr1:v1.frozen? ⟨w.heap.size+1,1,none⟩=false:=(hb.frozen (p:=⟨w.heap.size+1,1,none⟩) zr).trans fr1
  replace fr2:v1.frozen? ⟨w.heap.size+1,2,none⟩=false:=(hb.frozen (p:=⟨w.heap.size+1,2,none⟩) zr).trans fr2
  replace fr3:v1.frozen? ⟨w.heap.size+1,3,none⟩=false:=(hb.frozen (p:=⟨w.heap.size+1,3,none⟩) zr).trans fr3
  replace fr4:v1.frozen? ⟨w.heap.size+1,4,none⟩=false:=(hb.frozen (p:=⟨w.heap.size+1,4,none⟩) zr).trans fr4
  replace zr:w.heap.size+1 < v1.heap.size:=Kbq zr hb.size
  replace HB:=Q00 (HB.out.trans (hb.mono HB.out.size))
  clear hb
  obtain ⟨W2,hW2⟩:∃W,(v1.alloc (.cells #[.slice (some ⟨g,0,none⟩) m.c.length m.c.length,.slice (some ⟨h,0,none⟩) m.t.length m.t.length,.int .i64 m.id,.int .i64 m.lim,.bool m.dr] 68))=W:=⟨_,rfl⟩
  have hb_W2:Below v1.heap.size v1 W2:=by rw [←hW2];exact ((Below.refl _ _).alloc (Kaq _) _)
  replace z0:W2.cell? ⟨w.heap.size,0,none⟩=some (.int .i64 m.id):=(hb_W2.cell (p:=⟨w.heap.size,0,none⟩) zz).trans z0
  replace z1:W2.cell? ⟨w.heap.size,1,none⟩=some (.int .i64 m.lim):=(hb_W2.cell (p:=⟨w.heap.size,1,none⟩) zz).trans z1
  replace z2:W2.cell? ⟨w.heap.size,2,none⟩=some (.bool m.dr):=(hb_W2.cell (p:=⟨w.heap.size,2,none⟩) zz).trans z2
  replace z3:W2.cell? ⟨w.heap.size,3,none⟩=some (.slice oc m.c.length cc):=(hb_W2.cell (p:=⟨w.heap.size,3,none⟩) zz).trans z3
  replace z4:W2.cell? ⟨w.heap.size,4,none⟩=some (.slice ot m.t.length ct):=(hb_W2.cell (p:=⟨w.heap.size,4,none⟩) zz).trans z4
  replace zz:w.heap.size < W2.heap.size:=Kbq zz hb_W2.size
  replace r0:W2.cell? ⟨w.heap.size+1,0,none⟩=some (.int .i64 0):=(hb_W2.cell (p:=⟨w.heap.size+1,0,none⟩) zr).trans r0
  replace r1:W2.cell? ⟨w.heap.size+1,1,none⟩=some (.int .i64 0):=(hb_W2.cell (p:=⟨w.heap.size+1,1,none⟩) zr).trans r1
  replace r2:W2.cell? ⟨w.heap.size+1,2,none⟩=some (.bool false):=(hb_W2.cell (p:=⟨w.heap.size+1,2,none⟩) zr).trans r2
  replace r3:W2.cell? ⟨w.heap.size+1,3,none⟩=some (.slice none 0 0):=(hb_W2.cell (p:=⟨w.heap.size+1,3,none⟩) zr).trans r3
  replace r4:W2.cell? ⟨w.heap.size+1,4,none⟩=some (.slice none 0 0):=(hb_W2.cell (p:=⟨w.heap.size+1,4,none⟩) zr).trans r4
  replace fr0:W2.frozen? ⟨w.heap.size+1,0,none⟩=false:=(hb_W2.frozen (p:=⟨w.heap.size+1,0,none⟩) zr).trans fr0
  replace fr1:W2.frozen? ⟨w.heap.size+1,1,none⟩=false:=(hb_W2.frozen (p:=⟨w.heap.size+1,1,none⟩) zr).trans fr1
  replace fr2:W2.frozen? ⟨w.heap.size+1,2,none⟩=false:=(hb_W2.frozen (p:=⟨w.heap.size+1,2,none⟩) zr).trans fr2
  replace fr3:W2.frozen? ⟨w.heap.size+1,3,none⟩=false:=(hb_W2.frozen (p:=⟨w.heap.size+1,3,none⟩) zr).trans fr3
  replace fr4:W2.frozen? ⟨w.heap.size+1,4,none⟩=false:=(hb_W2.frozen (p:=⟨w.heap.size+1,4,none⟩) zr).trans fr4
  replace zr:w.heap.size+1 < W2.heap.size:=Kbq zr hb_W2.size
  replace HB:=Q00 (HB.out.trans (hb_W2.mono HB.out.size))
  clear hb_W2
  have zo:v1.heap.size < W2.heap.size:=by rw [←hW2];simp
  have o0:W2.cell? ⟨v1.heap.size,0,none⟩=some (.slice (some ⟨g,0,none⟩) m.c.length m.c.length):=by rw [←hW2];simp [go_sem]
  have o1:W2.cell? ⟨v1.heap.size,1,none⟩=some (.slice (some ⟨h,0,none⟩) m.t.length m.t.length):=by rw [←hW2];simp [go_sem]
  have o2:W2.cell? ⟨v1.heap.size,2,none⟩=some (.int .i64 m.id):=by rw [←hW2];simp [go_sem]
  have o3:W2.cell? ⟨v1.heap.size,3,none⟩=some (.int .i64 m.lim):=by rw [←hW2];simp [go_sem]
  have o4:W2.cell? ⟨v1.heap.size,4,none⟩=some (.bool m.dr):=by rw [←hW2];simp [go_sem]
  have fo0:W2.frozen? ⟨v1.heap.size,0,none⟩=false:=by rw [←hW2];simp [go_sem]
  have fo1:W2.frozen? ⟨v1.heap.size,1,none⟩=false:=by rw [←hW2];simp [go_sem]
  have fo2:W2.frozen? ⟨v1.heap.size,2,none⟩=false:=by rw [←hW2];simp [go_sem]
  have fo3:W2.frozen? ⟨v1.heap.size,3,none⟩=false:=by rw [←hW2];simp [go_sem]
  have fo4:W2.frozen? ⟨v1.heap.size,4,none⟩=false:=by rw [←hW2];simp [go_sem]
  replace HI:=Q00 (HI.out.step (Stp.of (lo:=0) (hi:=0) (show Below v1.heap.size v1 W2 by rw [←hW2];exact (Below.refl _ _).alloc (Kaq _) _)) (.inl (Kcq _)))
  have hs2:v1.heap.size≤W2.heap.size:=by omega
  go_wp2_with fail
  refine (hnw _).mono ?_
  rintro e w9 ⟨rfl,rfl⟩
  go_wp2_with fail
  have hs00:w.heap.size+1+1≤W0.heap.size:=hz0
  refine (Q51 _ m now W0.heap.size v1.heap.size W2 HI.out ht1 ht2).mono ?_
  rintro e v2 ⟨rfl,hO2,st⟩
  have HI2:=Q00 hO2
  replace r0:v2.cell? ⟨w.heap.size+1,0,none⟩=some (.int .i64 0):=st.cell r0 zr (by omega)
  replace fr0:v2.frozen? ⟨w.heap.size+1,0,none⟩=false:=st.frozen fr0 zr (by omega)
  replace r1:v2.cell? ⟨w.heap.size+1,1,none⟩=some (.int .i64 0):=st.cell r1 zr (by omega)
  replace fr1:v2.frozen? ⟨w.heap.size+1,1,none⟩=false:=st.frozen fr1 zr (by omega)
  replace r2:v2.cell? ⟨w.heap.size+1,2,none⟩=some (.bool false):=st.cell r2 zr (by omega)
  replace fr2:v2.frozen? ⟨w.heap.size+1,2,none⟩=false:=st.frozen fr2 zr (by omega)
  replace r3:v2.cell? ⟨w.heap.size+1,3,none⟩=some (.slice none 0 0):=st.cell r3 zr (by omega)
  replace fr3:v2.frozen? ⟨w.heap.size+1,3,none⟩=false:=st.frozen fr3 zr (by omega)
  replace r4:v2.cell? ⟨w.heap.size+1,4,none⟩=some (.slice none 0 0):=st.cell r4 zr (by omega)
  replace fr4:v2.frozen? ⟨w.heap.size+1,4,none⟩=false:=st.frozen fr4 zr (by omega)
  replace zr:w.heap.size+1 < v2.heap.size:=Kbq zr st.size
  replace o0:v2.cell? ⟨v1.heap.size,0,none⟩=some (.slice (some ⟨g,0,none⟩) m.c.length m.c.length):=st.cell o0 zo (by omega)
  replace fo0:v2.frozen? ⟨v1.heap.size,0,none⟩=false:=st.frozen fo0 zo (by omega)
  replace o1:v2.cell? ⟨v1.heap.size,1,none⟩=some (.slice (some ⟨h,0,none⟩) m.t.length m.t.length):=st.cell o1 zo (by omega)
  replace fo1:v2.frozen? ⟨v1.heap.size,1,none⟩=false:=st.frozen fo1 zo (by omega)
  replace o2:v2.cell? ⟨v1.heap.size,2,none⟩=some (.int .i64 m.id):=st.cell o2 zo (by omega)
  replace fo2:v2.frozen? ⟨v1.heap.size,2,none⟩=false:=st.frozen fo2 zo (by omega)
  replace o3:v2.cell? ⟨v1.heap.size,3,none⟩=some (.int .i64 m.lim):=st.cell o3 zo (by omega)
  replace fo3:v2.frozen? ⟨v1.heap.size,3,none⟩=false:=st.frozen fo3 zo (by omega)
  replace o4:v2.cell? ⟨v1.heap.size,4,none⟩=some (.bool m.dr):=st.cell o4 zo (by omega)
  replace fo4:v2.frozen? ⟨v1.heap.size,4,none⟩=false:=st.frozen fo4 zo (by omega)
  replace zo:v1.heap.size < v2.heap.size:=Kbq zo st.size
  replace HB:=Q00 (HB.out.trans (st.below (by omega) HB.out.size))
  have hs5:=st.size
  clear z0 z1 z2 z3 z4 zz hO2 st hW2
  have el1:=Q1r m.c now
  have el2:=Q1r m.t now
  go_wp2_with fail
  refine (Q1L _ (Q1N m now) _ _ v2 HI2.out (by unfold Q1N;simp only;omega)).mono ?_
  rintro e v3 ⟨x1,rfl,hin,hb⟩
  obtain ⟨y1,y2,rfl,⟨p1,c1,rfl,_⟩,⟨p2,c2,rfl,_⟩⟩:=hin.rd
  have HJ:=Q00 hin
  have hs4:=hb.size
  clear hin
  replace r0:v3.cell? ⟨w.heap.size+1,0,none⟩=some (.int .i64 0):=(hb.cell (p:=⟨w.heap.size+1,0,none⟩) zr).trans r0
  replace r1:v3.cell? ⟨w.heap.size+1,1,none⟩=some (.int .i64 0):=(hb.cell (p:=⟨w.heap.size+1,1,none⟩) zr).trans r1
  replace r2:v3.cell? ⟨w.heap.size+1,2,none⟩=some (.bool false):=(hb.cell (p:=⟨w.heap.size+1,2,none⟩) zr).trans r2
  replace r3:v3.cell? ⟨w.heap.size+1,3,none⟩=some (.slice none 0 0):=(hb.cell (p:=⟨w.heap.size+1,3,none⟩) zr).trans r3
  replace r4:v3.cell? ⟨w.heap.size+1,4,none⟩=some (.slice none 0 0):=(hb.cell (p:=⟨w.heap.size+1,4,none⟩) zr).trans r4
  replace fr0:v3.frozen? ⟨w.heap.size+1,0,none⟩=false:=(hb.frozen (p:=⟨w.heap.size+1,0,none⟩) zr).trans fr0
  replace fr1:v3.frozen? ⟨w.heap.size+1,1,none⟩=false:=(hb.frozen (p:=⟨w.heap.size+1,1,none⟩) zr).trans fr1
  replace fr2:v3.frozen? ⟨w.heap.size+1,2,none⟩=false:=(hb.frozen (p:=⟨w.heap.size+1,2,none⟩) zr).trans fr2
  replace fr3:v3.frozen? ⟨w.heap.size+1,3,none⟩=false:=(hb.frozen (p:=⟨w.heap.size+1,3,none⟩) zr).trans fr3
  replace fr4:v3.frozen? ⟨w.heap.size+1,4,none⟩=false:=(hb.frozen (p:=⟨w.heap.size+1,4,none⟩) zr).trans fr4
  replace zr:w.heap.size+1 < v3.heap.size:=Kbq zr hb.size
  replace o0:v3.cell? ⟨v1.heap.size,0,none⟩=some (.slice (some ⟨g,0,none⟩) m.c.length m.c.length):=(hb.cell (p:=⟨v1.heap.size,0,none⟩) zo).trans o0
  replace o1:v3.cell? ⟨v1.heap.size,1,none⟩=some (.slice (some ⟨h,0,none⟩) m.t.length m.t.length):=(hb.cell (p:=⟨v1.heap.size,1,none⟩) zo).trans o1
  replace o2:v3.cell? ⟨v1.heap.size,2,none⟩=some (.int .i64 m.id):=(hb.cell (p:=⟨v1.heap.size,2,none⟩) zo).trans o2
  replace o3:v3.cell? ⟨v1.heap.size,3,none⟩=some (.int .i64 m.lim):=(hb.cell (p:=⟨v1.heap.size,3,none⟩) zo).trans o3
  replace o4:v3.cell? ⟨v1.heap.size,4,none⟩=some (.bool m.dr):=(hb.cell (p:=⟨v1.heap.size,4,none⟩) zo).trans o4
  replace fo0:v3.frozen? ⟨v1.heap.size,0,none⟩=false:=(hb.frozen (p:=⟨v1.heap.size,0,none⟩) zo).trans fo0
  replace fo1:v3.frozen? ⟨v1.heap.size,1,none⟩=false:=(hb.frozen (p:=⟨v1.heap.size,1,none⟩) zo).trans fo1
  replace fo2:v3.frozen? ⟨v1.heap.size,2,none⟩=false:=(hb.frozen (p:=⟨v1.heap.size,2,none⟩) zo).trans fo2
  replace fo3:v3.frozen? ⟨v1.heap.size,3,none⟩=false:=(hb.frozen (p:=⟨v1.heap.size,3,none⟩) zo).trans fo3
  replace fo4:v3.frozen? ⟨v1.heap.size,4,none⟩=false:=(hb.frozen (p:=⟨v1.heap.size,4,none⟩) zo).trans fo4
  replace zo:v1.heap.size < v3.heap.size:=Kbq zo hb.size
  replace HB:=Q00 (HB.out.trans (hb.mono HB.out.size))
  clear hb
  go_wp2
  refine bodyPost_ret (v:=.tuple #[agt (Q1N m now).id (Q1N m now).lim (Q1N m now).dr (.slice p1 (Q1N m now).c.length c1) (.slice p2 (Q1N m now).t.length c2),.int .i64 (((Q2Q m.c now).2:Nat)+((Q2Q m.t now).2:Nat))]) (by simp [results,Try.results19,go_sem,r0,r1,r2,r3,r4]) rfl ⟨_,by rw [HTN.out];rfl, ?_,Q05 HB.out (by omega) _ _ _ _ _⟩
  rw [HTM.out]
  exact (HJ.out.step (Q02 _ (w.heap.size+1) (.int .i64 (Q1N m now).id) (.int .i64 (Q1N m now).lim) (.bool (Q1N m now).dr) (.slice p1 (Q1N m now).c.length c1) (.slice p2 (Q1N m now).t.length c2)) (.inl (by omega))).mono (by omega) (by simp)
 ·go_enter Try.func19,Try.ntmps19
  go_wp2_with fail
  refine (HOK.out).mono ?_
  rintro e v1 ⟨o1,n1,k1,o2,n2,k2,i,l,d,rfl,hv,hb⟩
  clear hv
  replace z0:v1.cell? ⟨w.heap.size,0,none⟩=some (.int .i64 m.id):=(hb.cell (p:=⟨w.heap.size,0,none⟩) zz).trans z0
  replace z1:v1.cell? ⟨w.heap.size,1,none⟩=some (.int .i64 m.lim):=(hb.cell (p:=⟨w.heap.size,1,none⟩) zz).trans z1
  replace z2:v1.cell? ⟨w.heap.size,2,none⟩=some (.bool m.dr):=(hb.cell (p:=⟨w.heap.size,2,none⟩) zz).trans z2
  replace z3:v1.cell? ⟨w.heap.size,3,none⟩=some (.slice oc m.c.length cc):=(hb.cell (p:=⟨w.heap.size,3,none⟩) zz).trans z3
  replace z4:v1.cell? ⟨w.heap.size,4,none⟩=some (.slice ot m.t.length ct):=(hb.cell (p:=⟨w.heap.size,4,none⟩) zz).trans z4
  replace zz:w.heap.size < v1.heap.size:=Kbq zz hb.size
  replace r0:v1.cell? ⟨w.heap.size+1,0,none⟩=some (.int .i64 0):=(hb.cell (p:=⟨w.heap.size+1,0,none⟩) zr).trans r0
  replace r1:v1.cell? ⟨w.heap.size+1,1,none⟩=some (.int .i64 0):=(hb.cell (p:=⟨w.heap.size+1,1,none⟩) zr).trans r1
  replace r2:v1.cell? ⟨w.heap.size+1,2,none⟩=some (.bool false):=(hb.cell (p:=⟨w.heap.size+1,2,none⟩) zr).trans r2
  replace r3:v1.cell? ⟨w.heap.size+1,3,none⟩=some (.slice none 0 0):=(hb.cell (p:=⟨w.heap.size+1,3,none⟩) zr).trans r3
  replace r4:v1.cell? ⟨w.heap.size+1,4,none⟩=some (.slice none 0 0):=(hb.cell (p:=⟨w.heap.size+1,4,none⟩) zr).trans r4
  replace fr0:v1.frozen? ⟨w.heap.size+1,0,none⟩=false:=(hb.frozen (p:=⟨w.heap.size+1,0,none⟩) zr).trans fr0
  replace fr1:v1.frozen? ⟨w.heap.size+1,1,none⟩=false:=(hb.frozen (p:=⟨w.heap.size+1,1,none⟩) zr).trans fr1
  replace fr2:v1.frozen? ⟨w.heap.size+1,2,none⟩=false:=(hb.frozen (p:=⟨w.heap.size+1,2,none⟩) zr).trans fr2
  replace fr3:v1.frozen? ⟨w.heap.size+1,3,none⟩=false:=(hb.frozen (p:=⟨w.heap.size+1,3,none⟩) zr).trans fr3
  replace fr4:v1.frozen? ⟨w.heap.size+1,4,none⟩=false:=(hb.frozen (p:=⟨w.heap.size+1,4,none⟩) zr).trans fr4
  replace zr:w.heap.size+1 < v1.heap.size:=Kbq zr hb.size
  replace HB:=Q00 (HB.out.trans (hb.mono HB.out.size))
  clear hb
  obtain ⟨W2,hW2⟩:∃W,(v1.alloc (.cells #[.slice o1 n1 k1,.slice o2 n2 k2,.int .i64 i,.int .i64 l,.bool d] 68))=W:=⟨_,rfl⟩
  have hb_W2:Below v1.heap.size v1 W2:=by rw [←hW2];exact ((Below.refl _ _).alloc (Kaq _) _)
  replace z0:W2.cell? ⟨w.heap.size,0,none⟩=some (.int .i64 m.id):=(hb_W2.cell (p:=⟨w.heap.size,0,none⟩) zz).trans z0
  replace z1:W2.cell? ⟨w.heap.size,1,none⟩=some (.int .i64 m.lim):=(hb_W2.cell (p:=⟨w.heap.size,1,none⟩) zz).trans z1
  replace z2:W2.cell? ⟨w.heap.size,2,none⟩=some (.bool m.dr):=(hb_W2.cell (p:=⟨w.heap.size,2,none⟩) zz).trans z2
  replace z3:W2.cell? ⟨w.heap.size,3,none⟩=some (.slice oc m.c.length cc):=(hb_W2.cell (p:=⟨w.heap.size,3,none⟩) zz).trans z3
  replace z4:W2.cell? ⟨w.heap.size,4,none⟩=some (.slice ot m.t.length ct):=(hb_W2.cell (p:=⟨w.heap.size,4,none⟩) zz).trans z4
  replace zz:w.heap.size < W2.heap.size:=Kbq zz hb_W2.size
  replace r0:W2.cell? ⟨w.heap.size+1,0,none⟩=some (.int .i64 0):=(hb_W2.cell (p:=⟨w.heap.size+1,0,none⟩) zr).trans r0
  replace r1:W2.cell? ⟨w.heap.size+1,1,none⟩=some (.int .i64 0):=(hb_W2.cell (p:=⟨w.heap.size+1,1,none⟩) zr).trans r1
  replace r2:W2.cell? ⟨w.heap.size+1,2,none⟩=some (.bool false):=(hb_W2.cell (p:=⟨w.heap.size+1,2,none⟩) zr).trans r2
  replace r3:W2.cell? ⟨w.heap.size+1,3,none⟩=some (.slice none 0 0):=(hb_W2.cell (p:=⟨w.heap.size+1,3,none⟩) zr).trans r3
  replace r4:W2.cell? ⟨w.heap.size+1,4,none⟩=some (.slice none 0 0):=(hb_W2.cell (p:=⟨w.heap.size+1,4,none⟩) zr).trans r4
  replace fr0:W2.frozen? ⟨w.heap.size+1,0,none⟩=false:=(hb_W2.frozen (p:=⟨w.heap.size+1,0,none⟩) zr).trans fr0
  replace fr1:W2.frozen? ⟨w.heap.size+1,1,none⟩=false:=(hb_W2.frozen (p:=⟨w.heap.size+1,1,none⟩) zr).trans fr1
  replace fr2:W2.frozen? ⟨w.heap.size+1,2,none⟩=false:=(hb_W2.frozen (p:=⟨w.heap.size+1,2,none⟩) zr).trans fr2
  replace fr3:W2.frozen? ⟨w.heap.size+1,3,none⟩=false:=(hb_W2.frozen (p:=⟨w.heap.size+1,3,none⟩) zr).trans fr3
  replace fr4:W2.frozen? ⟨w.heap.size+1,4,none⟩=false:=(hb_W2.frozen (p:=⟨w.heap.size+1,4,none⟩) zr).trans fr4
  replace zr:w.heap.size+1 < W2.heap.size:=Kbq zr hb_W2.size
  replace HB:=Q00 (HB.out.trans (hb_W2.mono HB.out.size))
  clear hb_W2
  have zo:v1.heap.size < W2.heap.size:=by rw [←hW2];simp
  have o0:W2.cell? ⟨v1.heap.size,0,none⟩=some (.slice o1 n1 k1):=by rw [←hW2];simp [go_sem]
  have o1:W2.cell? ⟨v1.heap.size,1,none⟩=some (.slice o2 n2 k2):=by rw [←hW2];simp [go_sem]
  have o2:W2.cell? ⟨v1.heap.size,2,none⟩=some (.int .i64 i):=by rw [←hW2];simp [go_sem]
  have o3:W2.cell? ⟨v1.heap.size,3,none⟩=some (.int .i64 l):=by rw [←hW2];simp [go_sem]
  have o4:W2.cell? ⟨v1.heap.size,4,none⟩=some (.bool d):=by rw [←hW2];simp [go_sem]
  cases ok <;> cases bl <;> first|(exfalso;simp at hall;done)|skip
  all_goals (
   clear hall HAG
   go_wp2_with (go_at_call 27;refine (hnw _).mono ?_;rintro e w9 ⟨rfl,rfl⟩)
   refine bodyPost_ret (v:=.tuple #[agt 0 0 false (.slice none 0 0) (.slice none 0 0),.int .i64 (-1)]) (by simp [results,Try.results19,go_sem,r0,r1,r2,r3,r4]) rfl ⟨_,by rw [HTN.out];rfl, ?_,Q05 HB.out (by omega) _ _ _ _ _⟩
   rw [HTM.out]
   exact Q3d (by simp;omega))
theorem Q5K {m:List Sl} {now:Int} (h:Q2u m now=none) (j:Nat) (hj:j < m.length):Q5i (at' m j) now=false:=by
 unfold Q2u at h
 have h1:=List.find?_eq_none.1 h j (List.mem_range.2 hj)
 cases hd:Q5i (at' m j) now with
 |false=> rfl
 |true=> exact absurd hd h1
theorem Q8f {n:Nat} {now:Int} {R:List Sl × Nat}:∀(g:Nat) (m:List Sl) (c:Nat),ExpInv n now R g m c→Q08 R.1=true∧cnt R.1+R.2=cnt m+c∧∀s:Sl,s.u=true→(Q7U R.1 s↔(Q7U m s∧now < s.t)):=by
 intro g
 induction g with
 |zero=>
  intro m c h
  cases hd:Q2u m now with
  |none=>
   have hR:=h.done hd
   rw [hR]
   refine ⟨h.ok,rfl,fun s hs=> ⟨fun hh=> ⟨hh, ?_⟩,fun hh=> hh.1⟩⟩
   obtain ⟨j,hj,e⟩:=hh
   have:=Q5K hd j hj
   rw [e] at this
   unfold Q5i at this
   rw [hs] at this
   simp at this
   exact this
  |some i=>
   have:=(h.step hd).1
   omega
 |succ g ih=>
  intro m c h
  cases hd:Q2u m now with
  |none=>
   have hR:=h.done hd
   rw [hR]
   refine ⟨h.ok,rfl,fun s hs=> ⟨fun hh=> ⟨hh, ?_⟩,fun hh=> hh.1⟩⟩
   obtain ⟨j,hj,e⟩:=hh
   have:=Q5K hd j hj
   rw [e] at this
   unfold Q5i at this
   rw [hs] at this
   simp at this
   exact this
  |some i=>
   obtain ⟨_,hin,hu,_,hN⟩:=h.step hd
   obtain ⟨h1,h2,h3⟩:=ih (Q0O m i) (c+1) hN
   have him:=(Q2T hd).1
   have hdue:=(Q2T hd).2
   have hcd:=Q48 h.ok him hu
   refine ⟨h1,by omega,fun s hs=> ?_⟩
   rw [h3 s hs,Q68 h.ok him hs]
   constructor
   ·rintro ⟨⟨j,hj,_,e⟩,ht⟩
    exact ⟨⟨j,hj,e⟩,ht⟩
   ·rintro ⟨⟨j,hj,e⟩,ht⟩
    refine ⟨⟨j,hj,fun hji=> ?_,e⟩,ht⟩
    subst hji
    rw [e] at hdue
    unfold Q5i at hdue
    rw [hs] at hdue
    simp at hdue
    omega
theorem Q59 {m:List Sl} (now:Int) (h:Q08 m=true):Q08 (Q2Q m now).1=true∧cnt (Q2Q m now).1+(Q2Q m now).2=cnt m∧∀s:Sl,s.u=true→(Q7U (Q2Q m now).1 s↔(Q7U m s∧now < s.t)):=by
 have:=Q8f _ _ _ (ExpInv.start (now:=now) h)
 simpa using this
theorem Q4l (l:List Sl):∀k,k≤l.length→Q1C l k=Q2Z k (Q5y l)
 |0,_=> by simp [Q1C,Q2Z]
 |k+1,h=> by
  rw [Q38 (by omega),Q4l l k (by omega)]
  rfl
theorem Q1W {l:List Sl} (h:Q08 l=true):Q0A l=(cnt l:Nat):=by
 unfold Q0A;rw [if_pos h];exact congrArg Nat.cast (Q4l l l.length (Kaq _))
theorem Q8j {m:Am} (x:Int) (h:Q0f m=false):Q3x m x=false:=by simp [Q3x,h]
theorem Q7D {m:Am} {x:Int} (h:Q3x m x=true):Q3m m x={ m with lim:=x }∧Q0f (Q3m m x)=true∧0≤x∧x≤16:=by
 have e:Q3m m x={ m with lim:=x }:=by unfold Q3m;rw [if_pos h]
 simp only [Q3x,Bool.and_eq_true,decide_eq_true_eq] at h
 have hp:=Q0p.1 h.1
 refine ⟨e, ?_,h.2.1,h.2.2⟩
 rw [e]
 exact Q0p.2 ⟨hp.1,hp.2.1,h.2.1,h.2.2,hp.2.2.2.2.1,hp.2.2.2.2.2.1,trivial⟩
theorem Q8e {m:Am} (x:Int) (h:Q0f m=true):Q3x m x=(decide (0≤x) && decide (x≤16)):=by simp [Q3x,h]
theorem Q7c {m:Am} (h:Q0f m=true):Q1R m={ m with dr:=true }:=by unfold Q1R;rw [if_pos h]
theorem Q4M {m:Am} {now:Int} (h:Q0f m=true) (hn:Q3l m now=true):Q0f (Q1E m now)=true∧0≤Q42 m now∧Q42 m now≤1000∧Q0A (Q1E m now).c+Q0A (Q1E m now).t+Q42 m now=Q0A m.c+Q0A m.t∧0≤Q0A (Q1E m now).c∧0≤Q0A (Q1E m now).t∧Q0A m.c≤16∧Q0A m.t≤16∧0≤Q0A m.c∧0≤Q0A m.t:=by
 have hp:=Q0p.1 h
 obtain ⟨hc,ht,lc,lt⟩:=Q2W h
 obtain ⟨ec,nc, -⟩:=Q59 now hc
 obtain ⟨et,nt, -⟩:=Q59 now ht
 have eM:Q1E m now=Q1N m now:=by unfold Q1E;rw [if_pos hn]
 have eN:Q42 m now=((Q2Q m.c now).2:Nat)+((Q2Q m.t now).2:Nat):=by unfold Q42;rw [if_pos hn]
 have c1:(Q1N m now).c=(Q2Q m.c now).1:=rfl
 have c2:(Q1N m now).t=(Q2Q m.t now).1:=rfl
 rw [eM,eN,c1,c2,Q1W ec,Q1W et,Q1W hc,Q1W ht]
 have bc:cnt m.c≤m.c.length:=Q5I _
 have bt:cnt m.t≤m.t.length:=Q5I _
 refine ⟨Q0p.2 ⟨hp.1,hp.2.1,hp.2.2.1,hp.2.2.2.1,ec,et,trivial⟩, ?_, ?_, ?_, ?_, ?_, ?_, ?_, ?_, ?_⟩ <;> omega
theorem bC {C b j:Nat} {w w':World} {u:Value} (h:Below C w w') (hc:w.cell? ⟨b,j,none⟩=some u) (hz:b < C):w'.cell? ⟨b,j,none⟩=some u:=(h.cell (p:=⟨b,j,none⟩) hz).trans hc
theorem bF {C b j:Nat} {w w':World} (h:Below C w w') (hc:w.frozen? ⟨b,j,none⟩=false) (hz:b < C):w'.frozen? ⟨b,j,none⟩=false:=(h.frozen (p:=⟨b,j,none⟩) hz).trans hc
abbrev Row (w:World) (b off:Nat) (l:List Sl):Prop:=∀i,i < l.length→∀j,j < Q0a.k→w.cell? ⟨b,off+i * Q0a.k+j,none⟩=(Q0a.cs (l.getD i Q0a.d))[j]?
theorem Row.kept {C:Nat} {w w':World} {b off:Nat} {l:List Sl} (h:Row w b off l) (hb:Below C w w') (hz:b < C):Row w' b off l:=fun i hi j hj=> (hb.cell (p:=⟨b,off+i * Q0a.k+j,none⟩) hz).trans (h i hi j hj)
theorem Row.step {lo hi:Nat} {w w':World} {b off:Nat} {l:List Sl} (h:Row w b off l) (s:Stp lo hi w w') (hz:b < w.heap.size) (hd:b < lo∨hi≤b):Row w' b off l:=fun i hi j hj=> (s.same hz hd).trans (h i hi j hj)
theorem Q0U (m:Am) (bc fc cc bt ft ct:Nat) (now a p:Int) (w:World) (hn0:0≤now) (hn1:now≤100000) (hfl:Q0b a p=true) (hc0:0 < m.c.length) (hc16:m.c.length≤16) (ht0:0 < m.t.length) (ht16:m.t.length≤16) (zc:bc < w.heap.size) (zt:bt < w.heap.size) (hC:Row w bc fc m.c) (hT:Row w bt ft m.t):
  Calls Try.prog 107 #[agt m.id m.lim m.dr (.slice (some ⟨bc,fc,none⟩) m.c.length cc) (.slice (some ⟨bt,ft,none⟩) m.t.length ct),.int .i64 now,Q3p a p] w fun e w'=> ∃bt' ft' ct',e=.returned (.tuple #[agt m.id m.lim m.dr (.slice (some ⟨bc,fc,none⟩) m.c.length cc) (.slice (some ⟨bt',ft',none⟩) m.t.length ct'),.bool (decide (0≤(Q0m m.t a p).1))])∧bt' < w'.heap.size∧Row w' bt' ft' (Q11 m.t a p 0 (now+20+1))∧Below w.heap.size w w'∧(bt'=bt∨w.heap.size≤bt'):=by
 have HT:=Q00 hT
 clear hC hT
 obtain ⟨W0,hW0⟩:∃W,(((w.alloc (.cells #[.int .i64 m.id,.int .i64 m.lim,.bool m.dr,.slice (some ⟨bc,fc,none⟩) m.c.length cc,.slice (some ⟨bt,ft,none⟩) m.t.length ct] 27)).alloc (.cells #[.int .i64 a,.int .i64 p] 29)).alloc (.cells #[.int .i64 0,.int .i64 0,.bool false,.slice none 0 0,.slice none 0 0] 27))=W:=⟨_,rfl⟩
 have hb_W0:Below w.heap.size w W0:=by rw [←hW0];exact ((((Below.refl _ _).alloc (Kaq _) _).alloc (by simp <;> omega) _).alloc (by simp <;> omega) _)
 have HB:=Q00 hb_W0
 clear hb_W0
 have zz:w.heap.size < W0.heap.size:=by rw [←hW0];simp <;> omega
 have z0:W0.cell? ⟨w.heap.size,0,none⟩=some (.int .i64 m.id):=by rw [←hW0];simp [go_sem]
 have z1:W0.cell? ⟨w.heap.size,1,none⟩=some (.int .i64 m.lim):=by rw [←hW0];simp [go_sem]
 have z2:W0.cell? ⟨w.heap.size,2,none⟩=some (.bool m.dr):=by rw [←hW0];simp [go_sem]
 have z3:W0.cell? ⟨w.heap.size,3,none⟩=some (.slice (some ⟨bc,fc,none⟩) m.c.length cc):=by rw [←hW0];simp [go_sem]
 have z4:W0.cell? ⟨w.heap.size,4,none⟩=some (.slice (some ⟨bt,ft,none⟩) m.t.length ct):=by rw [←hW0];simp [go_sem]
 have fz0:W0.frozen? ⟨w.heap.size,0,none⟩=false:=by rw [←hW0];simp [go_sem]
 have fz1:W0.frozen? ⟨w.heap.size,1,none⟩=false:=by rw [←hW0];simp [go_sem]
 have fz2:W0.frozen? ⟨w.heap.size,2,none⟩=false:=by rw [←hW0];simp [go_sem]
 have fz3:W0.frozen? ⟨w.heap.size,3,none⟩=false:=by rw [←hW0];simp [go_sem]
 have fz4:W0.frozen? ⟨w.heap.size,4,none⟩=false:=by rw [←hW0];simp [go_sem]
 have zf:w.heap.size+1 < W0.heap.size:=by rw [←hW0];simp <;> omega
 have f0:W0.cell? ⟨w.heap.size+1,0,none⟩=some (.int .i64 a):=by rw [←hW0];simp [go_sem]
 have f1:W0.cell? ⟨w.heap.size+1,1,none⟩=some (.int .i64 p):=by rw [←hW0];simp [go_sem]
 have zr:w.heap.size+1+1 < W0.heap.size:=by rw [←hW0];simp
 have r0:W0.cell? ⟨w.heap.size+1+1,0,none⟩=some (.int .i64 0):=by rw [←hW0];simp [go_sem]
 have r1:W0.cell? ⟨w.heap.size+1+1,1,none⟩=some (.int .i64 0):=by rw [←hW0];simp [go_sem]
 have r2:W0.cell? ⟨w.heap.size+1+1,2,none⟩=some (.bool false):=by rw [←hW0];simp [go_sem]
 have r3:W0.cell? ⟨w.heap.size+1+1,3,none⟩=some (.slice none 0 0):=by rw [←hW0];simp [go_sem]
 have r4:W0.cell? ⟨w.heap.size+1+1,4,none⟩=some (.slice none 0 0):=by rw [←hW0];simp [go_sem]
 have fr0:W0.frozen? ⟨w.heap.size+1+1,0,none⟩=false:=by rw [←hW0];simp [go_sem]
 have fr1:W0.frozen? ⟨w.heap.size+1+1,1,none⟩=false:=by rw [←hW0];simp [go_sem]
 have fr2:W0.frozen? ⟨w.heap.size+1+1,2,none⟩=false:=by rw [←hW0];simp [go_sem]
 have fr3:W0.frozen? ⟨w.heap.size+1+1,3,none⟩=false:=by rw [←hW0];simp [go_sem]
 have fr4:W0.frozen? ⟨w.heap.size+1+1,4,none⟩=false:=by rw [←hW0];simp [go_sem]
 have hz0:=zr
 have H1:=Q00 (Q1P bt ft ct m.t a p 0 (now+20+1) W0 ht0 (by omega) hfl (Kbq zt HB.out.size) (HT.out.kept HB.out zt))
 have hpl:=Q0n m.t a p 0 (now+20+1)
 generalize Q11 m.t a p 0 (now+20+1)=tl at *
 generalize decide (0≤(Q0m m.t a p).1)=tb at *
 have hw1:IntKind.i64.wrap (now+20)=now+20:=by rw [IntKind.wrap_i64];omega
 have hw2:IntKind.i64.wrap (now+20+1)=now+20+1:=by rw [IntKind.wrap_i64];omega
 go_enter Try.func107,Try.ntmps107
 go_wp2_with fail
 refine (H1.out).mono ?_
 rintro e v1 ⟨b2,f2,c2,rfl,hz2,hrd,hb,hq⟩
 have HR:=Q00 hrd
 have hs1:=hb.size
 clear hrd
 replace z0:=bC hb z0 zz
 replace z1:=bC hb z1 zz
 replace z2:=bC hb z2 zz
 replace z3:=bC hb z3 zz
 replace z4:=bC hb z4 zz
 replace fz0:=bF hb fz0 zz
 replace fz1:=bF hb fz1 zz
 replace fz2:=bF hb fz2 zz
 replace fz3:=bF hb fz3 zz
 replace fz4:=bF hb fz4 zz
 replace zz:=Kbq zz hb.size
 replace f0:=bC hb f0 zf
 replace f1:=bC hb f1 zf
 replace zf:=Kbq zf hb.size
 replace r0:=bC hb r0 zr
 replace r1:=bC hb r1 zr
 replace r2:=bC hb r2 zr
 replace r3:=bC hb r3 zr
 replace r4:=bC hb r4 zr
 replace fr0:=bF hb fr0 zr
 replace fr1:=bF hb fr1 zr
 replace fr2:=bF hb fr2 zr
 replace fr3:=bF hb fr3 zr
 replace fr4:=bF hb fr4 zr
 replace zr:=Kbq zr hb.size
 replace HB:=Q00 (HB.out.trans (hb.mono HB.out.size))
 clear hb
 obtain ⟨W2,hW2⟩:∃W,(v1.alloc (.cells #[.slice (some ⟨b2,f2,none⟩) m.t.length c2] 25))=W:=⟨_,rfl⟩
 have hb_W2:Below v1.heap.size v1 W2:=by rw [←hW2];exact ((Below.refl _ _).alloc (Kaq _) _)
 replace z0:=bC hb_W2 z0 zz
 replace z1:=bC hb_W2 z1 zz
 replace z2:=bC hb_W2 z2 zz
 replace z3:=bC hb_W2 z3 zz
 replace z4:=bC hb_W2 z4 zz
 replace fz0:=bF hb_W2 fz0 zz
 replace fz1:=bF hb_W2 fz1 zz
 replace fz2:=bF hb_W2 fz2 zz
 replace fz3:=bF hb_W2 fz3 zz
 replace fz4:=bF hb_W2 fz4 zz
 replace zz:=Kbq zz hb_W2.size
 replace f0:=bC hb_W2 f0 zf
 replace f1:=bC hb_W2 f1 zf
 replace zf:=Kbq zf hb_W2.size
 replace r0:=bC hb_W2 r0 zr
 replace r1:=bC hb_W2 r1 zr
 replace r2:=bC hb_W2 r2 zr
 replace r3:=bC hb_W2 r3 zr
 replace r4:=bC hb_W2 r4 zr
 replace fr0:=bF hb_W2 fr0 zr
 replace fr1:=bF hb_W2 fr1 zr
 replace fr2:=bF hb_W2 fr2 zr
 replace fr3:=bF hb_W2 fr3 zr
 replace fr4:=bF hb_W2 fr4 zr
 replace zr:=Kbq zr hb_W2.size
 replace HB:=Q00 (HB.out.trans (hb_W2.mono HB.out.size))
 clear hb_W2
 have zx:v1.heap.size < W2.heap.size:=by rw [←hW2];simp
 have x0:W2.cell? ⟨v1.heap.size,0,none⟩=some (.slice (some ⟨b2,f2,none⟩) m.t.length c2):=by rw [←hW2];simp [go_sem]
 have hb2:=(show Below v1.heap.size v1 W2 by rw [←hW2];exact (Below.refl _ _).alloc (Kaq _) _)
 have HR2:=Q00 (Row.kept HR.out hb2 hz2)
 have hs2:=hb2.size
 clear HR hb2 H1
 have hne1:v1.heap.size≠w.heap.size:=by omega
 have hne2:w.heap.size≠v1.heap.size:=by omega
 have hqa:b2 < w.heap.size∨w.heap.size+1+1+1≤b2:=by omega
 go_wp2
 refine bodyPost_ret (v:=.tuple #[agt m.id m.lim m.dr (.slice (some ⟨bc,fc,none⟩) m.c.length cc) (.slice (some ⟨b2,f2,none⟩) m.t.length c2),.bool tb]) (by simp [results,Try.results107,go_sem,r0,r1,r2,r3,r4]) rfl ⟨b2,f2,c2,rfl,by simp;omega, ?_, ?_,by omega⟩
 ·have hst:Stp w.heap.size (w.heap.size+1+1+1) W2 _:=((Q0u W2 w.heap.size 4 (.slice (some ⟨b2,f2,none⟩) m.t.length c2)).wide' (Kaq _) (by omega)).trans ((Q02 _ (w.heap.size+1+1) (.int .i64 m.id) (.int .i64 m.lim) (.bool m.dr) (.slice (some ⟨bc,fc,none⟩) m.c.length cc) (.slice (some ⟨b2,f2,none⟩) m.t.length c2)).wide' (by omega) (Kaq _))
  exact Row.step HR2.out hst (by omega) hqa
 ·exact Q05 (HB.out.setCell (p:=⟨w.heap.size,4,none⟩) (Kaq _) _) (by omega) _ _ _ _ _
def Q3f (c:List Sl) (now a p f s:Int):List Sl:=if bits .and .i64 f 12=0 then Q11 c a p s (now+50) else Q1V c a p
def Q3i (t:List Sl) (now a p f:Int):List Sl:=if bits .and .i64 f 12=0 then t else Q11 t a p 0 (now+20+1)
theorem Q74 (c:List Sl) (now a p f s:Int):(Q3f c now a p f s).length=c.length:=by
 unfold Q3f
 split
 ·exact Q0n _ _ _ _ _
 ·exact Q23 _ _ _
theorem Q6E (t:List Sl) (now a p f:Int):(Q3i t now a p f).length=t.length:=by
 unfold Q3i
 split
 ·rfl
 ·exact Q0n _ _ _ _ _
theorem Q4n (m:Am) (bc fc cc bt ft ct:Nat) (now a p f s:Int) (o:Option Addr) (n cp:Nat) (w:World) (hn0:0≤now) (hn1:now≤100000) (hfl:Q0b a p=true) (hc0:0 < m.c.length) (hc16:m.c.length≤16) (ht0:0 < m.t.length) (ht16:m.t.length≤16) (zc:bc < w.heap.size) (zt:bt < w.heap.size) (hC:Row w bc fc m.c) (hT:Row w bt ft m.t) (hok:Q0C m.c):
  Calls Try.prog 92 #[agt m.id m.lim m.dr (.slice (some ⟨bc,fc,none⟩) m.c.length cc) (.slice (some ⟨bt,ft,none⟩) m.t.length ct),.int .i64 now,.agg #[.int .i64 a,.int .i64 p,.int .i64 f,.int .i64 s,.slice o n cp]] w fun e w'=> ∃bc' fc' cc' bt' ft' ct',e=.returned (agt m.id m.lim m.dr (.slice (some ⟨bc',fc',none⟩) m.c.length cc') (.slice (some ⟨bt',ft',none⟩) m.t.length ct'))∧bc' < w'.heap.size∧bt' < w'.heap.size∧Row w' bc' fc' (Q3f m.c now a p f s)∧Row w' bt' ft' (Q3i m.t now a p f)∧Below w.heap.size w w'∧(bc'=bc∨w.heap.size≤bc')∧(bt'=bt∨w.heap.size≤bt'):=by
 have HC:=Q00 hC
 have HT:=Q00 hT
 clear hC hT
 have hw1:IntKind.i64.wrap (now+50)=now+50:=by rw [IntKind.wrap_i64];omega
 obtain ⟨W0,hW0⟩:∃W,(((w.alloc (.cells #[.int .i64 m.id,.int .i64 m.lim,.bool m.dr,.slice (some ⟨bc,fc,none⟩) m.c.length cc,.slice (some ⟨bt,ft,none⟩) m.t.length ct] 27)).alloc (.cells #[.int .i64 a,.int .i64 p,.int .i64 f,.int .i64 s,.slice o n cp] 31)).alloc (.cells #[.int .i64 0,.int .i64 0,.bool false,.slice none 0 0,.slice none 0 0] 27))=W:=⟨_,rfl⟩
 have hb_W0:Below w.heap.size w W0:=by rw [←hW0];exact ((((Below.refl _ _).alloc (Kaq _) _).alloc (by simp <;> omega) _).alloc (by simp <;> omega) _)
 have HB:=Q00 hb_W0
 clear hb_W0
 have zz:w.heap.size < W0.heap.size:=by rw [←hW0];simp <;> omega
 have z0:W0.cell? ⟨w.heap.size,0,none⟩=some (.int .i64 m.id):=by rw [←hW0];simp [go_sem]
 have z1:W0.cell? ⟨w.heap.size,1,none⟩=some (.int .i64 m.lim):=by rw [←hW0];simp [go_sem]
 have z2:W0.cell? ⟨w.heap.size,2,none⟩=some (.bool m.dr):=by rw [←hW0];simp [go_sem]
 have z3:W0.cell? ⟨w.heap.size,3,none⟩=some (.slice (some ⟨bc,fc,none⟩) m.c.length cc):=by rw [←hW0];simp [go_sem]
 have z4:W0.cell? ⟨w.heap.size,4,none⟩=some (.slice (some ⟨bt,ft,none⟩) m.t.length ct):=by rw [←hW0];simp [go_sem]
 have fz0:W0.frozen? ⟨w.heap.size,0,none⟩=false:=by rw [←hW0];simp [go_sem]
 have fz1:W0.frozen? ⟨w.heap.size,1,none⟩=false:=by rw [←hW0];simp [go_sem]
 have fz2:W0.frozen? ⟨w.heap.size,2,none⟩=false:=by rw [←hW0];simp [go_sem]
 have fz3:W0.frozen? ⟨w.heap.size,3,none⟩=false:=by rw [←hW0];simp [go_sem]
 have fz4:W0.frozen? ⟨w.heap.size,4,none⟩=false:=by rw [←hW0];simp [go_sem]
 have zk:w.heap.size+1 < W0.heap.size:=by rw [←hW0];simp <;> omega
 have k0:W0.cell? ⟨w.heap.size+1,0,none⟩=some (.int .i64 a):=by rw [←hW0];simp [go_sem]
 have k1:W0.cell? ⟨w.heap.size+1,1,none⟩=some (.int .i64 p):=by rw [←hW0];simp [go_sem]
 have k2:W0.cell? ⟨w.heap.size+1,2,none⟩=some (.int .i64 f):=by rw [←hW0];simp [go_sem]
 have k3:W0.cell? ⟨w.heap.size+1,3,none⟩=some (.int .i64 s):=by rw [←hW0];simp [go_sem]
 have k4:W0.cell? ⟨w.heap.size+1,4,none⟩=some (.slice o n cp):=by rw [←hW0];simp [go_sem]
 have zr:w.heap.size+1+1 < W0.heap.size:=by rw [←hW0];simp
 have r0:W0.cell? ⟨w.heap.size+1+1,0,none⟩=some (.int .i64 0):=by rw [←hW0];simp [go_sem]
 have r1:W0.cell? ⟨w.heap.size+1+1,1,none⟩=some (.int .i64 0):=by rw [←hW0];simp [go_sem]
 have r2:W0.cell? ⟨w.heap.size+1+1,2,none⟩=some (.bool false):=by rw [←hW0];simp [go_sem]
 have r3:W0.cell? ⟨w.heap.size+1+1,3,none⟩=some (.slice none 0 0):=by rw [←hW0];simp [go_sem]
 have r4:W0.cell? ⟨w.heap.size+1+1,4,none⟩=some (.slice none 0 0):=by rw [←hW0];simp [go_sem]
 have fr0:W0.frozen? ⟨w.heap.size+1+1,0,none⟩=false:=by rw [←hW0];simp [go_sem]
 have fr1:W0.frozen? ⟨w.heap.size+1+1,1,none⟩=false:=by rw [←hW0];simp [go_sem]
 have fr2:W0.frozen? ⟨w.heap.size+1+1,2,none⟩=false:=by rw [←hW0];simp [go_sem]
 have fr3:W0.frozen? ⟨w.heap.size+1+1,3,none⟩=false:=by rw [←hW0];simp [go_sem]
 have fr4:W0.frozen? ⟨w.heap.size+1+1,4,none⟩=false:=by rw [←hW0];simp [go_sem]
 have hz0:=zr
 by_cases hb12:bits .and .i64 f 12=0
 ·have HTC:=Q00 (show Q3f m.c now a p f s=Q11 m.c a p s (now+50) by unfold Q3f;rw [if_pos hb12])
  have HTT:=Q00 (show Q3i m.t now a p f=m.t by unfold Q3i;rw [if_pos hb12])
  have H1:=Q00 (Q1P bc fc cc m.c a p s (now+50) W0 hc0 (by omega) hfl (Kbq zc HB.out.size) (HC.out.kept HB.out zc))
  have hpl:=Q0n m.c a p s (now+50)
  generalize Q11 m.c a p s (now+50)=tl at *
  generalize decide (0≤(Q0m m.c a p).1)=tb at *
  go_enter Try.func92,Try.ntmps92
  go_wp2_with fail
  refine (H1.out).mono ?_
  rintro e v1 ⟨b2,f2,c2,rfl,hz2,hrd,hb,hq⟩
  have HR:=Q00 hrd
  have hs1:=hb.size
  clear hrd
  replace z0:=bC hb z0 zz
  replace z1:=bC hb z1 zz
  replace z2:=bC hb z2 zz
  replace z3:=bC hb z3 zz
  replace z4:=bC hb z4 zz
  replace fz0:=bF hb fz0 zz
  replace fz1:=bF hb fz1 zz
  replace fz2:=bF hb fz2 zz
  replace fz3:=bF hb fz3 zz
  replace fz4:=bF hb fz4 zz
  replace zz:=Kbq zz hb.size
  replace k0:=bC hb k0 zk
  replace k1:=bC hb k1 zk
  replace k2:=bC hb k2 zk
  replace k3:=bC hb k3 zk
  replace k4:=bC hb k4 zk
  replace zk:=Kbq zk hb.size
  replace r0:=bC hb r0 zr
  replace r1:=bC hb r1 zr
  replace r2:=bC hb r2 zr
  replace r3:=bC hb r3 zr
  replace r4:=bC hb r4 zr
  replace fr0:=bF hb fr0 zr
  replace fr1:=bF hb fr1 zr
  replace fr2:=bF hb fr2 zr
  replace fr3:=bF hb fr3 zr
  replace fr4:=bF hb fr4 zr
  replace zr:=Kbq zr hb.size
  replace HB:=Q00 (HB.out.trans (hb.mono HB.out.size))
  clear hb
  have hqa:b2 < w.heap.size∨w.heap.size+1+1+1≤b2:=by omega
  clear H1 hW0
  have HT1:=Q00 (HT.out.kept HB.out zt)
  go_wp2
  refine bodyPost_ret (v:=agt m.id m.lim m.dr (.slice (some ⟨b2,f2,none⟩) m.c.length c2) (.slice (some ⟨bt,ft,none⟩) m.t.length ct)) (by simp [results,Try.results92,go_sem,r0,r1,r2,r3,r4]) rfl ⟨b2,f2,c2,bt,ft,ct,rfl,by simp;omega,by simp;omega, ?_, ?_, ?_,by omega,.inl rfl⟩
  ·rw [HTC.out]
   have hst:Stp w.heap.size (w.heap.size+1+1+1) v1 _:=((Q0u v1 w.heap.size 3 (.slice (some ⟨b2,f2,none⟩) m.c.length c2)).wide' (Kaq _) (by omega)).trans ((Q02 _ (w.heap.size+1+1) (.int .i64 m.id) (.int .i64 m.lim) (.bool m.dr) (.slice (some ⟨b2,f2,none⟩) m.c.length c2) (.slice (some ⟨bt,ft,none⟩) m.t.length ct)).wide' (by omega) (Kaq _))
   exact Row.step HR.out hst hz2 hqa
  ·rw [HTT.out]
   have hst:Stp w.heap.size (w.heap.size+1+1+1) v1 _:=((Q0u v1 w.heap.size 3 (.slice (some ⟨b2,f2,none⟩) m.c.length c2)).wide' (Kaq _) (by omega)).trans ((Q02 _ (w.heap.size+1+1) (.int .i64 m.id) (.int .i64 m.lim) (.bool m.dr) (.slice (some ⟨b2,f2,none⟩) m.c.length c2) (.slice (some ⟨bt,ft,none⟩) m.t.length ct)).wide' (by omega) (Kaq _))
   exact Row.step HT1.out hst (by omega) (.inl zt)
  ·exact Q05 (HB.out.setCell (p:=⟨w.heap.size,3,none⟩) (Kaq _) _) (by omega) _ _ _ _ _
 ·have HTC:=Q00 (show Q3f m.c now a p f s=Q1V m.c a p by unfold Q3f;rw [if_neg hb12])
  have HTT:=Q00 (show Q3i m.t now a p f=Q11 m.t a p 0 (now+20+1) by unfold Q3i;rw [if_neg hb12])
  have H1:=Q00 (Q3A bc fc cc m.c a p W0 hc0 hc16 hfl hok (Kbq zc HB.out.size) (HC.out.kept HB.out zc))
  have hpl:=Q23 m.c a p
  obtain ⟨mc,hmc⟩:∃q,Q1V m.c a p=q:=⟨_,rfl⟩
  rw [hmc] at H1 hpl HTC
  generalize (Q0m m.c a p).2=tb at *
  clear hmc
  go_enter Try.func92,Try.ntmps92
  go_wp2_with fail
  refine (H1.out).mono ?_
  rintro e v1 ⟨b2,f2,c2,rfl,hz2,hrd,hb,hq⟩
  have HR:=Q00 hrd
  have hs1:=hb.size
  clear hrd
  replace z0:=bC hb z0 zz
  replace z1:=bC hb z1 zz
  replace z2:=bC hb z2 zz
  replace z3:=bC hb z3 zz
  replace z4:=bC hb z4 zz
  replace fz0:=bF hb fz0 zz
  replace fz1:=bF hb fz1 zz
  replace fz2:=bF hb fz2 zz
  replace fz3:=bF hb fz3 zz
  replace fz4:=bF hb fz4 zz
  replace zz:=Kbq zz hb.size
  replace k0:=bC hb k0 zk
  replace k1:=bC hb k1 zk
  replace k2:=bC hb k2 zk
  replace k3:=bC hb k3 zk
  replace k4:=bC hb k4 zk
  replace zk:=Kbq zk hb.size
  replace r0:=bC hb r0 zr
  replace r1:=bC hb r1 zr
  replace r2:=bC hb r2 zr
  replace r3:=bC hb r3 zr
  replace r4:=bC hb r4 zr
  replace fr0:=bF hb fr0 zr
  replace fr1:=bF hb fr1 zr
  replace fr2:=bF hb fr2 zr
  replace fr3:=bF hb fr3 zr
  replace fr4:=bF hb fr4 zr
  replace zr:=Kbq zr hb.size
  replace HB:=Q00 (HB.out.trans (hb.mono HB.out.size))
  clear hb
  have hqa:b2 < w.heap.size∨w.heap.size+1+1+1≤b2:=by omega
  clear H1 hW0
  have HT1:=Q00 (HT.out.kept HB.out zt)
  go_wp2_with fail
  obtain ⟨W2,hW2⟩:∃W,(v1.setCell ⟨w.heap.size,3,none⟩ (.slice (some ⟨b2,f2,none⟩) m.c.length c2))=W:=⟨_,rfl⟩
  have hst:Stp (w.heap.size) (w.heap.size+1) v1 W2:=by rw [←hW2];exact Q0u v1 (w.heap.size) 3 _
  rw [hW2]
  have z0':W2.cell? ⟨w.heap.size,0,none⟩=some (.int .i64 m.id):=by rw [←hW2];simp [go_sem,z0,z1,z2,z3,z4]
  have fz0':W2.frozen? ⟨w.heap.size,0,none⟩=false:=by rw [←hW2];simp [go_sem,fz0,fz1,fz2,fz3,fz4]
  have z1':W2.cell? ⟨w.heap.size,1,none⟩=some (.int .i64 m.lim):=by rw [←hW2];simp [go_sem,z0,z1,z2,z3,z4]
  have fz1':W2.frozen? ⟨w.heap.size,1,none⟩=false:=by rw [←hW2];simp [go_sem,fz0,fz1,fz2,fz3,fz4]
  have z2':W2.cell? ⟨w.heap.size,2,none⟩=some (.bool m.dr):=by rw [←hW2];simp [go_sem,z0,z1,z2,z3,z4]
  have fz2':W2.frozen? ⟨w.heap.size,2,none⟩=false:=by rw [←hW2];simp [go_sem,fz0,fz1,fz2,fz3,fz4]
  have z3':W2.cell? ⟨w.heap.size,3,none⟩=some (.slice (some ⟨b2,f2,none⟩) m.c.length c2):=by rw [←hW2];simp [go_sem,z0,z1,z2,z3,z4]
  have fz3':W2.frozen? ⟨w.heap.size,3,none⟩=false:=by rw [←hW2];simp [go_sem,fz0,fz1,fz2,fz3,fz4]
  have z4':W2.cell? ⟨w.heap.size,4,none⟩=some (.slice (some ⟨bt,ft,none⟩) m.t.length ct):=by rw [←hW2];simp [go_sem,z0,z1,z2,z3,z4]
  have fz4':W2.frozen? ⟨w.heap.size,4,none⟩=false:=by rw [←hW2];simp [go_sem,fz0,fz1,fz2,fz3,fz4]
  replace z0:=z0'
  replace fz0:=fz0'
  replace z1:=z1'
  replace fz1:=fz1'
  replace z2:=z2'
  replace fz2:=fz2'
  replace z3:=z3'
  replace fz3:=fz3'
  replace z4:=z4'
  replace fz4:=fz4'
  replace zz:w.heap.size < W2.heap.size:=Kbq zz hst.size
  replace k0:W2.cell? ⟨w.heap.size+1,0,none⟩=some (.int .i64 a):=hst.cell k0 zk (by omega)
  replace k1:W2.cell? ⟨w.heap.size+1,1,none⟩=some (.int .i64 p):=hst.cell k1 zk (by omega)
  replace k2:W2.cell? ⟨w.heap.size+1,2,none⟩=some (.int .i64 f):=hst.cell k2 zk (by omega)
  replace k3:W2.cell? ⟨w.heap.size+1,3,none⟩=some (.int .i64 s):=hst.cell k3 zk (by omega)
  replace k4:W2.cell? ⟨w.heap.size+1,4,none⟩=some (.slice o n cp):=hst.cell k4 zk (by omega)
  replace zk:w.heap.size+1 < W2.heap.size:=Kbq zk hst.size
  replace r0:W2.cell? ⟨w.heap.size+1+1,0,none⟩=some (.int .i64 0):=hst.cell r0 zr (by omega)
  replace r1:W2.cell? ⟨w.heap.size+1+1,1,none⟩=some (.int .i64 0):=hst.cell r1 zr (by omega)
  replace r2:W2.cell? ⟨w.heap.size+1+1,2,none⟩=some (.bool false):=hst.cell r2 zr (by omega)
  replace r3:W2.cell? ⟨w.heap.size+1+1,3,none⟩=some (.slice none 0 0):=hst.cell r3 zr (by omega)
  replace r4:W2.cell? ⟨w.heap.size+1+1,4,none⟩=some (.slice none 0 0):=hst.cell r4 zr (by omega)
  replace fr0:W2.frozen? ⟨w.heap.size+1+1,0,none⟩=false:=hst.frozen fr0 zr (by omega)
  replace fr1:W2.frozen? ⟨w.heap.size+1+1,1,none⟩=false:=hst.frozen fr1 zr (by omega)
  replace fr2:W2.frozen? ⟨w.heap.size+1+1,2,none⟩=false:=hst.frozen fr2 zr (by omega)
  replace fr3:W2.frozen? ⟨w.heap.size+1+1,3,none⟩=false:=hst.frozen fr3 zr (by omega)
  replace fr4:W2.frozen? ⟨w.heap.size+1+1,4,none⟩=false:=hst.frozen fr4 zr (by omega)
  replace zr:w.heap.size+1+1 < W2.heap.size:=Kbq zr hst.size
  have HR2:=Q00 (Row.step HR.out hst hz2 (by omega))
  have HT2:=Q00 (Row.step HT1.out hst (by omega) (by omega))
  have hs2:=hst.size
  replace HB:=Q00 (HB.out.trans (hst.below (by omega) HB.out.size))
  clear hst
  have H3:=Q00 (Q0U ⟨m.id,m.lim,m.dr,mc,m.t⟩ b2 f2 c2 bt ft ct now a p W2 hn0 hn1 hfl (by simp only;omega) (by simp only;omega) ht0 ht16 (by omega) (by omega) HR2.out HT2.out)
  simp only [hpl] at H3
  generalize decide (0≤(Q0m m.t a p).1)=tb2 at *
  have hpl2:=Q0n m.t a p 0 (now+20+1)
  generalize Q11 m.t a p 0 (now+20+1)=tl at *
  refine (H3.out).mono ?_
  rintro e v2 ⟨b3,f3,c3,rfl,hz3,hrd,hb,hq3⟩
  have HR3:=Q00 (Row.kept HR2.out hb (by omega))
  have HS3:=Q00 hrd
  have hs3:=hb.size
  clear hrd
  replace z0:=bC hb z0 zz
  replace z1:=bC hb z1 zz
  replace z2:=bC hb z2 zz
  replace z3:=bC hb z3 zz
  replace z4:=bC hb z4 zz
  replace fz0:=bF hb fz0 zz
  replace fz1:=bF hb fz1 zz
  replace fz2:=bF hb fz2 zz
  replace fz3:=bF hb fz3 zz
  replace fz4:=bF hb fz4 zz
  replace zz:=Kbq zz hb.size
  replace k0:=bC hb k0 zk
  replace k1:=bC hb k1 zk
  replace k2:=bC hb k2 zk
  replace k3:=bC hb k3 zk
  replace k4:=bC hb k4 zk
  replace zk:=Kbq zk hb.size
  replace r0:=bC hb r0 zr
  replace r1:=bC hb r1 zr
  replace r2:=bC hb r2 zr
  replace r3:=bC hb r3 zr
  replace r4:=bC hb r4 zr
  replace fr0:=bF hb fr0 zr
  replace fr1:=bF hb fr1 zr
  replace fr2:=bF hb fr2 zr
  replace fr3:=bF hb fr3 zr
  replace fr4:=bF hb fr4 zr
  replace zr:=Kbq zr hb.size
  replace HB:=Q00 (HB.out.trans (hb.mono HB.out.size))
  clear hb
  have hqb:b3 < w.heap.size∨w.heap.size+1+1+1≤b3:=by omega
  clear H3 hW2
  go_wp2
  refine bodyPost_ret (v:=agt m.id m.lim m.dr (.slice (some ⟨b2,f2,none⟩) m.c.length c2) (.slice (some ⟨b3,f3,none⟩) m.t.length c3)) (by simp [results,Try.results92,go_sem,r0,r1,r2,r3,r4]) rfl ⟨b2,f2,c2,b3,f3,c3,rfl,by simp;omega,by simp;omega, ?_, ?_, ?_,by omega,by omega⟩
  ·rw [HTC.out]
   have hst:Stp w.heap.size (w.heap.size+1+1+1) v2 _:=((Q02 v2 w.heap.size (.int .i64 m.id) (.int .i64 m.lim) (.bool m.dr) (.slice (some ⟨b2,f2,none⟩) m.c.length c2) (.slice (some ⟨b3,f3,none⟩) m.t.length c3)).wide' (Kaq _) (by omega)).trans ((Q02 _ (w.heap.size+1+1) (.int .i64 m.id) (.int .i64 m.lim) (.bool m.dr) (.slice (some ⟨b2,f2,none⟩) m.c.length c2) (.slice (some ⟨b3,f3,none⟩) m.t.length c3)).wide' (by omega) (Kaq _))
   exact Row.step HR3.out hst (by omega) hqa
  ·rw [HTT.out]
   have hst:Stp w.heap.size (w.heap.size+1+1+1) v2 _:=((Q02 v2 w.heap.size (.int .i64 m.id) (.int .i64 m.lim) (.bool m.dr) (.slice (some ⟨b2,f2,none⟩) m.c.length c2) (.slice (some ⟨b3,f3,none⟩) m.t.length c3)).wide' (Kaq _) (by omega)).trans ((Q02 _ (w.heap.size+1+1) (.int .i64 m.id) (.int .i64 m.lim) (.bool m.dr) (.slice (some ⟨b2,f2,none⟩) m.c.length c2) (.slice (some ⟨b3,f3,none⟩) m.t.length c3)).wide' (by omega) (Kaq _))
   exact Row.step HS3.out hst hz3 hqb
  ·exact Q05 (Q05 HB.out (Kaq _) _ _ _ _ _) (by omega) _ _ _ _ _
end Go.Proofs.Ytljogkoaaidlcaa
