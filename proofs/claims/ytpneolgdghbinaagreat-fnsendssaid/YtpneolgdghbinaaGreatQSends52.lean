/- The laws' balancers(): what opens is hunted. -/
import Derived.Deep.DeepCutAuto
import Derived.Test.YtpneolgdghbinaaGreatQSends49
import Derived.Test.YtpneolgdghbinaaGreatQSends35
namespace Go.Proofs.YtpneolgdghbinaaGreat
open Go.ChangeShapes Go.WideShapes Go.ChangeAt Go.RowKit Go.Joins
set_option linter.unusedVariables false
set_option linter.unusedSimpArgs false
set_option maxRecDepth 100000
set_option maxHeartbeats 40000000
theorem Q9m (a p:Int) (w:World):Calls Tryz.prog 46 #[Q9T a p] w fun e w'=> e=.returned (pkt a p 1 0 (.slice none 0 0))∧Below w.heap.size w w':=by
 obtain ⟨W0,hW0⟩:∃W,((w.alloc (.cells #[.int .i64 a,.int .i64 p] 36)).alloc (.cells #[.int .i64 0,.int .i64 0,.int .i64 0,.int .i64 0,.slice none 0 0] 38))=W:=⟨_,rfl⟩
 have hb0:Below w.heap.size w W0:=by rw [←hW0];exact ((Below.refl _ _).alloc (Kaq _) _).alloc (by simp) _
 obtain ⟨f0,f1⟩:=alc2v0v2 hW0
 have hp:W0.heap[w.heap.size+1]? =some (.cells #[.int .i64 0,.int .i64 0,.int .i64 0,.int .i64 0,.slice none 0 0] 38 (0,0)):=by
  have h:=World.alloc_heap_new (w.alloc (.cells #[.int .i64 a,.int .i64 p] 36)) (.cells #[.int .i64 0,.int .i64 0,.int .i64 0,.int .i64 0,.slice none 0 0] 38)
  rw [World.size_alloc] at h
  rw [←hW0];exact h
 have p0:=Q00 hp 0 _ rfl;have p1:=Q00 hp 1 _ rfl;have p2:=Q00 hp 2 _ rfl;have p3:=Q00 hp 3 _ rfl;have p4:=Q00 hp 4 _ rfl;have q0:=Q01 hp 0;have q1:=Q01 hp 1;have q2:=Q01 hp 2;have q3:=Q01 hp 3;have q4:=Q01 hp 4;have HB:=Q02 (((((hb0.setCell (p:=⟨w.heap.size+1,0,none⟩) (Nat.le_succ _) (.int .i64 a)).setCell (p:=⟨w.heap.size+1,1,none⟩) (Nat.le_succ _) (.int .i64 p)).setCell (p:=⟨w.heap.size+1,2,none⟩) (Nat.le_succ _) (.int .i64 1)).setCell (p:=⟨w.heap.size+1,3,none⟩) (Nat.le_succ _) (.int .i64 0)).setCell (p:=⟨w.heap.size+1,4,none⟩) (Nat.le_succ _) (.slice none 0 0));clear hb0 hp
 go_enter Tryz.func46,Tryz.ntmps46
 go_wp2
 refine bodyPost_ret (v:=pkt a p 1 0 (.slice none 0 0)) (by simp [results,Tryz.results46,go_sem,p0,p1,p2,p3,p4]) rfl ⟨rfl,HB.out⟩
theorem Qeq {W:World} {R:Nat} {z0 z1 z2 z3 z4 z5 z6:Value} {T:TypeId} (h:W.heap[R]? =some (.cells #[z0,z1,z2,z3,z4,z5,z6] T (0,0))) (x0 x1 x2 x3 x4 x5 x6:Value):(Q1Q W R x0 x1 x2 x3 x4 x5 x6).heap[R]? =some (.cells #[x0,x1,x2,x3,x4,x5,x6] T (0,0)):=by
 have h1:(W.setCell ⟨R,0,none⟩ x0).heap[R]? =some (.cells #[x0,z1,z2,z3,z4,z5,z6] T (0,0)):=Q06 h 0 x0;have h2:((W.setCell ⟨R,0,none⟩ x0).setCell ⟨R,1,none⟩ x1).heap[R]? =some (.cells #[x0,x1,z2,z3,z4,z5,z6] T (0,0)):=Q06 h1 1 x1;have h3:(((W.setCell ⟨R,0,none⟩ x0).setCell ⟨R,1,none⟩ x1).setCell ⟨R,2,none⟩ x2).heap[R]? =some (.cells #[x0,x1,x2,z3,z4,z5,z6] T (0,0)):=Q06 h2 2 x2;have h4:((((W.setCell ⟨R,0,none⟩ x0).setCell ⟨R,1,none⟩ x1).setCell ⟨R,2,none⟩ x2).setCell ⟨R,3,none⟩ x3).heap[R]? =some (.cells #[x0,x1,x2,x3,z4,z5,z6] T (0,0)):=Q06 h3 3 x3
 have h5:(((((W.setCell ⟨R,0,none⟩ x0).setCell ⟨R,1,none⟩ x1).setCell ⟨R,2,none⟩ x2).setCell ⟨R,3,none⟩ x3).setCell ⟨R,4,none⟩ x4).heap[R]? =some (.cells #[x0,x1,x2,x3,x4,z5,z6] T (0,0)):=Q06 h4 4 x4;have h6:((((((W.setCell ⟨R,0,none⟩ x0).setCell ⟨R,1,none⟩ x1).setCell ⟨R,2,none⟩ x2).setCell ⟨R,3,none⟩ x3).setCell ⟨R,4,none⟩ x4).setCell ⟨R,5,none⟩ x5).heap[R]? =some (.cells #[x0,x1,x2,x3,x4,x5,z6] T (0,0)):=Q06 h5 5 x5
 exact Q06 h6 6 x6
theorem Qhm {C:Nat} {w:World} {m:Cm} {a b f s:Int} {vl:Value} {og:Option Addr} {n cg:Nat} {pl st:Int} (h:RdCm C w (crr a b f s vl (.slice og n cg) pl st) m) (h0:0 < m.g.length):∃bb off,og=some ⟨bb,off,none⟩∧bb < C∧∀i,i < m.g.length→w.cell? ⟨bb,off+i * 2,none⟩=some (.int .i64 (m.g.getD i (0,0)).1)∧w.cell? ⟨bb,off+i * 2+1,none⟩=some (.int .i64 (m.g.getD i (0,0)).2):=by
 obtain ⟨vl',vg',e,_,o9,c9,e9,r⟩:=h
 simp only [Value.agg.injEq,Array.mk.injEq,List.cons.injEq,and_true,true_and,Value.int.injEq] at e
 obtain ⟨_,_,_,_,_,e6,_⟩:=e;subst e6
 injection e9 with e1 e2 e3
 subst e1
 rcases r with r|⟨bb,off,rfl,hb,r⟩
 ·rw [r] at h0;simp at h0
 ·exact ⟨bb,off,rfl,hb,fun i hi=> ⟨r i hi 0 (by decide),r i hi 1 (by decide)⟩⟩
theorem QgB (w:World) (x y:Int):RdI (w.alloc (.cells #[.int .i64 x,.int .i64 y] 3)).heap.size (w.alloc (.cells #[.int .i64 x,.int .i64 y] 3)) (some ⟨w.heap.size,0,none⟩) [x,y]:=by
 have h:=World.alloc_heap_new w (.cells #[.int .i64 x,.int .i64 y] 3)
 refine .inr ⟨w.heap.size,0,rfl,by simp,fun i hi j hj=> ?_⟩
 have hj0:j=0:=by have:Q2e.k=1:=rfl;omega
 subst hj0;have hi2:i < 2:=hi
 rcases (show i=0∨i=1 by omega) with rfl|rfl
 ·exact Q00 h 0 _ rfl
 ·exact Q00 h 1 _ rfl
theorem QeY (W:World):Calls Tryz.prog 45 #[.int .i64 5,.int .i64 4] W fun e w'=> ∃v,e=.returned (.tuple #[v,.bool true])∧InBm W.heap.size w'.heap.size w' v (Q1b 5 4)∧Below W.heap.size W w':=by
 have h:=Q7u 5 4 W
 rw [show Qe5 5 4=true from by decide+kernel] at h
 exact h
theorem QfN (lo hi:Nat) (v:Value) (W:World) (h:InBm lo hi W v (Q1b 5 4)) (hh:hi≤W.heap.size):Calls Tryz.prog 31 #[v,cmd 0 2 1] W fun e w'=> ∃v',e=.returned (.tuple #[v',.bool true])∧InBm W.heap.size w'.heap.size w' v' (Q2N (Q1b 5 4) 0 2 1)∧Below W.heap.size W w':=by
 obtain ⟨o,c,ob,cb,oR,cR,ot,ct,rfl,r1,r2,r3,r4⟩:=Q7K h hh;have q:=Q7A (Q1b 5 4).j.key o (Q1b 5 4).j.l.length c (Q1b 5 4).j.safe (Q1b 5 4).p.key ob (Q1b 5 4).p.l.length cb oR (Q1b 5 4).p.ring.length cR ot (Q1b 5 4).t.length ct (Q1b 5 4).j.l (Q1b 5 4).p.l (Q1b 5 4).p.ring (Q1b 5 4).t 0 2 1 W rfl rfl r1 r2 r3 r4 (QfQ 5 4).b0
 rw [show QeD ⟨⟨(Q1b 5 4).j.key,(Q1b 5 4).j.l,(Q1b 5 4).j.safe⟩,⟨(Q1b 5 4).p.key,(Q1b 5 4).p.l,(Q1b 5 4).p.ring⟩,(Q1b 5 4).t⟩ 0 2 1=true from by decide+kernel] at q
 exact q
theorem Qf2:Q9U (Q2N (Q1b 5 4) 0 2 1):=by
 have h:Q2i (Q2N (Q1b 5 4) 0 2 1)=true:=by decide+kernel
 exact ⟨by have:=(Q0Q (Q4a h)).2.1;omega,Q4Z h,by have:=(Q0i.1 (Q29 h)).2.1;omega⟩
theorem QdJ (lo hi:Nat) (v:Value) (W:World) (h:InBm lo hi W v (Q2N (Q1b 5 4) 0 2 1)) (hh:hi≤W.heap.size):Calls Tryz.prog 18 #[v,.int .i64 0,pkt 1 80 1 0 (.slice none 0 0)] W fun e w'=> ∃v',e=.returned (.tuple #[v',.bool true])∧InCm W.heap.size w'.heap.size w' v' (Q2R (Q2N (Q1b 5 4) 0 2 1) 0 1 80 1 0 [])∧Below W.heap.size W w':=by
 have hs:Q5t (Q2N (Q1b 5 4) 0 2 1) 0 1 80 1 0 ([]:List Int).length=true:=by decide+kernel
 have hf:=Qf2;generalize Q2N (Q1b 5 4) 0 2 1=m at *;obtain ⟨o,c,ob,cb,oR,cR,ot,ct,rfl,r1,r2,r3,r4⟩:=Q7K h hh
 have q:=Q5Y m.j.key o m.j.l.length c m.j.safe m.p.key ob m.p.l.length cb oR m.p.ring.length cR ot m.t.length ct m.j.l m.p.l m.p.ring m.t 0 1 80 1 0 none 0 0 [] W rfl rfl r1 r2 r3 r4 hf rfl (.inl rfl) (fun _=> rfl) (by simp)
 rw [hs] at q
 exact q
theorem Qdp:(Q2R (Q2N (Q1b 5 4) 0 2 1) 0 1 80 1 0 []).g.length=3∧Q1F (Q2R (Q2N (Q1b 5 4) 0 2 1) 0 1 80 1 0 []).a (Q2R (Q2N (Q1b 5 4) 0 2 1) 0 1 80 1 0 []).b (Q2R (Q2N (Q1b 5 4) 0 2 1) 0 1 80 1 0 []).f (Q2R (Q2N (Q1b 5 4) 0 2 1) 0 1 80 1 0 []).s (Q2R (Q2N (Q1b 5 4) 0 2 1) 0 1 80 1 0 []).l.length (Q2R (Q2N (Q1b 5 4) 0 2 1) 0 1 80 1 0 []).g (Q2R (Q2N (Q1b 5 4) 0 2 1) 0 1 80 1 0 []).pl (Q2R (Q2N (Q1b 5 4) 0 2 1) 0 1 80 1 0 []).st=true∧Q4n (Q2R (Q2N (Q1b 5 4) 0 2 1) 0 1 80 1 0 []).g (Q2R (Q2N (Q1b 5 4) 0 2 1) 0 1 80 1 0 []).g.length=[2,2]∧(Q2R (Q2N (Q1b 5 4) 0 2 1) 0 1 80 1 0 []).l.length=0:=by
 refine ⟨by decide+kernel,by decide+kernel,by decide+kernel,by decide+kernel⟩
theorem Q2o (w:World):Calls Tryz.prog 11 #[] w fun e w'=> e=.returned (.bool true)∧Below w.heap.size w w':=by
 have B_w:Below w.heap.size w w:=Below.refl _ _;have HN:=Q02 (QeY);have HC:=Q02 (QfN);have HS:=Q02 (QdJ);have HG:=Q02 (Qdp);obtain ⟨m1,hm1⟩:∃x,Q1b 5 4=x:=⟨_,rfl⟩;obtain ⟨m,hm2⟩:∃x,Q2N m1 0 2 1=x:=⟨_,rfl⟩;obtain ⟨mr,hmr⟩:∃x,Q2R m 0 1 80 1 0 []=x:=⟨_,rfl⟩;obtain ⟨t,ht⟩:∃x,true=x:=⟨_,rfl⟩
 rw [hm1] at HN HC HS HG
 rw [hm2] at HC HS HG
 rw [hmr] at HS HG
 rw [ht] at HS
 have HT:=Q02 ht;clear hm1 hm2 hmr ht;have HB_:=Q02 B_w;clear B_w
 go_enter Tryz.func11,Tryz.ntmps11
 go_wp2_with fail
 have B_w:=HB_.out;clear HB_
 refine (HN.out w).mono ?_
 rintro e w1 ⟨v1,rfl,in1,hb_w1⟩
 have B_w1:Below w.heap.size w w1:=B_w.trans (hb_w1.mono B_w.size);have hs_w1:w.heap.size≤w1.heap.size:=hb_w1.size;clear hb_w1 B_w;obtain ⟨o1,c1,ob1,cb1,oR1,cR1,ot1,ct1,ev1⟩:=in1.rd.opn;subst ev1;obtain ⟨w2,hW_w2⟩:∃W,w1.alloc (.cells #[.int .i64 m1.j.key,.slice o1 m1.j.l.length c1,.int .i64 m1.j.safe,.int .i64 m1.p.key,.slice ob1 m1.p.l.length cb1,.slice oR1 m1.p.ring.length cR1,.slice ot1 m1.t.length ct1] 34)=W:=⟨_,rfl⟩
 have bxb:w2.heap[w1.heap.size]? =some (.cells #[.int .i64 m1.j.key,.slice o1 m1.j.l.length c1,.int .i64 m1.j.safe,.int .i64 m1.p.key,.slice ob1 m1.p.l.length cb1,.slice oR1 m1.p.ring.length cR1,.slice ot1 m1.t.length ct1] 34 (0,0)):=by rw [←hW_w2];exact World.alloc_heap_new w1 _
 have hb_w2:Below w1.heap.size w1 w2:=by rw [←hW_w2];exact (Below.refl _ _).alloc (Kaq _) _
 have hz_w2:w1.heap.size < w2.heap.size:=by rw [←hW_w2];simp
 replace in1:=in1.step (Stp.of (lo:=0) (hi:=0) hb_w2) (.inl (Kcq _));have B_w2:Below w.heap.size w w2:=B_w1.trans (hb_w2.mono B_w1.size);have hs_w2:w1.heap.size≤w2.heap.size:=hb_w2.size;clear hb_w2 B_w1;obtain ⟨bxbc0,bxbc1,bxbc2,bxbc3,bxbc4,bxbc5,bxbc6⟩:=Q8M bxb;replace in1:=Q02 in1;replace bxb:=Q02 bxb;have HB_:=Q02 B_w2;clear B_w2
 go_wp2_with fail
 clear bxbc0 bxbc1 bxbc2 bxbc3 bxbc4 bxbc5 bxbc6;replace in1:=in1.out;replace bxb:=bxb.out;have B_w2:=HB_.out;clear HB_;clear hW_w2
 refine (HC.out _ _ _ w2 in1 (by omega)).mono ?_
 rintro e w3 ⟨v2,rfl,in2,hb_w3⟩
 replace in1:=in1.step (Stp.of (lo:=0) (hi:=0) hb_w3) (.inl (Kcq _))
 replace bxb:=(hb_w3.block _ (by omega)).trans bxb
 have B_w3:Below w.heap.size w w3:=B_w2.trans (hb_w3.mono B_w2.size);have hs_w3:w2.heap.size≤w3.heap.size:=hb_w3.size;clear hb_w3 B_w2;clear in1;obtain ⟨o2,c2,ob2,cb2,oR2,cR2,ot2,ct2,ev2⟩:=in2.rd.opn;subst ev2
 have zb:w1.heap.size < w3.heap.size:=(Array.getElem?_eq_some_iff.1 bxb).1
 have z0:=Q00 bxb 0 _ rfl;have f0:=Q01 bxb 0;have z1:=Q00 bxb 1 _ rfl;have f1:=Q01 bxb 1;have z2:=Q00 bxb 2 _ rfl;have f2:=Q01 bxb 2;have z3:=Q00 bxb 3 _ rfl;have f3:=Q01 bxb 3;have z4:=Q00 bxb 4 _ rfl;have f4:=Q01 bxb 4;have z5:=Q00 bxb 5 _ rfl;have f5:=Q01 bxb 5;have z6:=Q00 bxb 6 _ rfl;have f6:=Q01 bxb 6;obtain ⟨w9,hw9⟩:∃W,(Q1Q w3 (w1.heap.size) (.int .i64 m.j.key) (.slice o2 m.j.l.length c2) (.int .i64 m.j.safe) (.int .i64 m.p.key) (.slice ob2 m.p.l.length cb2) (.slice oR2 m.p.ring.length cR2) (.slice ot2 m.t.length ct2))=W:=⟨_,rfl⟩
 have st9:Stp (w1.heap.size) (w1.heap.size+1) w3 w9:=by rw [←hw9];exact Q1a w3 _ _ _ _ _ _ _ _
 have bx9:w9.heap[w1.heap.size]? =some (.cells #[.int .i64 m.j.key,.slice o2 m.j.l.length c2,.int .i64 m.j.safe,.int .i64 m.p.key,.slice ob2 m.p.l.length cb2,.slice oR2 m.p.ring.length cR2,.slice ot2 m.t.length ct2] 34 (0,0)):=by rw [←hw9];exact Qeq bxb (.int .i64 m.j.key) (.slice o2 m.j.l.length c2) (.int .i64 m.j.safe) (.int .i64 m.p.key) (.slice ob2 m.p.l.length cb2) (.slice oR2 m.p.ring.length cR2) (.slice ot2 m.t.length ct2)
 replace in2:=in2.step st9 (.inl (by omega))
 have B_w9:Below w.heap.size w w9:=B_w3.trans (st9.below (by omega) (by omega))
 have hs_w9:w3.heap.size≤w9.heap.size:=st9.size;clear bxb B_w3 st9;have bxb:=bx9;clear bx9;replace bxb:=Q02 bxb;replace in2:=Q02 in2;have HB_:=Q02 B_w9;clear B_w9
 go_upto_region 3 with fail
 clear hw9 z0 f0 z1 f1 z2 f2 z3 f3 z4 f4 z5 f5 z6 f6;replace bxb:=bxb.out;replace in2:=in2.out;have B_w9:=HB_.out;clear HB_;obtain ⟨bxbc0,bxbc1,bxbc2,bxbc3,bxbc4,bxbc5,bxbc6⟩:=Q8M bxb;replace bxb:=Q02 bxb;replace in2:=Q02 in2;have HB_:=Q02 B_w9;clear B_w9
 go_cut [4,5] from 16 to 22 (fun s4 s5 wx=> ∃B lo hi oc cc ogc cgc,s4=.pointer (some ⟨B,0,none⟩)∧s5=.bool t∧Hid (wx.heap[B]? =some (.cells #[.int .i64 mr.a,.int .i64 mr.b,.int .i64 mr.f,.int .i64 mr.s,.slice oc mr.l.length cc,.slice ogc mr.g.length cgc,.int .i64 mr.pl,.int .i64 mr.st] 58 (0,0)))∧Hid (Below w9.heap.size w9 wx)∧w9.heap.size≤B∧B < wx.heap.size∧Hid (InCm lo hi wx (crr mr.a mr.b mr.f mr.s (.slice oc mr.l.length cc) (.slice ogc mr.g.length cgc) mr.pl mr.st) mr)∧w9.heap.size≤lo∧hi≤wx.heap.size∧(B < lo∨hi≤B))
 case first=>
  have hk_bxb:w1.heap.size < w9.heap.size:=by omega
  go_region_held3 (fun w'=> w'.cell? ⟨w1.heap.size,0,none⟩=some (.int .i64 m.j.key)∧w'.cell? ⟨w1.heap.size,1,none⟩=some (.slice o2 m.j.l.length c2)∧w'.cell? ⟨w1.heap.size,2,none⟩=some (.int .i64 m.j.safe)∧w'.cell? ⟨w1.heap.size,3,none⟩=some (.int .i64 m.p.key)∧w'.cell? ⟨w1.heap.size,4,none⟩=some (.slice ob2 m.p.l.length cb2)∧w'.cell? ⟨w1.heap.size,5,none⟩=some (.slice oR2 m.p.ring.length cR2)∧w'.cell? ⟨w1.heap.size,6,none⟩=some (.slice ot2 m.t.length ct2)) (first|with_reducible exact ⟨k1_0,k1_1,k1_2,k1_3,k1_4,k1_5,k1_6⟩|with_reducible exact ⟨k0_0,k0_1,k0_2,k0_3,k0_4,k0_5,k0_6⟩|with_reducible exact ⟨bxbc0,bxbc1,bxbc2,bxbc3,bxbc4,bxbc5,bxbc6⟩|with_reducible exact ⟨Q17 k1_0 (show w1.heap.size < w9.heap.size by omega) _ _ _ _ _ _ _ _,Q17 k1_1 (show w1.heap.size < w9.heap.size by omega) _ _ _ _ _ _ _ _,Q17 k1_2 (show w1.heap.size < w9.heap.size by omega) _ _ _ _ _ _ _ _,Q17 k1_3 (show w1.heap.size < w9.heap.size by omega) _ _ _ _ _ _ _ _,Q17 k1_4 (show w1.heap.size < w9.heap.size by omega) _ _ _ _ _ _ _ _,Q17 k1_5 (show w1.heap.size < w9.heap.size by omega) _ _ _ _ _ _ _ _,Q17 k1_6 (show w1.heap.size < w9.heap.size by omega) _ _ _ _ _ _ _ _⟩|with_reducible exact ⟨Q17 k1_0 (show w1.heap.size < x0.heap.size by omega) _ _ _ _ _ _ _ _,Q17 k1_1 (show w1.heap.size < x0.heap.size by omega) _ _ _ _ _ _ _ _,Q17 k1_2 (show w1.heap.size < x0.heap.size by omega) _ _ _ _ _ _ _ _,Q17 k1_3 (show w1.heap.size < x0.heap.size by omega) _ _ _ _ _ _ _ _,Q17 k1_4 (show w1.heap.size < x0.heap.size by omega) _ _ _ _ _ _ _ _,Q17 k1_5 (show w1.heap.size < x0.heap.size by omega) _ _ _ _ _ _ _ _,Q17 k1_6 (show w1.heap.size < x0.heap.size by omega) _ _ _ _ _ _ _ _⟩|go_keep) (first|(go_at_call 46;have hc_:=Q9m 1 80 w9.drew;with_reducible refine hc_.mono ?_;clear hc_;rintro e x0 ⟨rfl,hb⟩;have hp0:Below w9.heap.size w9 x0:=Below.trans (show Below w9.heap.size w9 w9.drew from (Below.drew (Below.refl _ _))) (hb.mono (by simp));have sp0:w9.heap.size≤x0.heap.size:=hp0.size;have hx0:Below w9.heap.size w9 x0:=hp0;have k0_0:=bC hx0 bxbc0 hk_bxb;have k0_1:=bC hx0 bxbc1 hk_bxb;have k0_2:=bC hx0 bxbc2 hk_bxb;have k0_3:=bC hx0 bxbc3 hk_bxb;have k0_4:=bC hx0 bxbc4 hk_bxb;have k0_5:=bC hx0 bxbc5 hk_bxb;have k0_6:=bC hx0 bxbc6 hk_bxb;(try have hzl0_0:=(Array.getElem?_eq_some_iff.1 hZ0_0).1);have rdb:=in2.out.step (Stp.of (lo:=0) (hi:=0) hp0) (.inl (Kcq _));clear hb)|(go_at_call 46;have hc_:=Q9m 1 80 (w9.alloc (.cells #[.int .i64 0,.int .i64 0,.int .i64 0,.int .i64 0,.slice none 0 0,.slice none 0 0,.int .i64 0,.int .i64 0] 58)).drew;with_reducible refine hc_.mono ?_;clear hc_;rintro e x0 ⟨rfl,hb⟩;have hp0:Below w9.heap.size w9 x0:=Below.trans (show Below w9.heap.size w9 (w9.alloc (.cells #[.int .i64 0,.int .i64 0,.int .i64 0,.int .i64 0,.slice none 0 0,.slice none 0 0,.int .i64 0,.int .i64 0] 58)).drew from (Below.drew ((Below.refl _ _).alloc (Kaq _) _))) (hb.mono (by simp));have sp0:w9.heap.size≤x0.heap.size:=hp0.size;have hx0:Below w9.heap.size w9 x0:=hp0;have k0_0:=bC hx0 bxbc0 hk_bxb;have k0_1:=bC hx0 bxbc1 hk_bxb;have k0_2:=bC hx0 bxbc2 hk_bxb;have k0_3:=bC hx0 bxbc3 hk_bxb;have k0_4:=bC hx0 bxbc4 hk_bxb;have k0_5:=bC hx0 bxbc5 hk_bxb;have k0_6:=bC hx0 bxbc6 hk_bxb;have hZ0_0:x0.heap[w9.heap.size]? =some (.cells #[.int .i64 0,.int .i64 0,.int .i64 0,.int .i64 0,.slice none 0 0,.slice none 0 0,.int .i64 0,.int .i64 0] 58 (0,0)):=(Qdg hb);(try have hzl0_0:=(Array.getElem?_eq_some_iff.1 hZ0_0).1);have rdb:=in2.out.step (Stp.of (lo:=0) (hi:=0) hp0) (.inl (Kcq _));clear hb)|(go_at_call 18;have hc_:=HS.out _ _ _ x0 rdb (by omega);with_reducible refine hc_.mono ?_;clear hc_;rintro e x1 ⟨vc,rfl,inc,hb⟩;have hp1:Below x0.heap.size x0 x1:=hb;have sp1:x0.heap.size≤x1.heap.size:=hp1.size;have hx1:Below w9.heap.size w9 x1:=hx0.trans (hp1.mono hx0.size);have k1_0:=bC hx1 bxbc0 hk_bxb;have k1_1:=bC hx1 bxbc1 hk_bxb;have k1_2:=bC hx1 bxbc2 hk_bxb;have k1_3:=bC hx1 bxbc3 hk_bxb;have k1_4:=bC hx1 bxbc4 hk_bxb;have k1_5:=bC hx1 bxbc5 hk_bxb;have k1_6:=bC hx1 bxbc6 hk_bxb;(try have hZ1_0:=(hp1.block _ (Array.getElem?_eq_some_iff.1 hZ0_0).1).trans hZ0_0);(try have hzl1_0:=(Array.getElem?_eq_some_iff.1 hZ1_0).1);(try have hzl1_1:=(Array.getElem?_eq_some_iff.1 hZ1_1).1);obtain ⟨oc,cc,ogc,cgc,hve⟩:=inc.opn;subst hve;(try (have hq9:=Qbw hZ1_0;obtain ⟨hzc0_0,hzc0_1,hzc0_2,hzc0_3,hzc0_4,hzc0_5,hzc0_6,hzc0_7,hzf0_0,hzf0_1,hzf0_2,hzf0_3,hzf0_4,hzf0_5,hzf0_6,hzf0_7⟩:=hq9));(try (have hq9:=Qbw hZ1_1;obtain ⟨hzc1_0,hzc1_1,hzc1_2,hzc1_3,hzc1_4,hzc1_5,hzc1_6,hzc1_7,hzf1_0,hzf1_1,hzf1_2,hzf1_3,hzf1_4,hzf1_5,hzf1_6,hzf1_7⟩:=hq9));clear hb)|(go_at_call 18;have hc_:=HS.out _ _ _ (x0.alloc (.cells #[.int .i64 0,.int .i64 0,.int .i64 0,.int .i64 0,.slice none 0 0,.slice none 0 0,.int .i64 0,.int .i64 0] 58)) (rdb.step (Stp.of (lo:=0) (hi:=0) ((Below.refl _ _).alloc (Kaq _) _)) (.inl (Kcq _))) (by simp;omega);with_reducible refine hc_.mono ?_;clear hc_;rintro e x1 ⟨vc,rfl,inc,hb⟩;have hp1:Below x0.heap.size x0 x1:=Below.trans (show Below x0.heap.size x0 (x0.alloc (.cells #[.int .i64 0,.int .i64 0,.int .i64 0,.int .i64 0,.slice none 0 0,.slice none 0 0,.int .i64 0,.int .i64 0] 58)) from ((Below.refl _ _).alloc (Kaq _) _)) (hb.mono (by simp));have sp1:x0.heap.size≤x1.heap.size:=hp1.size;have hx1:Below w9.heap.size w9 x1:=hx0.trans (hp1.mono hx0.size);have k1_0:=bC hx1 bxbc0 hk_bxb;have k1_1:=bC hx1 bxbc1 hk_bxb;have k1_2:=bC hx1 bxbc2 hk_bxb;have k1_3:=bC hx1 bxbc3 hk_bxb;have k1_4:=bC hx1 bxbc4 hk_bxb;have k1_5:=bC hx1 bxbc5 hk_bxb;have k1_6:=bC hx1 bxbc6 hk_bxb;(try have hZ1_0:=(hp1.block _ (Array.getElem?_eq_some_iff.1 hZ0_0).1).trans hZ0_0);have hZ1_1:x1.heap[x0.heap.size]? =some (.cells #[.int .i64 0,.int .i64 0,.int .i64 0,.int .i64 0,.slice none 0 0,.slice none 0 0,.int .i64 0,.int .i64 0] 58 (0,0)):=(Qfm hb);(try have hzl1_0:=(Array.getElem?_eq_some_iff.1 hZ1_0).1);(try have hzl1_1:=(Array.getElem?_eq_some_iff.1 hZ1_1).1);obtain ⟨oc,cc,ogc,cgc,hve⟩:=inc.opn;subst hve;(try (have hq9:=Qbw hZ1_0;obtain ⟨hzc0_0,hzc0_1,hzc0_2,hzc0_3,hzc0_4,hzc0_5,hzc0_6,hzc0_7,hzf0_0,hzf0_1,hzf0_2,hzf0_3,hzf0_4,hzf0_5,hzf0_6,hzf0_7⟩:=hq9));(try (have hq9:=Qbw hZ1_1;obtain ⟨hzc1_0,hzc1_1,hzc1_2,hzc1_3,hzc1_4,hzc1_5,hzc1_6,hzc1_7,hzf1_0,hzf1_1,hzf1_2,hzf1_3,hzf1_4,hzf1_5,hzf1_6,hzf1_7⟩:=hq9));clear hb))
  all_goals (go_wp2_with fail;go_meet)
  all_goals first
   |with_reducible exact Qg8 hZ1_0 hx1 (by omega) inc (by (try simp) <;> omega) (Kaq _) (by (try simp) <;> omega)
   |with_reducible exact Qg8 hZ1_1 hx1 (by omega) inc (by (try simp) <;> omega) (Kaq _) (by (try simp) <;> omega)
   |with_reducible exact QgJ hx1 inc (by (try simp) <;> omega) (Kaq _)
 case rest=>
 obtain ⟨Bc,loc,hic,oc,cc,ogc,cgc,rfl,rfl,Hbx_,Hbl_,hB1_c,hB2_c,Hin_,hl1_c,hl2_c,hl3_c⟩:=hcut;have bxc:=Hbx_.out;have hbl_:=Hbl_.out;clear Hbx_ Hbl_;have inc:=Hin_.out;clear Hin_;clear bxbc0 bxbc1 bxbc2 bxbc3 bxbc4 bxbc5 bxbc6;replace bxb:=bxb.out;replace in2:=in2.out;have B_w9:=HB_.out;clear HB_;obtain ⟨w4,hwc⟩:∃W,W=wc:=⟨_,rfl⟩;subst hwc
 replace bxb:=(hbl_.block _ (by omega)).trans bxb
 replace in2:=in2.step (Stp.of (lo:=0) (hi:=0) hbl_) (.inl (Kcq _));have B_w4:Below w.heap.size w w4:=B_w9.trans (hbl_.mono B_w9.size);have hs_w4:w9.heap.size≤w4.heap.size:=hbl_.size;clear hbl_ B_w9;obtain ⟨hg3,hok,hunt,hlen⟩:=HG.out
 have hcel:=Q02 (Qhm (((inc.rd).le (show hic≤w4.heap.size by omega))) (by rw [hg3];decide))
 obtain ⟨bb,off,ebo,hbb,hcell⟩:=hcel.out;subst ebo;clear hcel
 have HH:=Q02 (fun W (hW:Below w4.heap.size w4 W)=> Q9G mr.a mr.b mr.f mr.s oc mr.l.length cc bb off cgc mr.g mr.pl mr.st W (by rw [hlen];decide) (by rw [hg3];decide) (Kbq hbb hW.size) (fun i hi=> ⟨(hW.cell (p:=⟨bb,off+i * 2,none⟩) hbb).trans (hcell i hi).1,(hW.cell (p:=⟨bb,off+i * 2+1,none⟩) hbb).trans (hcell i hi).2⟩) hok)
 rw [hunt,hg3] at HH
 rw [hg3] at bxc
 rw [←HT.out]
 clear hg3 hok hunt hlen hcell inc;obtain ⟨bxcc0,bxcc1,bxcc2,bxcc3,bxcc4,bxcc5,bxcc6,bxcc7⟩:=Q5q bxc;replace bxb:=Q02 bxb;replace in2:=Q02 in2;replace bxc:=Q02 bxc;have HB_:=Q02 B_w4;clear B_w4
 go_wp2_with fail
 clear bxcc0 bxcc1 bxcc2 bxcc3 bxcc4 bxcc5 bxcc6 bxcc7;replace bxb:=bxb.out;replace in2:=in2.out;replace bxc:=bxc.out;have B_w4:=HB_.out;clear HB_
 refine (HH.out _ (Below.refl _ _)).mono ?_
 rintro e w5 ⟨vh,rfl,hown,hb_w5⟩
 replace bxb:=(hb_w5.block _ (by omega)).trans bxb
 replace in2:=in2.step (Stp.of (lo:=0) (hi:=0) hb_w5) (.inl (Kcq _))
 replace bxc:=(hb_w5.block _ (by omega)).trans bxc
 have B_w5:Below w.heap.size w w5:=B_w4.trans (hb_w5.mono B_w4.size);have hs_w5:w4.heap.size≤w5.heap.size:=hb_w5.size;clear hb_w5 B_w4;obtain ⟨oh,ch,hve,hrh⟩:=hown.open;subst hve;have HRH:=Q02 hrh;clear hrh hown;replace bxb:=Q02 bxb;replace in2:=Q02 in2;replace bxc:=Q02 bxc;have HB_:=Q02 B_w5;clear B_w5
 go_wp2_with fail
 replace bxb:=bxb.out;replace in2:=in2.out;replace bxc:=bxc.out;have B_w5:=HB_.out;clear HB_;have hbl:Below w5.heap.size w5 (w5.alloc (.cells #[.int .i64 2,.int .i64 2] 3)):=(Below.refl _ _).alloc (Kaq _) _
 refine (Q9z oh (some ⟨w5.heap.size,0,none⟩) ch 2 [2,2] _ ((HRH.out.kept hbl (Kaq _)).le hbl.size) (QgB w5 2 2) (by decide)).mono ?_
 rintro e wz ⟨rfl,hbz⟩
 have HBZ:=Q02 ((B_w5.trans (hbl.mono B_w5.size)).trans (hbz.mono (Kdq B_w5.size hbl.size)));clear hbl hbz;replace bxb:=Q02 bxb;replace in2:=Q02 in2;replace bxc:=Q02 bxc;have HB_:=Q02 B_w5;clear B_w5
 go_wp2
 go_ret
 exact ⟨rfl,HBZ.out⟩
end Go.Proofs.YtpneolgdghbinaaGreat
