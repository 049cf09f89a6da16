/- Several texts in one: SCmdI, SCmdS. -/
import Derived.Test.YtpneolgdghbinaaGreatQSends32
import Derived.Test.YtpneolgdghbinaaGreatQSends34
namespace Go.Proofs.YtpneolgdghbinaaGreat
open Go.ChangeShapes Go.WideShapes Go.ChangeAt Go.RowKit Go.Joins
set_option linter.unusedVariables false
set_option linter.unusedSimpArgs false
set_option maxRecDepth 100000
set_option maxHeartbeats 40000000
def Q8O (m:Bm) (k i gg:Int):Bm:=if Q3h m.j k i gg=true then ⟨Q3e m.j k i gg,Q9k m.p k i gg,m.t⟩ else m
theorem Bx.po {lo:Nat} {w:World} {g xc:Nat} {kj:Int} {vl:Value} {sj kp:Int} {vb vr:Value} {m:Bm} (h:Bx lo w g xc kj vl sj kp vb vr m):RcPm 0 w.heap.size w (plv m.p.key vb vr) m.p:=by
 obtain ⟨j0,j1,p0,p1,k1,k2,k3,k4,k5,k6,k7,i1,i2⟩:=h.mem
 exact i2.rc.le k4
theorem Bx.jo {lo:Nat} {w:World} {g xc:Nat} {kj:Int} {vl:Value} {sj kp:Int} {vb vr:Value} {m:Bm} (h:Bx lo w g xc kj vl sj kp vb vr m):RdJm w.heap.size w (jrn m.j.key vl m.j.safe) m.j∧capJm (jrn m.j.key vl m.j.safe):=by
 obtain ⟨j0,j1,p0,p1,k1,k2,k3,k4,k5,k6,k7,i1,i2⟩:=h.mem
 exact ⟨i1.rd.le k2,i1.cap⟩
theorem Qas (P lo g nt xc:Nat) (kq:Int) (yo:Option Addr) (nj yc:Nat) (sq kr:Int) (uo:Option Addr) (un uc:Nat) (vo:Option Addr) (vn vc:Nat) (m:Bm) (k i gg:Int) (w:World)
  (hX:w.heap[P]? =some (.cells #[.slice (some ⟨g,0,none⟩) nt xc,.int .i64 kq,.slice yo nj yc,.int .i64 sq,.int .i64 kr,.slice uo un uc,.slice vo vn vc] 93 (0,0))) (hB:Bx lo w g xc kq (.slice yo nj yc) sq kr (.slice uo un uc) (.slice vo vn vc) m) (hlo:lo≤w.heap.size) (hsm:m.p=Q0I m.j) (hfp:Q36 m.p) (hfj:Qc6 m.j):
  Calls Tryz.prog 74 #[.pointer (some ⟨P,0,none⟩),cmd k i gg] w fun e w'=> e=.returned (.bool (Q3h m.j k i gg))∧∃(g':Nat) (k1:Int) (o1:Option Addr) (n1 c1:Nat) (s1 k2:Int) (o2:Option Addr) (n2 c2:Nat) (o3:Option Addr) (n3 c3:Nat),w'.heap[P]? =some (.cells #[(.slice (some ⟨g',0,none⟩) nt xc),.int .i64 k1,.slice o1 n1 c1,.int .i64 s1,.int .i64 k2,.slice o2 n2 c2,.slice o3 n3 c3] 93 (0,0))∧Bx lo w' g' xc k1 (.slice o1 n1 c1) s1 k2 (.slice o2 n2 c2) (.slice o3 n3 c3) (Q8O m k i gg)∧Stp P (P+1) w w':=by
 have B_w:Below w.heap.size w w:=Below.refl _ _;have bxp:=hX;clear hX
 have hPw:P < w.heap.size:=(Array.getElem?_eq_some_iff.1 bxp).1
 obtain ⟨e1,e2,e3,⟨base,hbs,hrow⟩,_⟩:=id hB;subst e1 e2 e3
 have HPO:=Q02 (fun W (hb:Below w.heap.size w W)=> Q8z (plv m.p.key (.slice uo un uc) (.slice vo vn vc)) m.p k i gg W ((hB.po.kept hb (Kaq _)).le hb.size) hfp)
 have HNO:=Q02 (fun W (hb:Below w.heap.size w W)=> Q9X (jrn m.j.key (.slice yo nj yc) m.j.safe) m.j k i gg W ((hB.jo.1.kept hb (Kaq _)).le hb.size) hB.jo.2 hfj)
 have HBX:=Q02 hB
 have HDN:=Q02 (show Q3h m.j k i gg=true→Qgz m.p k i gg=true from fun h=> by rw [hsm];exact (Qbo h).2.2.1)
 have HCM:=Q02 (show Q8O m k i gg=if Q3h m.j k i gg=true then ⟨Q3e m.j k i gg,Q9k m.p k i gg,m.t⟩ else m from rfl);have HNF:=Q02 (Qe0 k i gg hfj);obtain ⟨pr,hpr⟩:∃x,Q9k m.p k i gg=x:=⟨_,rfl⟩;obtain ⟨td,htd⟩:∃x,Qgz m.p k i gg=x:=⟨_,rfl⟩;obtain ⟨nr,hnr⟩:∃x,Q3e m.j k i gg=x:=⟨_,rfl⟩;obtain ⟨tn,htn⟩:∃x,Q3h m.j k i gg=x:=⟨_,rfl⟩
 rw [hpr,htd] at HPO
 rw [hnr,htn] at HNO
 rw [htd,htn] at HDN
 rw [htn,hnr,hpr] at HCM
 have HTN:=Q02 htn;clear hpr htd hnr htn hB hsm hfp hfj;obtain ⟨kq,hkq⟩:∃x,m.j.key=x:=⟨_,rfl⟩;obtain ⟨sq,hsq⟩:∃x,m.j.safe=x:=⟨_,rfl⟩;obtain ⟨kr,hkr⟩:∃x,m.p.key=x:=⟨_,rfl⟩
 rw [hkq,hsq] at HNO
 rw [hkr] at HPO
 rw [hkq,hsq,hkr] at HBX bxp
 have HKE:=Q02 (And.intro hkq (And.intro hsq hkr));have HRW:=Q02 hrow;clear hkq hsq hkr hrow;obtain ⟨w1,hW_w1⟩:∃W,w.alloc (.cells #[.int .i64 k,.int .i64 i,.int .i64 gg] 77)=W:=⟨_,rfl⟩
 have bxc:w1.heap[w.heap.size]? =some (.cells #[.int .i64 k,.int .i64 i,.int .i64 gg] 77 (0,0)):=by rw [←hW_w1];exact World.alloc_heap_new w _
 have hb_w1:Below w.heap.size w w1:=by rw [←hW_w1];exact (Below.refl _ _).alloc (Kaq _) _
 have hz_w1:w.heap.size < w1.heap.size:=by rw [←hW_w1];simp
 replace bxp:=(hb_w1.block _ (by omega)).trans bxp
 have B_w1:Below w.heap.size w w1:=B_w.trans (hb_w1.mono B_w.size);have hs_w1:w.heap.size≤w1.heap.size:=hb_w1.size;clear hb_w1 B_w;have Hbxp:=Q02 bxp;clear bxp;have Hbxc:=Q02 bxc;clear bxc;have HB_:=Q02 B_w1;clear B_w1
 go_enter Tryz.func74,Tryz.ntmps74
 have bxp:=Hbxp.out;clear Hbxp;have bxc:=Hbxc.out;clear Hbxc;have B_w1:=HB_.out;clear HB_;have bxpc0:w1.cell? ⟨P,0,none⟩=some (.slice (some ⟨g,0,none⟩) nt xc):=Q0b bxp 0 _ rfl;have bxpc1:w1.cell? ⟨P,1,none⟩=some (.int .i64 kq):=Q0b bxp 1 _ rfl;have bxpc2:w1.cell? ⟨P,2,none⟩=some (.slice yo nj yc):=Q0b bxp 2 _ rfl;have bxpc3:w1.cell? ⟨P,3,none⟩=some (.int .i64 sq):=Q0b bxp 3 _ rfl;have bxpc4:w1.cell? ⟨P,4,none⟩=some (.int .i64 kr):=Q0b bxp 4 _ rfl;have bxpc5:w1.cell? ⟨P,5,none⟩=some (.slice uo un uc):=Q0b bxp 5 _ rfl;have bxpc6:w1.cell? ⟨P,6,none⟩=some (.slice vo vn vc):=Q0b bxp 6 _ rfl
 have bxcc0:w1.cell? ⟨w.heap.size,0,none⟩=some (.int .i64 k):=Q0b bxc 0 _ rfl;have bxcc1:w1.cell? ⟨w.heap.size,1,none⟩=some (.int .i64 i):=Q0b bxc 1 _ rfl;have bxcc2:w1.cell? ⟨w.heap.size,2,none⟩=some (.int .i64 gg):=Q0b bxc 2 _ rfl;have Hbxp:=Q02 bxp;clear bxp;have Hbxc:=Q02 bxc;clear bxc;have HB_:=Q02 B_w1;clear B_w1
 go_upto_region 1 with fail
 go_cut [5,6] from 9 to 17 (fun s5 s6 wx=> ∃B lo hi ou cu oRu cRu,s5=.pointer (some ⟨B,0,none⟩)∧s6=.bool td∧Hid (wx.heap[B]? =some (.cells #[.int .i64 pr.key,.slice ou pr.l.length cu,.slice oRu pr.ring.length cRu] 29 (0,0)))∧Hid (Below w1.heap.size w1 wx)∧w1.heap.size≤B∧B < wx.heap.size∧Hid (InPm lo hi wx (plv pr.key (.slice ou pr.l.length cu) (.slice oRu pr.ring.length cRu)) pr)∧w1.heap.size≤lo∧hi≤wx.heap.size∧(B < lo∨hi≤B))
 case first=>
  have hk_bxp:P < w1.heap.size:=by omega
  have hk_bxc:w.heap.size < w1.heap.size:=by omega
  go_region_held3 (fun w'=> w'.cell? ⟨P,0,none⟩=some (.slice (some ⟨g,0,none⟩) nt xc)∧w'.cell? ⟨P,1,none⟩=some (.int .i64 kq)∧w'.cell? ⟨P,2,none⟩=some (.slice yo nj yc)∧w'.cell? ⟨P,3,none⟩=some (.int .i64 sq)∧w'.cell? ⟨P,4,none⟩=some (.int .i64 kr)∧w'.cell? ⟨P,5,none⟩=some (.slice uo un uc)∧w'.cell? ⟨P,6,none⟩=some (.slice vo vn vc)∧w'.cell? ⟨w.heap.size,0,none⟩=some (.int .i64 k)∧w'.cell? ⟨w.heap.size,1,none⟩=some (.int .i64 i)∧w'.cell? ⟨w.heap.size,2,none⟩=some (.int .i64 gg)) (first|with_reducible exact ⟨k0_0,k0_1,k0_2,k0_3,k0_4,k0_5,k0_6,k0_7,k0_8,k0_9⟩|with_reducible exact ⟨bxpc0,bxpc1,bxpc2,bxpc3,bxpc4,bxpc5,bxpc6,bxcc0,bxcc1,bxcc2⟩|with_reducible exact ⟨Q08 k0_0 (show P < w1.heap.size by omega),Q08 k0_1 (show P < w1.heap.size by omega),Q08 k0_2 (show P < w1.heap.size by omega),Q08 k0_3 (show P < w1.heap.size by omega),Q08 k0_4 (show P < w1.heap.size by omega),Q08 k0_5 (show P < w1.heap.size by omega),Q08 k0_6 (show P < w1.heap.size by omega),Q08 k0_7 (show w.heap.size < w1.heap.size by omega),Q08 k0_8 (show w.heap.size < w1.heap.size by omega),Q08 k0_9 (show w.heap.size < w1.heap.size by omega)⟩|go_keep) (first|(go_at_call 123;have hc_:=HPO.out w1.drew (Below.drew HB_.out);with_reducible refine hc_.mono ?_;clear hc_;rintro e x0 ⟨vu,rfl,inu,hb⟩;have hp0:Below w1.heap.size w1 x0:=Below.trans (show Below w1.heap.size w1 w1.drew from (Below.drew (Below.refl _ _))) (hb.mono (by simp));have sp0:w1.heap.size≤x0.heap.size:=hp0.size;have hx0:Below w1.heap.size w1 x0:=hp0;have k0_0:=(hx0.cell (p:=⟨P,0,none⟩) hk_bxp).trans bxpc0;have k0_1:=(hx0.cell (p:=⟨P,1,none⟩) hk_bxp).trans bxpc1;have k0_2:=(hx0.cell (p:=⟨P,2,none⟩) hk_bxp).trans bxpc2;have k0_3:=(hx0.cell (p:=⟨P,3,none⟩) hk_bxp).trans bxpc3;have k0_4:=(hx0.cell (p:=⟨P,4,none⟩) hk_bxp).trans bxpc4;have k0_5:=(hx0.cell (p:=⟨P,5,none⟩) hk_bxp).trans bxpc5;have k0_6:=(hx0.cell (p:=⟨P,6,none⟩) hk_bxp).trans bxpc6;have k0_7:=(hx0.cell (p:=⟨w.heap.size,0,none⟩) hk_bxc).trans bxcc0;have k0_8:=(hx0.cell (p:=⟨w.heap.size,1,none⟩) hk_bxc).trans bxcc1;have k0_9:=(hx0.cell (p:=⟨w.heap.size,2,none⟩) hk_bxc).trans bxcc2;(try have hzl0_0:=(Array.getElem?_eq_some_iff.1 hZ0_0).1);obtain ⟨ou,cu,oRu,cRu,hve⟩:=inu.opn;subst hve;(try have hzc0_0:x0.cell? ⟨w1.heap.size,0,none⟩=some (.int .i64 0):=Q0b hZ0_0 0 _ rfl);(try have hzf0_0:=Q01 hZ0_0 0);(try have hzc0_1:x0.cell? ⟨w1.heap.size,1,none⟩=some (.slice none 0 0):=Q0b hZ0_0 1 _ rfl);(try have hzf0_1:=Q01 hZ0_0 1);(try have hzc0_2:x0.cell? ⟨w1.heap.size,2,none⟩=some (.slice none 0 0):=Q0b hZ0_0 2 _ rfl);(try have hzf0_2:=Q01 hZ0_0 2);clear hb)|(go_at_call 123;have hc_:=HPO.out (w1.alloc (.cells #[.int .i64 0,.slice none 0 0,.slice none 0 0] 29)).drew (Below.drew (HB_.out.alloc HB_.out.size _));with_reducible refine hc_.mono ?_;clear hc_;rintro e x0 ⟨vu,rfl,inu,hb⟩;have hp0:Below w1.heap.size w1 x0:=Below.trans (show Below w1.heap.size w1 (w1.alloc (.cells #[.int .i64 0,.slice none 0 0,.slice none 0 0] 29)).drew from (Below.drew ((Below.refl _ _).alloc (Kaq _) _))) (hb.mono (by simp));have sp0:w1.heap.size≤x0.heap.size:=hp0.size;have hx0:Below w1.heap.size w1 x0:=hp0;have k0_0:=(hx0.cell (p:=⟨P,0,none⟩) hk_bxp).trans bxpc0;have k0_1:=(hx0.cell (p:=⟨P,1,none⟩) hk_bxp).trans bxpc1;have k0_2:=(hx0.cell (p:=⟨P,2,none⟩) hk_bxp).trans bxpc2;have k0_3:=(hx0.cell (p:=⟨P,3,none⟩) hk_bxp).trans bxpc3;have k0_4:=(hx0.cell (p:=⟨P,4,none⟩) hk_bxp).trans bxpc4;have k0_5:=(hx0.cell (p:=⟨P,5,none⟩) hk_bxp).trans bxpc5;have k0_6:=(hx0.cell (p:=⟨P,6,none⟩) hk_bxp).trans bxpc6;have k0_7:=(hx0.cell (p:=⟨w.heap.size,0,none⟩) hk_bxc).trans bxcc0;have k0_8:=(hx0.cell (p:=⟨w.heap.size,1,none⟩) hk_bxc).trans bxcc1;have k0_9:=(hx0.cell (p:=⟨w.heap.size,2,none⟩) hk_bxc).trans bxcc2;have hZ0_0:x0.heap[w1.heap.size]? =some (.cells #[.int .i64 0,.slice none 0 0,.slice none 0 0] 29 (0,0)):=(Q4g hb);(try have hzl0_0:=(Array.getElem?_eq_some_iff.1 hZ0_0).1);obtain ⟨ou,cu,oRu,cRu,hve⟩:=inu.opn;subst hve;(try have hzc0_0:x0.cell? ⟨w1.heap.size,0,none⟩=some (.int .i64 0):=Q0b hZ0_0 0 _ rfl);(try have hzf0_0:=Q01 hZ0_0 0);(try have hzc0_1:x0.cell? ⟨w1.heap.size,1,none⟩=some (.slice none 0 0):=Q0b hZ0_0 1 _ rfl);(try have hzf0_1:=Q01 hZ0_0 1);(try have hzc0_2:x0.cell? ⟨w1.heap.size,2,none⟩=some (.slice none 0 0):=Q0b hZ0_0 2 _ rfl);(try have hzf0_2:=Q01 hZ0_0 2);clear hb))
  all_goals (go_wp2_with fail;go_meet)
  all_goals first
   |with_reducible exact Qid InPm.stps hZ0_0 hx0 (by omega) inu (by (try simp) <;> omega) (Kaq _) (by (try simp) <;> omega)
   |with_reducible exact QhU InPm.stps hx0 inu (by (try simp) <;> omega) (Kaq _)
 case rest=>
 obtain ⟨Bu,lou,hiu,ou,cu,oRu,cRu,rfl,rfl,Hbx_,Hbl_,hB1_u,hB2_u,Hin_,hl1_u,hl2_u,hl3_u⟩:=hcut;have bxu:=Hbx_.out;have hbl_:=Hbl_.out;clear Hbx_ Hbl_;have inu:=Hin_.out;clear Hin_;clear bxpc0 bxpc1 bxpc2 bxpc3 bxpc4 bxpc5 bxpc6;clear bxcc0 bxcc1 bxcc2;have bxp:=Hbxp.out;clear Hbxp;have bxc:=Hbxc.out;clear Hbxc;have B_w1:=HB_.out;clear HB_;obtain ⟨w2,hwc⟩:∃W,W=wc:=⟨_,rfl⟩;subst hwc
 replace bxp:=(hbl_.block _ (by omega)).trans bxp
 replace bxc:=(hbl_.block _ (by omega)).trans bxc
 have B_w2:Below w.heap.size w w2:=B_w1.trans (hbl_.mono B_w1.size);have hs_w2:w1.heap.size≤w2.heap.size:=hbl_.size;clear hbl_ B_w1;clear hW_w1;have bxpc0:w2.cell? ⟨P,0,none⟩=some (.slice (some ⟨g,0,none⟩) nt xc):=Q0b bxp 0 _ rfl;have bxpc1:w2.cell? ⟨P,1,none⟩=some (.int .i64 kq):=Q0b bxp 1 _ rfl;have bxpc2:w2.cell? ⟨P,2,none⟩=some (.slice yo nj yc):=Q0b bxp 2 _ rfl;have bxpc3:w2.cell? ⟨P,3,none⟩=some (.int .i64 sq):=Q0b bxp 3 _ rfl;have bxpc4:w2.cell? ⟨P,4,none⟩=some (.int .i64 kr):=Q0b bxp 4 _ rfl;have bxpc5:w2.cell? ⟨P,5,none⟩=some (.slice uo un uc):=Q0b bxp 5 _ rfl
 have bxpc6:w2.cell? ⟨P,6,none⟩=some (.slice vo vn vc):=Q0b bxp 6 _ rfl;have bxcc0:w2.cell? ⟨w.heap.size,0,none⟩=some (.int .i64 k):=Q0b bxc 0 _ rfl;have bxcc1:w2.cell? ⟨w.heap.size,1,none⟩=some (.int .i64 i):=Q0b bxc 1 _ rfl;have bxcc2:w2.cell? ⟨w.heap.size,2,none⟩=some (.int .i64 gg):=Q0b bxc 2 _ rfl;have Hbxp:=Q02 bxp;clear bxp;have Hbxc:=Q02 bxc;clear bxc;have Hbxu:=Q02 bxu;clear bxu;have Hinu:=Q02 inu;clear inu;have HB_:=Q02 B_w2;clear B_w2
 go_upto_region 2 with fail
 go_cut [7,8] from 18 to 26 (fun s7 s8 wx=> ∃B lo hi on cn,s7=.pointer (some ⟨B,0,none⟩)∧s8=.bool tn∧Hid (wx.heap[B]? =some (.cells #[.int .i64 nr.key,.slice on nr.l.length cn,.int .i64 nr.safe] 25 (0,0)))∧Hid (Below w2.heap.size w2 wx)∧w2.heap.size≤B∧B < wx.heap.size∧Hid (InJm lo hi wx (jrn nr.key (.slice on nr.l.length cn) nr.safe) nr)∧w2.heap.size≤lo∧hi≤wx.heap.size∧(B < lo∨hi≤B))
 case first=>
  have hk_bxp:P < w2.heap.size:=by omega
  have hk_bxc:w.heap.size < w2.heap.size:=by omega
  go_region_held3 (fun w'=> w'.cell? ⟨P,0,none⟩=some (.slice (some ⟨g,0,none⟩) nt xc)∧w'.cell? ⟨P,1,none⟩=some (.int .i64 kq)∧w'.cell? ⟨P,2,none⟩=some (.slice yo nj yc)∧w'.cell? ⟨P,3,none⟩=some (.int .i64 sq)∧w'.cell? ⟨P,4,none⟩=some (.int .i64 kr)∧w'.cell? ⟨P,5,none⟩=some (.slice uo un uc)∧w'.cell? ⟨P,6,none⟩=some (.slice vo vn vc)∧w'.cell? ⟨w.heap.size,0,none⟩=some (.int .i64 k)∧w'.cell? ⟨w.heap.size,1,none⟩=some (.int .i64 i)∧w'.cell? ⟨w.heap.size,2,none⟩=some (.int .i64 gg)) (first|with_reducible exact ⟨k0_0,k0_1,k0_2,k0_3,k0_4,k0_5,k0_6,k0_7,k0_8,k0_9⟩|with_reducible exact ⟨bxpc0,bxpc1,bxpc2,bxpc3,bxpc4,bxpc5,bxpc6,bxcc0,bxcc1,bxcc2⟩|with_reducible exact ⟨Q08 k0_0 (show P < w2.heap.size by omega),Q08 k0_1 (show P < w2.heap.size by omega),Q08 k0_2 (show P < w2.heap.size by omega),Q08 k0_3 (show P < w2.heap.size by omega),Q08 k0_4 (show P < w2.heap.size by omega),Q08 k0_5 (show P < w2.heap.size by omega),Q08 k0_6 (show P < w2.heap.size by omega),Q08 k0_7 (show w.heap.size < w2.heap.size by omega),Q08 k0_8 (show w.heap.size < w2.heap.size by omega),Q08 k0_9 (show w.heap.size < w2.heap.size by omega)⟩|go_keep) (first|(go_at_call 124;have hc_:=HNO.out w2.drew (Below.drew HB_.out);with_reducible refine hc_.mono ?_;clear hc_;rintro e x0 ⟨vn9,rfl,inn,hb⟩;have hp0:Below w2.heap.size w2 x0:=Below.trans (show Below w2.heap.size w2 w2.drew from (Below.drew (Below.refl _ _))) (hb.mono (by simp));have sp0:w2.heap.size≤x0.heap.size:=hp0.size;have hx0:Below w2.heap.size w2 x0:=hp0;have k0_0:=(hx0.cell (p:=⟨P,0,none⟩) hk_bxp).trans bxpc0;have k0_1:=(hx0.cell (p:=⟨P,1,none⟩) hk_bxp).trans bxpc1;have k0_2:=(hx0.cell (p:=⟨P,2,none⟩) hk_bxp).trans bxpc2;have k0_3:=(hx0.cell (p:=⟨P,3,none⟩) hk_bxp).trans bxpc3;have k0_4:=(hx0.cell (p:=⟨P,4,none⟩) hk_bxp).trans bxpc4;have k0_5:=(hx0.cell (p:=⟨P,5,none⟩) hk_bxp).trans bxpc5;have k0_6:=(hx0.cell (p:=⟨P,6,none⟩) hk_bxp).trans bxpc6;have k0_7:=(hx0.cell (p:=⟨w.heap.size,0,none⟩) hk_bxc).trans bxcc0;have k0_8:=(hx0.cell (p:=⟨w.heap.size,1,none⟩) hk_bxc).trans bxcc1;have k0_9:=(hx0.cell (p:=⟨w.heap.size,2,none⟩) hk_bxc).trans bxcc2;(try have hzl0_0:=(Array.getElem?_eq_some_iff.1 hZ0_0).1);obtain ⟨on,cn,hve⟩:=InJm.opn inn;subst hve;(try have hzc0_0:x0.cell? ⟨w2.heap.size,0,none⟩=some (.int .i64 0):=Q0j hZ0_0 0 _ rfl);(try have hzf0_0:=Q01 hZ0_0 0);(try have hzc0_1:x0.cell? ⟨w2.heap.size,1,none⟩=some (.slice none 0 0):=Q0j hZ0_0 1 _ rfl);(try have hzf0_1:=Q01 hZ0_0 1);(try have hzc0_2:x0.cell? ⟨w2.heap.size,2,none⟩=some (.int .i64 0):=Q0j hZ0_0 2 _ rfl);(try have hzf0_2:=Q01 hZ0_0 2);clear hb)|(go_at_call 124;have hc_:=HNO.out (w2.alloc (.cells #[.int .i64 0,.slice none 0 0,.int .i64 0] 25)).drew (Below.drew (HB_.out.alloc HB_.out.size _));with_reducible refine hc_.mono ?_;clear hc_;rintro e x0 ⟨vn9,rfl,inn,hb⟩;have hp0:Below w2.heap.size w2 x0:=Below.trans (show Below w2.heap.size w2 (w2.alloc (.cells #[.int .i64 0,.slice none 0 0,.int .i64 0] 25)).drew from (Below.drew ((Below.refl _ _).alloc (Kaq _) _))) (hb.mono (by simp));have sp0:w2.heap.size≤x0.heap.size:=hp0.size;have hx0:Below w2.heap.size w2 x0:=hp0;have k0_0:=(hx0.cell (p:=⟨P,0,none⟩) hk_bxp).trans bxpc0;have k0_1:=(hx0.cell (p:=⟨P,1,none⟩) hk_bxp).trans bxpc1;have k0_2:=(hx0.cell (p:=⟨P,2,none⟩) hk_bxp).trans bxpc2;have k0_3:=(hx0.cell (p:=⟨P,3,none⟩) hk_bxp).trans bxpc3;have k0_4:=(hx0.cell (p:=⟨P,4,none⟩) hk_bxp).trans bxpc4;have k0_5:=(hx0.cell (p:=⟨P,5,none⟩) hk_bxp).trans bxpc5;have k0_6:=(hx0.cell (p:=⟨P,6,none⟩) hk_bxp).trans bxpc6;have k0_7:=(hx0.cell (p:=⟨w.heap.size,0,none⟩) hk_bxc).trans bxcc0;have k0_8:=(hx0.cell (p:=⟨w.heap.size,1,none⟩) hk_bxc).trans bxcc1;have k0_9:=(hx0.cell (p:=⟨w.heap.size,2,none⟩) hk_bxc).trans bxcc2;have hZ0_0:x0.heap[w2.heap.size]? =some (.cells #[.int .i64 0,.slice none 0 0,.int .i64 0] 25 (0,0)):=(Q4g hb);(try have hzl0_0:=(Array.getElem?_eq_some_iff.1 hZ0_0).1);obtain ⟨on,cn,hve⟩:=InJm.opn inn;subst hve;(try have hzc0_0:x0.cell? ⟨w2.heap.size,0,none⟩=some (.int .i64 0):=Q0j hZ0_0 0 _ rfl);(try have hzf0_0:=Q01 hZ0_0 0);(try have hzc0_1:x0.cell? ⟨w2.heap.size,1,none⟩=some (.slice none 0 0):=Q0j hZ0_0 1 _ rfl);(try have hzf0_1:=Q01 hZ0_0 1);(try have hzc0_2:x0.cell? ⟨w2.heap.size,2,none⟩=some (.int .i64 0):=Q0j hZ0_0 2 _ rfl);(try have hzf0_2:=Q01 hZ0_0 2);clear hb))
  all_goals (go_wp2_with fail;go_meet)
  all_goals first
   |with_reducible exact Qih hZ0_0 hx0 (by omega) inn (by (try simp) <;> omega) (Kaq _) (by (try simp) <;> omega)
   |with_reducible exact QhP hx0 inn (by (try simp) <;> omega) (Kaq _)
 case rest=>
 obtain ⟨Bn,lon,hin,on,cn,rfl,rfl,Hbx_,Hbl_,hB1_n,hB2_n,Hin_,hl1_n,hl2_n,hl3_n⟩:=hcut;have bxn:=Hbx_.out;have hbl_:=Hbl_.out;clear Hbx_ Hbl_;have inn:=Hin_.out;clear Hin_;clear bxpc0 bxpc1 bxpc2 bxpc3 bxpc4 bxpc5 bxpc6;clear bxcc0 bxcc1 bxcc2;have bxp:=Hbxp.out;clear Hbxp;have bxc:=Hbxc.out;clear Hbxc;have bxu:=Hbxu.out;clear Hbxu;have inu:=Hinu.out;clear Hinu;have B_w2:=HB_.out;clear HB_;obtain ⟨w3,hwc⟩:∃W,W=wc:=⟨_,rfl⟩;subst hwc
 replace bxp:=(hbl_.block _ (by omega)).trans bxp
 replace bxc:=(hbl_.block _ (by omega)).trans bxc
 replace bxu:=(hbl_.block _ (by omega)).trans bxu
 replace inu:=inu.step (Stp.of (lo:=0) (hi:=0) hbl_) (.inl (Kcq _));have B_w3:Below w.heap.size w w3:=B_w2.trans (hbl_.mono B_w2.size);have hs_w3:w2.heap.size≤w3.heap.size:=hbl_.size;clear hbl_ B_w2
 cases tn with
 |false=>
  have HFI:Hid (w3.heap[P]? =some (.cells #[.slice (some ⟨g,0,none⟩) nt xc,.int .i64 kq,.slice yo nj yc,.int .i64 sq,.int .i64 kr,.slice uo un uc,.slice vo vn vc] 93 (0,0))∧Bx lo w3 g xc kq (.slice yo nj yc) sq kr (.slice uo un uc) (.slice vo vn vc) (Q8O m k i gg)∧Stp P (P+1) w w3):=by
   refine ⟨bxp, ?_,Stp.of B_w3⟩
   rw [HCM.out]
   exact HBX.out.kept B_w3
  clear HBX HDN HCM HNF HPO HNO HRW HKE;have Hbxp:=Q02 bxp;clear bxp;have Hbxc:=Q02 bxc;clear bxc;have Hbxu:=Q02 bxu;clear bxu;have Hinu:=Q02 inu;clear inu;have Hbxn:=Q02 bxn;clear bxn;have Hinn:=Q02 inn;clear inn;have HB_:=Q02 B_w3;clear B_w3
  cases td <;> (go_wp2;go_ret;exact ⟨by rw [HTN.out];rfl,g,_,_,_,_,_,_,_,_,_,_,_,_,HFI.out.1,HFI.out.2.1,HFI.out.2.2⟩)
 |true=>
  have etd:td=true:=HDN.out (by first|rfl|trivial)
  subst etd;clear HDN HPO HNO;obtain ⟨W9,hW9⟩:∃W,(Qgn (Qgn w3 P 4 (.int .i64 pr.key) (.slice ou pr.l.length cu) (.slice oRu pr.ring.length cRu)) P 1 (.int .i64 nr.key) (.slice on nr.l.length cn) (.int .i64 nr.safe))=W:=⟨_,rfl⟩;have sA:=Q8I w3 P 4 (.int .i64 pr.key) (.slice ou pr.l.length cu) (.slice oRu pr.ring.length cRu)
  have hbA:(Qgn w3 P 4 (.int .i64 pr.key) (.slice ou pr.l.length cu) (.slice oRu pr.ring.length cRu)).heap[P]? =some (.cells #[.slice (some ⟨g,0,none⟩) nt xc,.int .i64 kq,.slice yo nj yc,.int .i64 sq,.int .i64 pr.key,.slice ou pr.l.length cu,.slice oRu pr.ring.length cRu] 93 (0,0)):=Q06 (Q06 (Q06 bxp 4 _) 5 _) 6 _
  have s9:Stp P (P+1) w3 W9:=by rw [←hW9];exact sA.trans (Q8I _ P 1 _ _ _)
  have X9:W9.heap[P]? =some (.cells #[.slice (some ⟨g,0,none⟩) nt xc,.int .i64 nr.key,.slice on nr.l.length cn,.int .i64 nr.safe,.int .i64 pr.key,.slice ou pr.l.length cu,.slice oRu pr.ring.length cRu] 93 (0,0)):=by rw [←hW9];exact Q06 (Q06 (Q06 hbA 1 _) 2 _) 3 _
  have hz9:=s9.size
  have HFI:Hid (W9.heap[P]? =some (.cells #[.slice (some ⟨g,0,none⟩) nt xc,.int .i64 nr.key,.slice on nr.l.length cn,.int .i64 nr.safe,.int .i64 pr.key,.slice ou pr.l.length cu,.slice oRu pr.ring.length cRu] 93 (0,0))∧Bx lo W9 g xc nr.key (.slice on nr.l.length cn) nr.safe pr.key (.slice ou pr.l.length cu) (.slice oRu pr.ring.length cRu) (Q8O m k i gg)∧Stp P (P+1) w W9):=by
   refine ⟨X9, ?_,(Stp.of B_w3).trans s9⟩
   rw [HCM.out]
   have hgP:∀q:Nat,Value.ownBlock (.slice (some ⟨g,0,none⟩) m.t.length xc)=some q→q < P∨P+1≤q:=fun q e=> by
    have hro:=Q03 HRW.out B_w3
    rcases Q1P hro bxp (by decide) with h|h
    ·rw [h] at e;cases e
    ·rw [e] at h;have:q≠P:=fun e2=> h (by rw [e2]);omega
   refine ⟨rfl,rfl,rfl,⟨base,hbs,(InRow.steps (InRow.of (Q03 HRW.out B_w3)) s9 hgP).1⟩,⟨lon,hin,lou,hiu,by omega,by omega,by omega,by omega,by omega, ?_, ?_,inn.step s9 (.inl (by omega)),inu.step s9 (.inl (by omega))⟩⟩
   ·have hg9:=(HRW.out.lt g rfl).2
    omega
   ·have hg9:=(HRW.out.lt g rfl).2
    omega
  clear sA hbA s9 X9 HBX HCM HNF HRW HKE;have bxpc0:w3.cell? ⟨P,0,none⟩=some (.slice (some ⟨g,0,none⟩) nt xc):=Q0b bxp 0 _ rfl;have bxpc1:w3.cell? ⟨P,1,none⟩=some (.int .i64 kq):=Q0b bxp 1 _ rfl;have bxpc2:w3.cell? ⟨P,2,none⟩=some (.slice yo nj yc):=Q0b bxp 2 _ rfl;have bxpc3:w3.cell? ⟨P,3,none⟩=some (.int .i64 sq):=Q0b bxp 3 _ rfl;have bxpc4:w3.cell? ⟨P,4,none⟩=some (.int .i64 kr):=Q0b bxp 4 _ rfl;have bxpc5:w3.cell? ⟨P,5,none⟩=some (.slice uo un uc):=Q0b bxp 5 _ rfl;have bxpc6:w3.cell? ⟨P,6,none⟩=some (.slice vo vn vc):=Q0b bxp 6 _ rfl
  have bxuc0:w3.cell? ⟨Bu,0,none⟩=some (.int .i64 pr.key):=Q0b bxu 0 _ rfl;have bxuc1:w3.cell? ⟨Bu,1,none⟩=some (.slice ou pr.l.length cu):=Q0b bxu 1 _ rfl;have bxuc2:w3.cell? ⟨Bu,2,none⟩=some (.slice oRu pr.ring.length cRu):=Q0b bxu 2 _ rfl;have bxnc0:w3.cell? ⟨Bn,0,none⟩=some (.int .i64 nr.key):=Q0b bxn 0 _ rfl;have bxnc1:w3.cell? ⟨Bn,1,none⟩=some (.slice on nr.l.length cn):=Q0b bxn 1 _ rfl;have bxnc2:w3.cell? ⟨Bn,2,none⟩=some (.int .i64 nr.safe):=Q0b bxn 2 _ rfl;have fp0:=Q01 bxp 0;have fp1:=Q01 bxp 1;have fp2:=Q01 bxp 2;have fp3:=Q01 bxp 3;have fp4:=Q01 bxp 4;have fp5:=Q01 bxp 5
  have fp6:=Q01 bxp 6;have Hbxp:=Q02 bxp;clear bxp;have Hbxc:=Q02 bxc;clear bxc;have Hbxu:=Q02 bxu;clear bxu;have Hinu:=Q02 inu;clear inu;have Hbxn:=Q02 bxn;clear bxn;have Hinn:=Q02 inn;clear inn;have HB_:=Q02 B_w3;clear B_w3
  dsimp only [Qgn] at hW9
  go_wp2
  go_region
  all_goals (try go_wp2)
  all_goals go_ret
  all_goals exact ⟨by rw [HTN.out];rfl,g,_,_,_,_,_,_,_,_,_,_,_,_,HFI.out.1,HFI.out.2.1.kept (Below.drew (Below.refl _ _)),HFI.out.2.2.trans (Stp.of (Below.drew (Below.refl _ _)))⟩
def QhA (m:Bm) (k i gg:Int):Bool:=Q2i m && Q0E k i gg
def Q2N (m:Bm) (k i gg:Int):Bm:=if QhA m k i gg=true then Q8O m k i gg else bm0
def QeD (m:Bm) (k i gg:Int):Bool:=QhA m k i gg && Q3h m.j k i gg
theorem Q7A (kj:Int) (o:Option Addr) (nj c:Nat) (sj kp:Int) (ob:Option Addr) (np cb:Nat) (oR:Option Addr) (nr cR:Nat) (ot:Option Addr) (nt ct:Nat) (lj:List Cd) (lb:List Bk) (lr:List (List (List Int))) (lt:List Sl) (k i gg:Int) (w:World)
  (hnj:nj=lj.length) (hnt:nt=lt.length) (h1:RdC w.heap.size w o lj) (h1c:o=none→c=0) (h2:Q9S w.heap.size w (plv kp (.slice ob np cb) (.slice oR nr cR)) ⟨kp,lb,lr⟩) (h4:RdS w.heap.size w ot lt) (hf:Q9U ⟨⟨kj,lj,sj⟩,⟨kp,lb,lr⟩,lt⟩):
  Calls Tryz.prog 31 #[Q1d kj (.slice o nj c) sj kp (.slice ob np cb) (.slice oR nr cR) (.slice ot nt ct),cmd k i gg] w fun e w'=> ∃v,e=.returned (.tuple #[v,.bool (QeD ⟨⟨kj,lj,sj⟩,⟨kp,lb,lr⟩,lt⟩ k i gg)])∧InBm w.heap.size w'.heap.size w' v (Q2N ⟨⟨kj,lj,sj⟩,⟨kp,lb,lr⟩,lt⟩ k i gg)∧Below w.heap.size w w':=by
 have HBF:=Q02 (fun W (hb:Below w.heap.size w W)=> Q4J kj o nj c sj kp ob np cb oR nr cR ot nt ct lj lb lr lt W hnj hnt ((h1.kept hb (Kaq _)).le hb.size) h1c ((h2.kept hb (Kaq _)).le hb.size) ((h4.kept hb (Kaq _)).le hb.size) hf)
 have f7:lt.length≤1048576:=hf.2.2;have f1:lj.length≤1048576:=hf.1
 have HBP:=Q02 (fun h=> Q4d (m:=⟨⟨kj,lj,sj⟩,⟨kp,lb,lr⟩,lt⟩) h)
 have HSM:=Q02 (fun h=> Q2g (m:=⟨⟨kj,lj,sj⟩,⟨kp,lb,lr⟩,lt⟩) h)
 have HFT:=Q02 (fun h=> Q4Z (m:=⟨⟨kj,lj,sj⟩,⟨kp,lb,lr⟩,lt⟩) h)
 have HTL:=Q02 (show (Q8O ⟨⟨kj,lj,sj⟩,⟨kp,lb,lr⟩,lt⟩ k i gg).t=lt by unfold Q8O;split <;> rfl)
 have HF0:=Q02 (show QeD ⟨⟨kj,lj,sj⟩,⟨kp,lb,lr⟩,lt⟩ k i gg=((Q2i ⟨⟨kj,lj,sj⟩,⟨kp,lb,lr⟩,lt⟩ && Q0E k i gg) && Q3h ⟨kj,lj,sj⟩ k i gg) from rfl);have HM:=Q02 (show Q2N ⟨⟨kj,lj,sj⟩,⟨kp,lb,lr⟩,lt⟩ k i gg=if (Q2i ⟨⟨kj,lj,sj⟩,⟨kp,lb,lr⟩,lt⟩ && Q0E k i gg)=true then Q8O ⟨⟨kj,lj,sj⟩,⟨kp,lb,lr⟩,lt⟩ k i gg else bm0 from rfl)
 dsimp only at HBP HSM HFT
 clear h1 h2 h4 hnj hnt hf;obtain ⟨bb,hbb⟩:∃x,Q2i ⟨⟨kj,lj,sj⟩,⟨kp,lb,lr⟩,lt⟩=x:=⟨_,rfl⟩;obtain ⟨mr,hmr⟩:∃r,Q2N ⟨⟨kj,lj,sj⟩,⟨kp,lb,lr⟩,lt⟩ k i gg=r:=⟨_,rfl⟩;obtain ⟨fl,hfl⟩:∃r,QeD ⟨⟨kj,lj,sj⟩,⟨kp,lb,lr⟩,lt⟩ k i gg=r:=⟨_,rfl⟩;obtain ⟨cb9,hcb⟩:∃r,Q0E k i gg=r:=⟨_,rfl⟩
 have HCB:=Q02 (fun W=> Q3n k i gg W)
 rw [hmr,hfl]
 rw [hbb] at HBF HBP HSM HFT HM HF0
 rw [hmr] at HM
 rw [hfl] at HF0
 rw [hcb] at HM HF0 HCB
 clear hbb hmr hfl hcb;obtain ⟨W0,hW0⟩:∃W,(((w.alloc (.cells #[.int .i64 kj,.slice o nj c,.int .i64 sj,.int .i64 kp,.slice ob np cb,.slice oR nr cR,.slice ot nt ct] 34)).alloc (.cells #[.int .i64 k,.int .i64 i,.int .i64 gg] 77)).alloc (.cells #[.int .i64 0,.slice none 0 0,.int .i64 0,.int .i64 0,.slice none 0 0,.slice none 0 0,.slice none 0 0] 34))=W:=⟨_,rfl⟩
 have hb_W0:Below w.heap.size w W0:=by rw [←hW0];exact ((((Below.refl _ _).alloc (Kaq _) _).alloc (by simp <;> omega) _).alloc (by simp <;> omega) _)
 have HB:=Q02 hb_W0;clear hb_W0
 have zz:w.heap.size < W0.heap.size:=by rw [←hW0];simp <;> omega
 obtain ⟨z0,z1,z2,z3,z4,z5,z6⟩:=alc7v0v3 hW0
 have zc:w.heap.size+1 < W0.heap.size:=by rw [←hW0];simp <;> omega
 obtain ⟨c0,c1,c2⟩:=alc3v1v3 hW0
 have zr:w.heap.size+1+1 < W0.heap.size:=by rw [←hW0];simp
 obtain ⟨r0,r1,r2,r3,r4,r5,r6⟩:=alc7v2v3 hW0;obtain ⟨fr0,fr1,fr2,fr3,fr4,fr5,fr6⟩:=alf7v2v3 hW0;have hzr:w.heap.size+1+1 < W0.heap.size:=zr
 go_enter Tryz.func31,Tryz.ntmps31
 go_wp2_with fail
 refine (HBF.out W0 HB.out).mono ?_
 rintro e v1 ⟨xo,xn,xc,kq,yo,yn,yc,sq,kr,uo,un,uc,vo,vn,vc,rfl,hin,hb⟩
 have HIN:=Q02 hin;have hs1:=hb.size;clear hin HBF;replace z0:=bC hb z0 zz;replace z1:=bC hb z1 zz;replace z2:=bC hb z2 zz;replace z3:=bC hb z3 zz;replace z4:=bC hb z4 zz;replace z5:=bC hb z5 zz;replace z6:=bC hb z6 zz;replace zz:=Kbq zz hb.size;replace c0:=bC hb c0 zc;replace c1:=bC hb c1 zc;replace c2:=bC hb c2 zc;replace zc:=Kbq zc hb.size;replace r0:=bC hb r0 zr;replace r1:=bC hb r1 zr;replace r2:=bC hb r2 zr;replace r3:=bC hb r3 zr;replace r4:=bC hb r4 zr;replace r5:=bC hb r5 zr;replace r6:=bC hb r6 zr;replace fr0:=bF hb fr0 zr;replace fr1:=bF hb fr1 zr;replace fr2:=bF hb fr2 zr
 replace fr3:=bF hb fr3 zr;replace fr4:=bF hb fr4 zr;replace fr5:=bF hb fr5 zr;replace fr6:=bF hb fr6 zr;replace zr:=Kbq zr hb.size;replace HB:=Q02 (HB.out.trans (hb.mono HB.out.size));clear hb
 cases bb with
 |false=>
  obtain ⟨W2,hW2⟩:∃W,(v1.alloc (.cells #[.slice xo xn xc,.int .i64 kq,.slice yo yn yc,.int .i64 sq,.int .i64 kr,.slice uo un uc,.slice vo vn vc] 93))=W:=⟨_,rfl⟩
  have hb_W2:Below v1.heap.size v1 W2:=by rw [←hW2];exact ((Below.refl _ _).alloc (Kaq _) _)
  replace z0:=bC hb_W2 z0 zz;replace z1:=bC hb_W2 z1 zz;replace z2:=bC hb_W2 z2 zz;replace z3:=bC hb_W2 z3 zz;replace z4:=bC hb_W2 z4 zz;replace z5:=bC hb_W2 z5 zz;replace z6:=bC hb_W2 z6 zz;replace zz:=Kbq zz hb_W2.size;replace c0:=bC hb_W2 c0 zc;replace c1:=bC hb_W2 c1 zc;replace c2:=bC hb_W2 c2 zc;replace zc:=Kbq zc hb_W2.size;replace r0:=bC hb_W2 r0 zr;replace r1:=bC hb_W2 r1 zr;replace r2:=bC hb_W2 r2 zr;replace r3:=bC hb_W2 r3 zr;replace r4:=bC hb_W2 r4 zr;replace r5:=bC hb_W2 r5 zr;replace r6:=bC hb_W2 r6 zr;replace fr0:=bF hb_W2 fr0 zr;replace fr1:=bF hb_W2 fr1 zr
  replace fr2:=bF hb_W2 fr2 zr;replace fr3:=bF hb_W2 fr3 zr;replace fr4:=bF hb_W2 fr4 zr;replace fr5:=bF hb_W2 fr5 zr;replace fr6:=bF hb_W2 fr6 zr;replace zr:=Kbq zr hb_W2.size;replace HB:=Q02 (HB.out.trans (hb_W2.mono HB.out.size));clear hb_W2
  have zx:v1.heap.size < W2.heap.size:=by rw [←hW2];simp
  obtain ⟨x0,x1,x2,x3,x4,x5,x6⟩:=alc7v0v1 hW2;clear HIN
  have e0:fl=false:=by rw [HF0.out];simp
  subst e0
  go_wp2
  refine bodyPost_ret (v:=.tuple #[Q1d 0 (.slice none 0 0) 0 0 (.slice none 0 0) (.slice none 0 0) (.slice none 0 0),.bool false]) (by simp [results,Tryz.results31,go_sem,r0,r1,r2,r3,r4,r5,r6]) rfl ⟨_,rfl, ?_,Q0z HB.out (by omega) _ _ _ _ _ _ _⟩
  rw [HM.out,Q0F]
  exact QaS _ _ _ (by have:=HB.out.size;omega)
 |true=>
  have hn:=HBP.out rfl;have hsm:=HSM.out rfl;have hft:=HFT.out rfl;obtain ⟨g,rfl,rfl,hgl,bx⟩:=Bx.of (HIN.out rfl) hn
  rw [←hsm] at bx
  have HBX:=Q02 bx;clear bx HIN HBP HSM HFT;obtain ⟨W2,hW2⟩:∃W,(v1.alloc (.cells #[.slice (some ⟨g,0,none⟩) lt.length xc,.int .i64 kq,.slice yo yn yc,.int .i64 sq,.int .i64 kr,.slice uo un uc,.slice vo vn vc] 93))=W:=⟨_,rfl⟩
  have hb_W2:Below v1.heap.size v1 W2:=by rw [←hW2];exact ((Below.refl _ _).alloc (Kaq _) _)
  replace z0:=bC hb_W2 z0 zz;replace z1:=bC hb_W2 z1 zz;replace z2:=bC hb_W2 z2 zz;replace z3:=bC hb_W2 z3 zz;replace z4:=bC hb_W2 z4 zz;replace z5:=bC hb_W2 z5 zz;replace z6:=bC hb_W2 z6 zz;replace zz:=Kbq zz hb_W2.size;replace c0:=bC hb_W2 c0 zc;replace c1:=bC hb_W2 c1 zc;replace c2:=bC hb_W2 c2 zc;replace zc:=Kbq zc hb_W2.size;replace r0:=bC hb_W2 r0 zr;replace r1:=bC hb_W2 r1 zr;replace r2:=bC hb_W2 r2 zr;replace r3:=bC hb_W2 r3 zr;replace r4:=bC hb_W2 r4 zr;replace r5:=bC hb_W2 r5 zr;replace r6:=bC hb_W2 r6 zr;replace fr0:=bF hb_W2 fr0 zr;replace fr1:=bF hb_W2 fr1 zr
  replace fr2:=bF hb_W2 fr2 zr;replace fr3:=bF hb_W2 fr3 zr;replace fr4:=bF hb_W2 fr4 zr;replace fr5:=bF hb_W2 fr5 zr;replace fr6:=bF hb_W2 fr6 zr;replace zr:=Kbq zr hb_W2.size;replace HB:=Q02 (HB.out.trans (hb_W2.mono HB.out.size));clear hb_W2
  have zx:v1.heap.size < W2.heap.size:=by rw [←hW2];simp
  obtain ⟨x0,x1,x2,x3,x4,x5,x6⟩:=alc7v0v1 hW2
  replace HBX:=Q02 (HBX.out.kept (show Below v1.heap.size v1 W2 by rw [←hW2];exact (Below.refl _ _).alloc (Kaq _) _))
  have hs2:v1.heap.size < W2.heap.size:=zx
  have HXB:Hid (W2.heap[v1.heap.size]? =some (.cells #[.slice (some ⟨g,0,none⟩) lt.length xc,.int .i64 kq,.slice yo yn yc,.int .i64 sq,.int .i64 kr,.slice uo un uc,.slice vo vn vc] 93 (0,0))):=by rw [←hW2];exact World.alloc_heap_new v1 _
  have HSMF:=Q02 (And.intro hsm hft);clear hsm hft;have hck:=HCB.out W2
  cases cb9 with
  |false=>
   go_wp2_with fail
   refine (hck).mono ?_
   rintro e v2 ⟨rfl,hb⟩
   replace z0:=bC hb z0 zz;replace z1:=bC hb z1 zz;replace z2:=bC hb z2 zz;replace z3:=bC hb z3 zz;replace z4:=bC hb z4 zz;replace z5:=bC hb z5 zz;replace z6:=bC hb z6 zz;replace zz:=Kbq zz hb.size;replace c0:=bC hb c0 zc;replace c1:=bC hb c1 zc;replace c2:=bC hb c2 zc;replace zc:=Kbq zc hb.size;replace r0:=bC hb r0 zr;replace r1:=bC hb r1 zr;replace r2:=bC hb r2 zr;replace r3:=bC hb r3 zr;replace r4:=bC hb r4 zr;replace r5:=bC hb r5 zr;replace r6:=bC hb r6 zr;replace fr0:=bF hb fr0 zr;replace fr1:=bF hb fr1 zr;replace fr2:=bF hb fr2 zr;replace fr3:=bF hb fr3 zr;replace fr4:=bF hb fr4 zr
   replace fr5:=bF hb fr5 zr;replace fr6:=bF hb fr6 zr;replace zr:=Kbq zr hb.size;replace x0:=bC hb x0 zx;replace x1:=bC hb x1 zx;replace x2:=bC hb x2 zx;replace x3:=bC hb x3 zx;replace x4:=bC hb x4 zx;replace x5:=bC hb x5 zx;replace x6:=bC hb x6 zx;replace zx:=Kbq zx hb.size;replace HB:=Q02 (HB.out.trans (hb.mono HB.out.size));clear hb;clear hck HXB HBX
   have e0:fl=false:=by rw [HF0.out];simp
   subst e0
   go_wp2
   refine bodyPost_ret (v:=.tuple #[Q1d 0 (.slice none 0 0) 0 0 (.slice none 0 0) (.slice none 0 0) (.slice none 0 0),.bool false]) (by simp [results,Tryz.results31,go_sem,r0,r1,r2,r3,r4,r5,r6]) rfl ⟨_,rfl, ?_,Q0z HB.out (by omega) _ _ _ _ _ _ _⟩
   rw [HM.out,Q0F]
   exact QaS _ _ _ (by have:=HB.out.size;omega)
  |true=>
   go_wp2_with fail
   refine (hck).mono ?_
   rintro e v2 ⟨rfl,hb⟩
   replace HBX:=Q02 (HBX.out.kept hb)
   replace HXB:=Q02 ((hb.block _ (by omega)).trans HXB.out)
   have hs3:=hb.size;replace z0:=bC hb z0 zz;replace z1:=bC hb z1 zz;replace z2:=bC hb z2 zz;replace z3:=bC hb z3 zz;replace z4:=bC hb z4 zz;replace z5:=bC hb z5 zz;replace z6:=bC hb z6 zz;replace zz:=Kbq zz hb.size;replace c0:=bC hb c0 zc;replace c1:=bC hb c1 zc;replace c2:=bC hb c2 zc;replace zc:=Kbq zc hb.size;replace r0:=bC hb r0 zr;replace r1:=bC hb r1 zr;replace r2:=bC hb r2 zr;replace r3:=bC hb r3 zr;replace r4:=bC hb r4 zr;replace r5:=bC hb r5 zr;replace r6:=bC hb r6 zr;replace fr0:=bF hb fr0 zr;replace fr1:=bF hb fr1 zr;replace fr2:=bF hb fr2 zr;replace fr3:=bF hb fr3 zr
   replace fr4:=bF hb fr4 zr;replace fr5:=bF hb fr5 zr;replace fr6:=bF hb fr6 zr;replace zr:=Kbq zr hb.size;replace x0:=bC hb x0 zx;replace x1:=bC hb x1 zx;replace x2:=bC hb x2 zx;replace x3:=bC hb x3 zx;replace x4:=bC hb x4 zx;replace x5:=bC hb x5 zx;replace x6:=bC hb x6 zx;replace zx:=Kbq zx hb.size;replace HB:=Q02 (HB.out.trans (hb.mono HB.out.size));clear hb;clear hck
   have HCR:=Q02 (Qas v1.heap.size W0.heap.size g lt.length xc kq yo yn yc sq kr uo un uc vo vn vc ⟨⟨kj,lj,sj⟩,⟨kp,lb,lr⟩,lt⟩ k i gg v2 HXB.out HBX.out (by omega) HSMF.out.1 HSMF.out.2 f1)
   clear HXB HBX HSMF
   have hq0:w.heap.size < v1.heap.size:=by omega
   have hq1:w.heap.size+1 < v1.heap.size:=by omega
   have hq2:w.heap.size+1+1 < v1.heap.size:=by omega
   obtain ⟨nf,hnf⟩:∃x,Q3h ⟨kj,lj,sj⟩ k i gg=x:=⟨_,rfl⟩
   rw [hnf] at HF0
   dsimp only at HCR
   rw [hnf] at HCR
   clear hnf
   have e0:fl=nf:=by rw [HF0.out];simp
   subst e0;clear HF0;obtain ⟨cm,hcm⟩:∃x,Q8O ⟨⟨kj,lj,sj⟩,⟨kp,lb,lr⟩,lt⟩ k i gg=x:=⟨_,rfl⟩
   rw [hcm] at HCR HM HTL
   clear hcm
   go_wp2_with fail
   refine (HCR.out).mono ?_
   rintro e w5 ⟨rfl,g',k1,o1,n1,d1,s1,k2,o2,n2,d2,o3,n3,d3,X5,bx5,s5⟩
   have HX5:=Q02 X5;have HBX:=Q02 bx5;have hs5:=s5.size;replace r0:=s5.cellP r0 (.inl hq2);replace r1:=s5.cellP r1 (.inl hq2);replace r2:=s5.cellP r2 (.inl hq2);replace r3:=s5.cellP r3 (.inl hq2);replace r4:=s5.cellP r4 (.inl hq2);replace r5:=s5.cellP r5 (.inl hq2);replace r6:=s5.cellP r6 (.inl hq2)
   replace fr0:=Stp.frozen s5 fr0 (by omega) (.inl hq2)
   replace fr1:=Stp.frozen s5 fr1 (by omega) (.inl hq2)
   replace fr2:=Stp.frozen s5 fr2 (by omega) (.inl hq2)
   replace fr3:=Stp.frozen s5 fr3 (by omega) (.inl hq2)
   replace fr4:=Stp.frozen s5 fr4 (by omega) (.inl hq2)
   replace fr5:=Stp.frozen s5 fr5 (by omega) (.inl hq2)
   replace fr6:=Stp.frozen s5 fr6 (by omega) (.inl hq2)
   replace HB:=Q02 (HB.out.trans (s5.below (by omega) HB.out.size))
   clear X5 bx5 s5 HCR x0 z0 x1 z1 x2 z2 x3 z3 x4 z4 x5 z5 x6 z6 zx hW2;have y0:w5.cell? ⟨v1.heap.size,0,none⟩=some ((.slice (some ⟨g',0,none⟩) lt.length xc)):=Q00 HX5.out 0 _ rfl;have y1:w5.cell? ⟨v1.heap.size,1,none⟩=some (.int .i64 k1):=Q00 HX5.out 1 _ rfl;have y2:w5.cell? ⟨v1.heap.size,2,none⟩=some (.slice o1 n1 d1):=Q00 HX5.out 2 _ rfl;have y3:w5.cell? ⟨v1.heap.size,3,none⟩=some (.int .i64 s1):=Q00 HX5.out 3 _ rfl;have y4:w5.cell? ⟨v1.heap.size,4,none⟩=some (.int .i64 k2):=Q00 HX5.out 4 _ rfl;have y5:w5.cell? ⟨v1.heap.size,5,none⟩=some (.slice o2 n2 d2):=Q00 HX5.out 5 _ rfl
   have y6:w5.cell? ⟨v1.heap.size,6,none⟩=some (.slice o3 n3 d3):=Q00 HX5.out 6 _ rfl
   have HPL:=Q02 (Qcu W0.heap.size g' lt.length xc k1 o1 n1 d1 s1 k2 o2 n2 d2 o3 n3 d3 cm w5 (by rw [HTL.out]) (by rw [HTL.out];exact f7) (by omega) HBX.out)
   clear HBX HX5
   go_wp2_with fail
   refine (HPL.out).mono ?_
   rintro e w6 ⟨tO,tn,tc,rfl,in6,hb6⟩
   have hs6:=hb6.size
   replace r0:=bC hb6 r0 (by omega)
   replace r1:=bC hb6 r1 (by omega)
   replace r2:=bC hb6 r2 (by omega)
   replace r3:=bC hb6 r3 (by omega)
   replace r4:=bC hb6 r4 (by omega)
   replace r5:=bC hb6 r5 (by omega)
   replace r6:=bC hb6 r6 (by omega)
   replace fr0:=bF hb6 fr0 (by omega)
   replace fr1:=bF hb6 fr1 (by omega)
   replace fr2:=bF hb6 fr2 (by omega)
   replace fr3:=bF hb6 fr3 (by omega)
   replace fr4:=bF hb6 fr4 (by omega)
   replace fr5:=bF hb6 fr5 (by omega)
   replace fr6:=bF hb6 fr6 (by omega)
   replace HB:=Q02 (HB.out.trans (hb6.mono HB.out.size));have HI6:=Q02 in6;clear in6 hb6 HPL y0 y1 y2 y3 y4 y5 y6
   go_wp2
   refine bodyPost_ret (v:=.tuple #[Q1d k1 (.slice o1 n1 d1) s1 k2 (.slice o2 n2 d2) (.slice o3 n3 d3) (.slice tO tn tc),.bool fl]) (by simp [results,Tryz.results31,go_sem,r0,r1,r2,r3,r4,r5,r6]) rfl ⟨_,rfl, ?_,Q0z HB.out (by omega) _ _ _ _ _ _ _⟩
   rw [HM.out,Q0F]
   exact (HI6.out.step (Q1a _ _ _ _ _ _ _ _ _) (.inl (by omega))).mono (by omega) (Kaq _)
theorem QgM {v:Value} {m:Pm} {k i gg:Int} {w:World} (hR:RcPm 0 w.heap.size w v m) (hp:Q21 m=true) (hc:Q0E k i gg=true):
  Calls Tryz.prog 95 #[v,cmd k i gg] w fun e w'=> ∃uo un uc vo vn vc,e=.returned (.tuple #[plv m.key (.slice uo un uc) (.slice vo vn vc),.bool (doL m.l k i gg).isSome])∧RcPm 0 w'.heap.size w' (plv m.key (.slice uo un uc) (.slice vo vn vc)) (Q9k m k i gg)∧Below w.heap.size w w':=by
 obtain ⟨hk,hbo,h1n,h3n,hto⟩:=Q1q hp;have hl6:=Q3W hbo
 have hPM:Q9k m k i gg=(match doL m.l k i gg with|none=> m|some l=> ⟨m.key,l,(Q2Q m.key l::m.ring).take 3⟩):=by unfold Q9k;rw [if_pos (by rw [hp,hc];rfl)];cases doL m.l k i gg <;> rfl
 have hR0:=hR;obtain ⟨vb,vr,rfl,hvb,hcb,rr,hcr⟩:=hR;obtain ⟨o,c,e1,r⟩:=hvb.open;subst e1
 have hnil:o=none→c=0:=fun e=> hcb _ _ (by rw [e])
 obtain ⟨oR,cR,e2⟩:=RiR.len (RcR.ri rr);subst e2
 have hnilR:oR=none→cR=0:=fun e=> hcr _ _ (by rw [e])
 cases hm:doL m.l k i gg with
 |none=>
  rw [hm] at hPM
  refine (Qdw m.key o c m.l oR m.ring.length cR k i gg w hbo hm (by omega) r).mono ?_
  rintro e w' ⟨rfl,hb⟩
  refine ⟨_,_,_,_,_,_,rfl, ?_,hb⟩
  rw [hPM]
  exact (hR0.kept hb (Kaq _)).le hb.size
 |some l'=>
  rw [hm] at hPM
  have hrr:=rr;obtain ⟨hs,hsl,hrv,hq⟩:=rr;obtain ⟨oR',cR',e9,hG⟩:=RiV.open hrv
  injection e9 with e91 e92 e93
  subst e91;have hmk:=Q80 hbo hc hm
  have hz:=Q88 m.key o c m.l oR cR hs k i gg l' w hk hbo hc hm (by omega) r hG hnilR (by omega)
  rw [hsl] at hz
  refine hz.mono ?_
  rintro e w' ⟨o2,c2,oR2,n2,cR2,o3,c3,hs3,rfl,hn2,hoK,hoR,hoT,htb,hb⟩
  refine ⟨_,_,_,_,_,_,rfl, ?_,hb⟩
  rw [hPM]
  exact ⟨_,_,rfl,(InRow.ri (InRow.of hoK)).mono (Kcq _) (Kaq _),InRow.cap (InRow.of hoK),QgS (C:=w.heap.size) hb.size hoR hoT htb hsl (fun q hq'=> RcT.stp.go (hq q hq') (Stp.of (lo:=0) (hi:=0) hb) (.inl (Kcq _))),InRow.cap (InRow.of hoR)⟩
theorem Q8c {lo hi:Nat} {w:World} {kj:Int} {o:Option Addr} {nj c:Nat} {sj kp:Int} {vb vr vt:Value} {lj:List Cd} {lb:List Bk} {lr:List (List (List Int))} {lt:List Sl} (h:OwBm lo hi w (Q1d kj (.slice o nj c) sj kp vb vr vt) ⟨⟨kj,lj,sj⟩,⟨kp,lb,lr⟩,lt⟩):nj=lj.length∧InJm lo hi w (jrn kj (.slice o nj c) sj) ⟨kj,lj,sj⟩∧RcPm lo hi w (plv kp vb vr) ⟨kp,lb,lr⟩∧InTb lo hi w (tab vt) lt:=by
 obtain ⟨vl,vb',vr',vt',e,hj,hp,ht⟩:=h
 simp only [Value.agg.injEq,Array.mk.injEq,List.cons.injEq,and_true,true_and] at e
 obtain ⟨e1,e2,e3,e4⟩:=e;subst e1 e2 e3 e4;obtain ⟨vl',e5,o',c',e6,_⟩:=hj.rd
 simp only [Value.agg.injEq,Array.mk.injEq,List.cons.injEq,and_true,true_and] at e5
 subst e5
 injection e6 with _ e7 _
 exact ⟨e7,hj,hp,ht⟩
def Qi1 (m:Bm) (v0:Value) (k i gg:Int) (w:World) (e:Ending) (w':World):Prop:=∃v,e=.returned (.tuple #[v,.bool (Q3h m.j k i gg)])∧((Q3h m.j k i gg=true∧OwBm w.heap.size w'.heap.size w' v (Q8O m k i gg))∨(Q3h m.j k i gg=false∧v=v0))∧Below w.heap.size w w'
theorem QfO {m:Bm} {k i gg:Int} (hb:Q2i m=true) (hc:Q0E k i gg=true):Q3h m.j k i gg=((doL m.p.l k i gg).isSome && !decide (100≤m.j.l.length)):=by
 have hj:=Q4a hb
 have hs:m.p.l=Q0e m.j.l m.j.l.length:=by rw [Q2g hb];unfold Q0I;rw [if_pos hj]
 unfold Q3h Qev Q7v
 rw [hj,hc,hs]
 rfl
theorem Qgh {m:Bm} {k i gg:Int} (hb:Q2i m=true) (hc:Q0E k i gg=true) (h:Q3h m.j k i gg=true):Q8O m k i gg=⟨⟨m.j.key,m.j.l++[(k,i,gg)],(m.j.l.length:Int)+1⟩,Q9k m.p k i gg,m.t⟩:=by
 have hj:=Q4a hb
 unfold Q8O
 rw [if_pos h]
 have e:Q3e m.j k i gg=⟨m.j.key,m.j.l++[(k,i,gg)],(m.j.l.length:Int)+1⟩:=by
  unfold Q3h at h
  rw [Bool.and_eq_true] at h
  unfold Q3e
  rw [if_pos h.1,if_pos h.2]
 rw [e]
theorem Qhz {lo hi:Nat} {w:World} {kp:Int} {vb vr:Value} {pr:Pm} (h:pr.key=kp) (hr:RcPm lo hi w (plv kp vb vr) ⟨kp,pr.l,pr.ring⟩):RcPm lo hi w (plv kp vb vr) pr:=by
 obtain ⟨a,b,c⟩:=pr
 dsimp only at h hr
 subst h
 exact hr
theorem QgC {m:Pm} {k i gg:Int} (hp:Q21 m=true) (hc:Q0E k i gg=true):(Q9k m k i gg).key=m.key:=by
 unfold Q9k
 rw [if_pos (by rw [hp,hc];rfl)]
 split <;> rfl
theorem QdX (kj:Int) (o:Option Addr) (nj c:Nat) (sj kp:Int) (ob:Option Addr) (np cb:Nat) (oR:Option Addr) (nr cR:Nat) (ot:Option Addr) (nt ct:Nat) (lj:List Cd) (lb:List Bk) (lr:List (List (List Int))) (lt:List Sl) (k i gg:Int) (w:World)
  (hnj:nj=lj.length) (hp:RcPm 0 w.heap.size w (plv kp (.slice ob np cb) (.slice oR nr cR)) ⟨kp,lb,lr⟩) (hOW:∀W:World,Below w.heap.size w W→Calls Tryz.prog 131 #[Q1d kj (.slice o nj c) sj kp (.slice ob np cb) (.slice oR nr cR) (.slice ot nt ct)] W fun e w'=> ∃v',e=.returned v'∧OwBm W.heap.size w'.heap.size w' v' ⟨⟨kj,lj,sj⟩,⟨kp,lb,lr⟩,lt⟩∧Below W.heap.size W w') (hb:Q2i ⟨⟨kj,lj,sj⟩,⟨kp,lb,lr⟩,lt⟩=true) (hc:Q0E k i gg=true) (hf:fitBm ⟨⟨kj,lj,sj⟩,⟨kp,lb,lr⟩,lt⟩):
  Calls Tryz.prog 128 #[Q1d kj (.slice o nj c) sj kp (.slice ob np cb) (.slice oR nr cR) (.slice ot nt ct),cmd k i gg] w fun e w'=> Qi1 ⟨⟨kj,lj,sj⟩,⟨kp,lb,lr⟩,lt⟩ (Q1d kj (.slice o nj c) sj kp (.slice ob np cb) (.slice oR nr cR) (.slice ot nt ct)) k i gg w e w':=by
 have hpb:=Q2O hb
 have HDO:=Q02 (fun W (hb9:Below w.heap.size w W)=> QgM (k:=k) (i:=i) (gg:=gg) ((hp.kept hb9 (Kaq _)).le hb9.size) hpb hc)
 have HOW:=Q02 hOW;have HNF:=Q02 (QfO hb hc)
 have HCY:=Q02 (fun h=> Qgh hb hc h)
 have HPK:=Q02 (QgC hpb hc);have hl1:lj.length≤100000:=hf.1;have hpf:=QgO k i gg hf.2.1
 dsimp only at HDO HNF HCY HPK hpf
 rw [←hnj] at hl1 HNF
 have HNJ:=Q02 hnj;obtain ⟨pr,hpr⟩:∃x,Q9k ⟨kp,lb,lr⟩ k i gg=x:=⟨_,rfl⟩;obtain ⟨db,hdb⟩:∃x,(doL lb k i gg).isSome=x:=⟨_,rfl⟩;obtain ⟨nf,hnf⟩:∃x,Q3h ⟨kj,lj,sj⟩ k i gg=x:=⟨_,rfl⟩
 rw [hpr] at HDO HCY HPK hpf
 rw [hdb] at HDO HNF
 have HN2:=Q02 hnf
 rw [hnf] at HNF HCY
 clear hpr hdb hnf hnj hp hpb hOW hb hc hf;obtain ⟨W0,hW0⟩:∃W,(((w.alloc (.cells #[.int .i64 kj,.slice o nj c,.int .i64 sj,.int .i64 kp,.slice ob np cb,.slice oR nr cR,.slice ot nt ct] 34)).alloc (.cells #[.int .i64 k,.int .i64 i,.int .i64 gg] 77)).alloc (.cells #[.int .i64 0,.slice none 0 0,.int .i64 0,.int .i64 0,.slice none 0 0,.slice none 0 0,.slice none 0 0] 34))=W:=⟨_,rfl⟩
 have hb_W0:Below w.heap.size w W0:=by rw [←hW0];exact ((((Below.refl _ _).alloc (Kaq _) _).alloc (by simp <;> omega) _).alloc (by simp <;> omega) _)
 have HB:=Q02 hb_W0;clear hb_W0
 have zz:w.heap.size < W0.heap.size:=by rw [←hW0];simp <;> omega
 obtain ⟨z0,z1,z2,z3,z4,z5,z6⟩:=alc7v0v3 hW0
 have zc:w.heap.size+1 < W0.heap.size:=by rw [←hW0];simp <;> omega
 obtain ⟨c0,c1,c2⟩:=alc3v1v3 hW0
 have zr:w.heap.size+1+1 < W0.heap.size:=by rw [←hW0];simp
 obtain ⟨r0,r1,r2,r3,r4,r5,r6⟩:=alc7v2v3 hW0;obtain ⟨fr0,fr1,fr2,fr3,fr4,fr5,fr6⟩:=alf7v2v3 hW0;have hzr:w.heap.size+1+1 < W0.heap.size:=zr
 go_enter Tryz.func128,Tryz.ntmps128
 go_wp2_with fail
 refine (HDO.out W0 HB.out).mono ?_
 rintro e v1 ⟨uo,un,uc,vo,vn,vc,rfl,hrp,hb⟩
 have HRP:=Q02 hrp;have hs1:=hb.size;clear hrp HDO;replace z0:=bC hb z0 zz;replace z1:=bC hb z1 zz;replace z2:=bC hb z2 zz;replace z3:=bC hb z3 zz;replace z4:=bC hb z4 zz;replace z5:=bC hb z5 zz;replace z6:=bC hb z6 zz;replace zz:=Kbq zz hb.size;replace c0:=bC hb c0 zc;replace c1:=bC hb c1 zc;replace c2:=bC hb c2 zc;replace zc:=Kbq zc hb.size;replace r0:=bC hb r0 zr;replace r1:=bC hb r1 zr;replace r2:=bC hb r2 zr;replace r3:=bC hb r3 zr;replace r4:=bC hb r4 zr;replace r5:=bC hb r5 zr;replace r6:=bC hb r6 zr;replace fr0:=bF hb fr0 zr;replace fr1:=bF hb fr1 zr;replace fr2:=bF hb fr2 zr
 replace fr3:=bF hb fr3 zr;replace fr4:=bF hb fr4 zr;replace fr5:=bF hb fr5 zr;replace fr6:=bF hb fr6 zr;replace zr:=Kbq zr hb.size;replace HB:=Q02 (HB.out.trans (hb.mono HB.out.size));clear hb;obtain ⟨W2,hW2⟩:∃W,(v1.alloc (.cells #[.int .i64 kp,.slice uo un uc,.slice vo vn vc] 29))=W:=⟨_,rfl⟩
 have hb_W2:Below v1.heap.size v1 W2:=by rw [←hW2];exact ((Below.refl _ _).alloc (Kaq _) _)
 replace z0:=bC hb_W2 z0 zz;replace z1:=bC hb_W2 z1 zz;replace z2:=bC hb_W2 z2 zz;replace z3:=bC hb_W2 z3 zz;replace z4:=bC hb_W2 z4 zz;replace z5:=bC hb_W2 z5 zz;replace z6:=bC hb_W2 z6 zz;replace zz:=Kbq zz hb_W2.size;replace c0:=bC hb_W2 c0 zc;replace c1:=bC hb_W2 c1 zc;replace c2:=bC hb_W2 c2 zc;replace zc:=Kbq zc hb_W2.size;replace r0:=bC hb_W2 r0 zr;replace r1:=bC hb_W2 r1 zr;replace r2:=bC hb_W2 r2 zr;replace r3:=bC hb_W2 r3 zr;replace r4:=bC hb_W2 r4 zr;replace r5:=bC hb_W2 r5 zr;replace r6:=bC hb_W2 r6 zr;replace fr0:=bF hb_W2 fr0 zr;replace fr1:=bF hb_W2 fr1 zr
 replace fr2:=bF hb_W2 fr2 zr;replace fr3:=bF hb_W2 fr3 zr;replace fr4:=bF hb_W2 fr4 zr;replace fr5:=bF hb_W2 fr5 zr;replace fr6:=bF hb_W2 fr6 zr;replace zr:=Kbq zr hb_W2.size;replace HB:=Q02 (HB.out.trans (hb_W2.mono HB.out.size));clear hb_W2
 have zp:v1.heap.size < W2.heap.size:=by rw [←hW2];simp
 obtain ⟨p0,p1,p2⟩:=alc3v0v1 hW2
 replace HRP:=Q02 (((HRP.out.kept (show Below v1.heap.size v1 W2 by rw [←hW2];exact (Below.refl _ _).alloc (Kaq _) _) (Kaq _))).le (Nat.le_of_lt zp))
 have hs2:v1.heap.size < W2.heap.size:=zp
 cases db with
 |false=>
  have e0:nf=false:=by rw [HNF.out];rfl
  subst e0;clear HOW HRP
  go_wp2
  refine bodyPost_ret (v:=.tuple #[Q1d kj (.slice o nj c) sj kp (.slice ob np cb) (.slice oR nr cR) (.slice ot nt ct),.bool false]) (by simp [results,Tryz.results128,go_sem,r0,r1,r2,r3,r4,r5,r6]) rfl ⟨_,by rw [HN2.out],.inr ⟨HN2.out,rfl⟩,Q0z HB.out (by omega) _ _ _ _ _ _ _⟩
 |true=>
  by_cases h100:100≤nj
  ·have h100':(100:Int)≤(nj:Int):=by omega
   have e0:nf=false:=by rw [HNF.out];simp [h100]
   subst e0;clear HOW HRP
   go_wp2
   refine bodyPost_ret (v:=.tuple #[Q1d kj (.slice o nj c) sj kp (.slice ob np cb) (.slice oR nr cR) (.slice ot nt ct),.bool false]) (by simp [results,Tryz.results128,go_sem,r0,r1,r2,r3,r4,r5,r6]) rfl ⟨_,by rw [HN2.out],.inr ⟨HN2.out,rfl⟩,Q0z HB.out (by omega) _ _ _ _ _ _ _⟩
  ·have h100':¬((100:Int)≤(nj:Int)):=by omega
   have e0:nf=true:=by rw [HNF.out];simp [h100]
   subst e0
   have hcy:=HCY.out (by first|rfl|trivial)
   have HCM:=Q02 hcy;clear hcy HCY HNF
   go_wp2_with fail
   refine (HOW.out W2 HB.out).mono ?_
   rintro e v2 ⟨vo9,rfl,ino,hb⟩
   have HIO:=Q02 ino;have hs3:=hb.size;replace HRP:=Q02 ((HRP.out.kept hb (Kaq _)).le hb.size);clear ino HOW;replace z0:=bC hb z0 zz;replace z1:=bC hb z1 zz;replace z2:=bC hb z2 zz;replace z3:=bC hb z3 zz;replace z4:=bC hb z4 zz;replace z5:=bC hb z5 zz;replace z6:=bC hb z6 zz;replace zz:=Kbq zz hb.size;replace c0:=bC hb c0 zc;replace c1:=bC hb c1 zc;replace c2:=bC hb c2 zc;replace zc:=Kbq zc hb.size;replace r0:=bC hb r0 zr;replace r1:=bC hb r1 zr;replace r2:=bC hb r2 zr;replace r3:=bC hb r3 zr;replace r4:=bC hb r4 zr;replace r5:=bC hb r5 zr;replace r6:=bC hb r6 zr;replace fr0:=bF hb fr0 zr
   replace fr1:=bF hb fr1 zr;replace fr2:=bF hb fr2 zr;replace fr3:=bF hb fr3 zr;replace fr4:=bF hb fr4 zr;replace fr5:=bF hb fr5 zr;replace fr6:=bF hb fr6 zr;replace zr:=Kbq zr hb.size;replace p0:=bC hb p0 zp;replace p1:=bC hb p1 zp;replace p2:=bC hb p2 zp;replace zp:=Kbq zp hb.size;replace HB:=Q02 (HB.out.trans (hb.mono HB.out.size));clear hb;obtain ⟨o9,c9,ob9,cb9,oR9,cR9,ot9,ct9,e9⟩:=HIO.out.rd.opn
   dsimp only at e9
   rw [←HNJ.out] at e9
   obtain ⟨np9,hnp9⟩:∃x,lb.length=x:=⟨_,rfl⟩;obtain ⟨nr9,hnr9⟩:∃x,lr.length=x:=⟨_,rfl⟩;obtain ⟨nt9,hnt9⟩:∃x,lt.length=x:=⟨_,rfl⟩
   rw [hnp9,hnr9,hnt9] at e9
   clear hnp9 hnr9 hnt9;subst e9;obtain ⟨W4,hW4⟩:∃W,(v2.alloc (.cells #[.int .i64 kj,.slice o9 nj c9,.int .i64 sj,.int .i64 kp,.slice ob9 np9 cb9,.slice oR9 nr9 cR9,.slice ot9 nt9 ct9] 34))=W:=⟨_,rfl⟩
   have hb_W4:Below v2.heap.size v2 W4:=by rw [←hW4];exact ((Below.refl _ _).alloc (Kaq _) _)
   replace z0:=bC hb_W4 z0 zz;replace z1:=bC hb_W4 z1 zz;replace z2:=bC hb_W4 z2 zz;replace z3:=bC hb_W4 z3 zz;replace z4:=bC hb_W4 z4 zz;replace z5:=bC hb_W4 z5 zz;replace z6:=bC hb_W4 z6 zz;replace zz:=Kbq zz hb_W4.size;replace c0:=bC hb_W4 c0 zc;replace c1:=bC hb_W4 c1 zc;replace c2:=bC hb_W4 c2 zc;replace zc:=Kbq zc hb_W4.size;replace r0:=bC hb_W4 r0 zr;replace r1:=bC hb_W4 r1 zr;replace r2:=bC hb_W4 r2 zr;replace r3:=bC hb_W4 r3 zr;replace r4:=bC hb_W4 r4 zr;replace r5:=bC hb_W4 r5 zr;replace r6:=bC hb_W4 r6 zr;replace fr0:=bF hb_W4 fr0 zr;replace fr1:=bF hb_W4 fr1 zr
   replace fr2:=bF hb_W4 fr2 zr;replace fr3:=bF hb_W4 fr3 zr;replace fr4:=bF hb_W4 fr4 zr;replace fr5:=bF hb_W4 fr5 zr;replace fr6:=bF hb_W4 fr6 zr;replace zr:=Kbq zr hb_W4.size;replace p0:=bC hb_W4 p0 zp;replace p1:=bC hb_W4 p1 zp;replace p2:=bC hb_W4 p2 zp;replace zp:=Kbq zp hb_W4.size;replace HB:=Q02 (HB.out.trans (hb_W4.mono HB.out.size));clear hb_W4
   have zu:v2.heap.size < W4.heap.size:=by rw [←hW4];simp
   obtain ⟨u0,u1,u2,u3,u4,u5,u6⟩:=alc7v0v1 hW4;have hu:v2.heap.size < W4.heap.size:=zu
   have hbW4:Below v2.heap.size v2 W4:=by rw [←hW4];exact (Below.refl _ _).alloc (Kaq _) _
   replace HIO:=Q02 (HIO.out.step (Stp.of (lo:=0) (hi:=0) hbW4) (.inl (Kcq _)));replace HRP:=Q02 ((HRP.out.kept hbW4 (Kaq _)).le hbW4.size)
   have HXU:Hid (W4.heap[v2.heap.size]? =some (.cells #[.int .i64 kj,.slice o9 nj c9,.int .i64 sj,.int .i64 kp,.slice ob9 np9 cb9,.slice oR9 nr9 cR9,.slice ot9 nt9 ct9] 34 (0,0))):=by rw [←hW4];exact World.alloc_heap_new v2 _
   clear hbW4;obtain ⟨vb8,vr8,e8,kb1,kb2,kb3,kb4⟩:=HRP.out
   simp only [Value.agg.injEq,Array.mk.injEq,List.cons.injEq,and_true,Value.int.injEq] at e8
   obtain ⟨e80,e81,e82⟩:=e8;subst e81 e82;obtain ⟨u9,uc9,e83,rk9⟩:=RiV.open kb1
   injection e83 with e831 e832 e833
   subst e831 e832;obtain ⟨v9,vc9,e84⟩:=RiR.len (RcR.ri kb3)
   injection e84 with e841 e842 e843
   subst e841 e842
   have HL4:=Q02 (Qbx kp uo uc pr.l vo vc pr.ring pr.ring.length rfl W4 rk9 (fun e=> kb2 _ _ (by rw [e])) hpf.1 kb3 (by have:=hpf.2.1;omega) hpf.2.2.2.1 hpf.2.2.2.2)
   clear HRP kb1 kb2 kb3 kb4 rk9 e80 e833 e843
   go_wp2_with fail
   refine (HL4.out).mono ?_
   rintro e v3 ⟨vq,rfl,inq,hb⟩
   have HIQ:=Q02 inq;have hs5:=hb.size;replace HIO:=Q02 (HIO.out.step (Stp.of (lo:=0) (hi:=0) hb) (.inl (Kcq _)));replace HXU:=Q02 ((hb.block _ hu).trans HXU.out);clear inq HL4;replace z0:=bC hb z0 zz;replace z1:=bC hb z1 zz;replace z2:=bC hb z2 zz;replace z3:=bC hb z3 zz;replace z4:=bC hb z4 zz;replace z5:=bC hb z5 zz;replace z6:=bC hb z6 zz;replace zz:=Kbq zz hb.size;replace c0:=bC hb c0 zc;replace c1:=bC hb c1 zc;replace c2:=bC hb c2 zc;replace zc:=Kbq zc hb.size;replace r0:=bC hb r0 zr;replace r1:=bC hb r1 zr;replace r2:=bC hb r2 zr;replace r3:=bC hb r3 zr;replace r4:=bC hb r4 zr
   replace r5:=bC hb r5 zr;replace r6:=bC hb r6 zr;replace fr0:=bF hb fr0 zr;replace fr1:=bF hb fr1 zr;replace fr2:=bF hb fr2 zr;replace fr3:=bF hb fr3 zr;replace fr4:=bF hb fr4 zr;replace fr5:=bF hb fr5 zr;replace fr6:=bF hb fr6 zr;replace zr:=Kbq zr hb.size;replace p0:=bC hb p0 zp;replace p1:=bC hb p1 zp;replace p2:=bC hb p2 zp;replace zp:=Kbq zp hb.size;replace u0:=bC hb u0 zu;replace u1:=bC hb u1 zu;replace u2:=bC hb u2 zu;replace u3:=bC hb u3 zu;replace u4:=bC hb u4 zu;replace u5:=bC hb u5 zu;replace u6:=bC hb u6 zu;replace zu:=Kbq zu hb.size
   replace HB:=Q02 (HB.out.trans (hb.mono HB.out.size));clear hb;obtain ⟨o8,c8,oR8,cR8,e8⟩:=HIQ.out.opn
   dsimp only at e8
   obtain ⟨un,hun⟩:∃x,pr.l.length=x:=⟨_,rfl⟩;obtain ⟨vn,hvn⟩:∃x,pr.ring.length=x:=⟨_,rfl⟩
   rw [hun,hvn] at e8
   subst e8
   simp only [hun,hvn] at *
   have HUV:=Q02 (And.intro hun hvn);clear hun hvn
   have hlz:w.heap.size < v2.heap.size:=by omega
   have hlc:w.heap.size+1 < v2.heap.size:=by omega
   have hlr:w.heap.size+1+1 < v2.heap.size:=by omega
   have hlp:v1.heap.size < v2.heap.size:=by omega
   have fu0:=Q01 HXU.out 0;have fu1:=Q01 HXU.out 1;have fu2:=Q01 HXU.out 2;have fu3:=Q01 HXU.out 3;have fu4:=Q01 HXU.out 4;have fu5:=Q01 HXU.out 5;have fu6:=Q01 HXU.out 6;obtain ⟨W6,hW6⟩:∃W,Qgn v3 v2.heap.size 3 (.int .i64 kp) (.slice o8 un c8) (.slice oR8 vn cR8)=W:=⟨_,rfl⟩
   have s6:Stp v2.heap.size (v2.heap.size+1) v3 W6:=by rw [←hW6];exact Q8I _ _ _ _ _ _
   have HX6:Hid (W6.heap[v2.heap.size]? =some (.cells #[.int .i64 kj,.slice o9 nj c9,.int .i64 sj,.int .i64 kp,.slice o8 un c8,.slice oR8 vn cR8,.slice ot9 nt9 ct9] 34 (0,0))):=by rw [←hW6];exact Q06 (Q06 (Q06 HXU.out 3 _) 4 _) 5 _
   replace HIO:=Q02 (HIO.out.step s6 (.inr (Kaq _)))
   replace HIQ:=Q02 (HIQ.out.step s6 (.inl (by omega)))
   have hs6:=s6.size;have HS6:=Q02 s6;clear s6;have d0:W6.cell? ⟨v2.heap.size,0,none⟩=some (.int .i64 kj):=Q00 HX6.out 0 _ rfl;have d1:W6.cell? ⟨v2.heap.size,1,none⟩=some (.slice o9 nj c9):=Q00 HX6.out 1 _ rfl;have d2:W6.cell? ⟨v2.heap.size,2,none⟩=some (.int .i64 sj):=Q00 HX6.out 2 _ rfl;have d3:W6.cell? ⟨v2.heap.size,3,none⟩=some (.int .i64 kp):=Q00 HX6.out 3 _ rfl;have d4:W6.cell? ⟨v2.heap.size,4,none⟩=some (.slice o8 un c8):=Q00 HX6.out 4 _ rfl;have d5:W6.cell? ⟨v2.heap.size,5,none⟩=some (.slice oR8 vn cR8):=Q00 HX6.out 5 _ rfl
   have d6:W6.cell? ⟨v2.heap.size,6,none⟩=some (.slice ot9 nt9 ct9):=Q00 HX6.out 6 _ rfl;have dc0:=HS6.out.cellP c0 (.inl hlc);have dc1:=HS6.out.cellP c1 (.inl hlc);have dc2:=HS6.out.cellP c2 (.inl hlc);obtain ⟨hnj6,hj6,hp6,ht6⟩:=Q8c HIO.out;clear hnj6;obtain ⟨vl6,e6,i6⟩:=hj6
   simp only [Value.agg.injEq,Array.mk.injEq,List.cons.injEq,and_true,true_and] at e6
   subst e6;obtain ⟨vt6,e6,it6⟩:=ht6
   simp only [Value.agg.injEq,Array.mk.injEq,List.cons.injEq,and_true] at e6
   subst e6;clear hp6
   dsimp only at i6
   have HI6:=Q02 i6;have HT6:=Q02 it6;clear i6 it6;have HA:Hid (ownL Q3N 77 (W6.alloc (.cells #[.int .i64 k,.int .i64 i,.int .i64 gg] 77)) W2.heap.size (.slice o9 nj c9) lj):=World.ownsRow.alloc HI6.out.1 _;have hal:Below W6.heap.size W6 (W6.alloc (.cells #[.int .i64 k,.int .i64 i,.int .i64 gg] 77)):=(Below.refl _ _).alloc (Kaq _) _;have HAL:=Q02 hal;clear hal
   dsimp only [Qgn] at hW6
   have hl1':lj.length≤100000:=by rw [←HNJ.out];exact hl1
   go_wp2_with (first|(at_builtin;refine Q07 Qc8 rfl (.tmp 33) (.tmp 35) rfl W2.heap.size _ lj rfl HA.out (some ⟨W6.heap.size,0,none⟩) 1 _ [(k,i,gg)] 1 rfl rfl (by simp) Q8e (by simp;omega) (by simp;omega) ?_))
   intro v7 w7 ho7 hg7 _
   obtain ⟨o7,c7,e7,_⟩:=ownL.open (L:=Q3N) ho7;obtain ⟨n7,hn7⟩:∃x,(lj++[(k,i,gg)]).length=x:=⟨_,rfl⟩
   have hn7':(n7:Int)=(lj.length:Int)+1:=by rw [←hn7,List.length_append];simp
   rw [hn7] at e7
   subst e7;have HN7:=Q02 (And.intro hn7 hn7');clear hn7 hn7'
   have sA:Stp W2.heap.size v2.heap.size (W6.alloc (.cells #[.int .i64 k,.int .i64 i,.int .i64 gg] 77)) w7:=Stp.grown hg7 (fun b e=> ⟨(HA.out.lt b e).1,HI6.out.2 b e⟩)
   have sB:Stp W2.heap.size v2.heap.size W6 w7:=(Stp.of HAL.out).trans sA
   have HBA:Hid (Below W2.heap.size W6 w7):=sB.below (Kaq _) (by omega)
   have X7:w7.heap[v2.heap.size]? =some (.cells #[.int .i64 kj,.slice o9 nj c9,.int .i64 sj,.int .i64 kp,.slice o8 un c8,.slice oR8 vn cR8,.slice ot9 nt9 ct9] 34 (0,0)):=sB.box HX6.out (.inr (Kaq _))
   have HT7:=Q02 (InRow.kept (InRow.step HT6.out (Stp.of (lo:=0) (hi:=0) HAL.out) (.inl (Kcq _))) hg7 (Q2w (World.ownsRow.alloc HT6.out.1 _) HA.out (by decide)))
   have HQ7:=Q02 (HIQ.out.step sB (.inl (by omega)))
   have hs7:=sB.size;have HO7:=Q02 ho7;have HX7:=Q02 X7;clear sA X7 ho7 hg7 HIQ HIO HA HX6;clear d0 u0 fu0 d1 u1 fu1 d2 u2 fu2 d3 u3 fu3 d4 u4 fu4 d5 u5 fu5 d6 u6 fu6 dc0 dc1 dc2;have hS6:=HS6.out;have hlp2:v1.heap.size < W2.heap.size:=hs2
   replace z0:=bC HBA.out (hS6.cellP z0 (.inl hlz)) (by omega)
   replace z1:=bC HBA.out (hS6.cellP z1 (.inl hlz)) (by omega)
   replace z2:=bC HBA.out (hS6.cellP z2 (.inl hlz)) (by omega)
   replace z3:=bC HBA.out (hS6.cellP z3 (.inl hlz)) (by omega)
   replace z4:=bC HBA.out (hS6.cellP z4 (.inl hlz)) (by omega)
   replace z5:=bC HBA.out (hS6.cellP z5 (.inl hlz)) (by omega)
   replace z6:=bC HBA.out (hS6.cellP z6 (.inl hlz)) (by omega)
   replace c0:=bC HBA.out (hS6.cellP c0 (.inl hlc)) (by omega)
   replace c1:=bC HBA.out (hS6.cellP c1 (.inl hlc)) (by omega)
   replace c2:=bC HBA.out (hS6.cellP c2 (.inl hlc)) (by omega)
   replace r0:=bC HBA.out (hS6.cellP r0 (.inl hlr)) (by omega)
   replace r1:=bC HBA.out (hS6.cellP r1 (.inl hlr)) (by omega)
   replace r2:=bC HBA.out (hS6.cellP r2 (.inl hlr)) (by omega)
   replace r3:=bC HBA.out (hS6.cellP r3 (.inl hlr)) (by omega)
   replace r4:=bC HBA.out (hS6.cellP r4 (.inl hlr)) (by omega)
   replace r5:=bC HBA.out (hS6.cellP r5 (.inl hlr)) (by omega)
   replace r6:=bC HBA.out (hS6.cellP r6 (.inl hlr)) (by omega)
   replace fr0:=bF HBA.out (Stp.frozen hS6 fr0 zr (.inl hlr)) (by omega)
   replace fr1:=bF HBA.out (Stp.frozen hS6 fr1 zr (.inl hlr)) (by omega)
   replace fr2:=bF HBA.out (Stp.frozen hS6 fr2 zr (.inl hlr)) (by omega)
   replace fr3:=bF HBA.out (Stp.frozen hS6 fr3 zr (.inl hlr)) (by omega)
   replace fr4:=bF HBA.out (Stp.frozen hS6 fr4 zr (.inl hlr)) (by omega)
   replace fr5:=bF HBA.out (Stp.frozen hS6 fr5 zr (.inl hlr)) (by omega)
   replace fr6:=bF HBA.out (Stp.frozen hS6 fr6 zr (.inl hlr)) (by omega)
   replace p0:=bC HBA.out (hS6.cellP p0 (.inl hlp)) (by omega)
   replace p1:=bC HBA.out (hS6.cellP p1 (.inl hlp)) (by omega)
   replace p2:=bC HBA.out (hS6.cellP p2 (.inl hlp)) (by omega)
   replace HB:=Q02 ((HB.out.trans (hS6.below (by omega) HB.out.size)).trans (HBA.out.mono (by omega)))
   clear hS6 HS6 HBA sB hW6 HAL;have u0:w7.cell? ⟨v2.heap.size,0,none⟩=some (.int .i64 kj):=Q00 HX7.out 0 _ rfl;have u1:w7.cell? ⟨v2.heap.size,1,none⟩=some (.slice o9 nj c9):=Q00 HX7.out 1 _ rfl;have u2:w7.cell? ⟨v2.heap.size,2,none⟩=some (.int .i64 sj):=Q00 HX7.out 2 _ rfl;have u3:w7.cell? ⟨v2.heap.size,3,none⟩=some (.int .i64 kp):=Q00 HX7.out 3 _ rfl;have u4:w7.cell? ⟨v2.heap.size,4,none⟩=some (.slice o8 un c8):=Q00 HX7.out 4 _ rfl;have u5:w7.cell? ⟨v2.heap.size,5,none⟩=some (.slice oR8 vn cR8):=Q00 HX7.out 5 _ rfl
   have u6:w7.cell? ⟨v2.heap.size,6,none⟩=some (.slice ot9 nt9 ct9):=Q00 HX7.out 6 _ rfl;have fu0:=Q01 HX7.out 0;have fu1:=Q01 HX7.out 1;have fu2:=Q01 HX7.out 2;have fu3:=Q01 HX7.out 3;have fu4:=Q01 HX7.out 4;have fu5:=Q01 HX7.out 5;have fu6:=Q01 HX7.out 6;have X8:(w7.setCell ⟨v2.heap.size,1,none⟩ (.slice o7 n7 c7)).heap[v2.heap.size]? =some (.cells #[.int .i64 kj,.slice o7 n7 c7,.int .i64 sj,.int .i64 kp,.slice o8 un c8,.slice oR8 vn cR8,.slice ot9 nt9 ct9] 34 (0,0)):=Q06 HX7.out 1 _
   have X9:((w7.setCell ⟨v2.heap.size,1,none⟩ (.slice o7 n7 c7)).setCell ⟨v2.heap.size,2,none⟩ (.int .i64 (n7:Int))).heap[v2.heap.size]? =some (.cells #[.int .i64 kj,.slice o7 n7 c7,.int .i64 (n7:Int),.int .i64 kp,.slice o8 un c8,.slice oR8 vn cR8,.slice ot9 nt9 ct9] 34 (0,0)):=Q06 X8 2 _;have s9:Stp v2.heap.size (v2.heap.size+1) w7 ((w7.setCell ⟨v2.heap.size,1,none⟩ (.slice o7 n7 c7)).setCell ⟨v2.heap.size,2,none⟩ (.int .i64 (n7:Int))):=(Q0t w7 v2.heap.size 1 _).trans (Q0t _ v2.heap.size 2 _)
   have e0:(w7.setCell ⟨v2.heap.size,1,none⟩ (.slice o7 n7 c7)).cell? ⟨v2.heap.size,0,none⟩=some (.int .i64 kj):=Q00 X8 0 _ rfl;have e1:(w7.setCell ⟨v2.heap.size,1,none⟩ (.slice o7 n7 c7)).cell? ⟨v2.heap.size,1,none⟩=some (.slice o7 n7 c7):=Q00 X8 1 _ rfl;have e2:(w7.setCell ⟨v2.heap.size,1,none⟩ (.slice o7 n7 c7)).cell? ⟨v2.heap.size,2,none⟩=some (.int .i64 sj):=Q00 X8 2 _ rfl;have e3:(w7.setCell ⟨v2.heap.size,1,none⟩ (.slice o7 n7 c7)).cell? ⟨v2.heap.size,3,none⟩=some (.int .i64 kp):=Q00 X8 3 _ rfl
   have e4:(w7.setCell ⟨v2.heap.size,1,none⟩ (.slice o7 n7 c7)).cell? ⟨v2.heap.size,4,none⟩=some (.slice o8 un c8):=Q00 X8 4 _ rfl;have e5:(w7.setCell ⟨v2.heap.size,1,none⟩ (.slice o7 n7 c7)).cell? ⟨v2.heap.size,5,none⟩=some (.slice oR8 vn cR8):=Q00 X8 5 _ rfl;have e6:(w7.setCell ⟨v2.heap.size,1,none⟩ (.slice o7 n7 c7)).cell? ⟨v2.heap.size,6,none⟩=some (.slice ot9 nt9 ct9):=Q00 X8 6 _ rfl;have y0:((w7.setCell ⟨v2.heap.size,1,none⟩ (.slice o7 n7 c7)).setCell ⟨v2.heap.size,2,none⟩ (.int .i64 (n7:Int))).cell? ⟨v2.heap.size,0,none⟩=some (.int .i64 kj):=Q00 X9 0 _ rfl
   have y1:((w7.setCell ⟨v2.heap.size,1,none⟩ (.slice o7 n7 c7)).setCell ⟨v2.heap.size,2,none⟩ (.int .i64 (n7:Int))).cell? ⟨v2.heap.size,1,none⟩=some (.slice o7 n7 c7):=Q00 X9 1 _ rfl;have y2:((w7.setCell ⟨v2.heap.size,1,none⟩ (.slice o7 n7 c7)).setCell ⟨v2.heap.size,2,none⟩ (.int .i64 (n7:Int))).cell? ⟨v2.heap.size,2,none⟩=some (.int .i64 (n7:Int)):=Q00 X9 2 _ rfl;have y3:((w7.setCell ⟨v2.heap.size,1,none⟩ (.slice o7 n7 c7)).setCell ⟨v2.heap.size,2,none⟩ (.int .i64 (n7:Int))).cell? ⟨v2.heap.size,3,none⟩=some (.int .i64 kp):=Q00 X9 3 _ rfl
   have y4:((w7.setCell ⟨v2.heap.size,1,none⟩ (.slice o7 n7 c7)).setCell ⟨v2.heap.size,2,none⟩ (.int .i64 (n7:Int))).cell? ⟨v2.heap.size,4,none⟩=some (.slice o8 un c8):=Q00 X9 4 _ rfl;have y5:((w7.setCell ⟨v2.heap.size,1,none⟩ (.slice o7 n7 c7)).setCell ⟨v2.heap.size,2,none⟩ (.int .i64 (n7:Int))).cell? ⟨v2.heap.size,5,none⟩=some (.slice oR8 vn cR8):=Q00 X9 5 _ rfl;have y6:((w7.setCell ⟨v2.heap.size,1,none⟩ (.slice o7 n7 c7)).setCell ⟨v2.heap.size,2,none⟩ (.int .i64 (n7:Int))).cell? ⟨v2.heap.size,6,none⟩=some (.slice ot9 nt9 ct9):=Q00 X9 6 _ rfl;have r8_0:=s9.cellP r0 (.inl hlr)
   have r8_1:=s9.cellP r1 (.inl hlr);have r8_2:=s9.cellP r2 (.inl hlr);have r8_3:=s9.cellP r3 (.inl hlr);have r8_4:=s9.cellP r4 (.inl hlr);have r8_5:=s9.cellP r5 (.inl hlr);have r8_6:=s9.cellP r6 (.inl hlr)
   have fr8_0:=Stp.frozen s9 fr0 (by omega) (.inl hlr)
   have fr8_1:=Stp.frozen s9 fr1 (by omega) (.inl hlr)
   have fr8_2:=Stp.frozen s9 fr2 (by omega) (.inl hlr)
   have fr8_3:=Stp.frozen s9 fr3 (by omega) (.inl hlr)
   have fr8_4:=Stp.frozen s9 fr4 (by omega) (.inl hlr)
   have fr8_5:=Stp.frozen s9 fr5 (by omega) (.inl hlr)
   have fr8_6:=Stp.frozen s9 fr6 (by omega) (.inl hlr)
   have HFI:Hid (OwBm w.heap.size (Q1Q ((w7.setCell ⟨v2.heap.size,1,none⟩ (.slice o7 n7 c7)).setCell ⟨v2.heap.size,2,none⟩ (.int .i64 (n7:Int))) (w.heap.size+1+1) (.int .i64 kj) (.slice o7 n7 c7) (.int .i64 (n7:Int)) (.int .i64 kp) (.slice o8 un c8) (.slice oR8 vn cR8) (.slice ot9 nt9 ct9)).heap.size (Q1Q ((w7.setCell ⟨v2.heap.size,1,none⟩ (.slice o7 n7 c7)).setCell ⟨v2.heap.size,2,none⟩ (.int .i64 (n7:Int))) (w.heap.size+1+1) (.int .i64 kj) (.slice o7 n7 c7) (.int .i64 (n7:Int)) (.int .i64 kp) (.slice o8 un c8) (.slice oR8 vn cR8) (.slice ot9 nt9 ct9)) (Q1d kj (.slice o7 n7 c7) (n7:Int) kp (.slice o8 un c8) (.slice oR8 vn cR8) (.slice ot9 nt9 ct9)) (Q8O ⟨⟨kj,lj,sj⟩,⟨kp,lb,lr⟩,lt⟩ k i gg)∧Below w.heap.size w (Q1Q ((w7.setCell ⟨v2.heap.size,1,none⟩ (.slice o7 n7 c7)).setCell ⟨v2.heap.size,2,none⟩ (.int .i64 (n7:Int))) (w.heap.size+1+1) (.int .i64 kj) (.slice o7 n7 c7) (.int .i64 (n7:Int)) (.int .i64 kp) (.slice o8 un c8) (.slice oR8 vn cR8) (.slice ot9 nt9 ct9))):=by
    have sR:=Q1a ((w7.setCell ⟨v2.heap.size,1,none⟩ (.slice o7 n7 c7)).setCell ⟨v2.heap.size,2,none⟩ (.int .i64 (n7:Int))) (w.heap.size+1+1) (.int .i64 kj) (.slice o7 n7 c7) (.int .i64 (n7:Int)) (.int .i64 kp) (.slice o8 un c8) (.slice oR8 vn cR8) (.slice ot9 nt9 ct9);have hz9:=s9.size
    have hszR:(Q1Q ((w7.setCell ⟨v2.heap.size,1,none⟩ (.slice o7 n7 c7)).setCell ⟨v2.heap.size,2,none⟩ (.int .i64 (n7:Int))) (w.heap.size+1+1) (.int .i64 kj) (.slice o7 n7 c7) (.int .i64 (n7:Int)) (.int .i64 kp) (.slice o8 un c8) (.slice oR8 vn cR8) (.slice ot9 nt9 ct9)).heap.size=((w7.setCell ⟨v2.heap.size,1,none⟩ (.slice o7 n7 c7)).setCell ⟨v2.heap.size,2,none⟩ (.int .i64 (n7:Int))).heap.size:=Q0F _ _ _ _ _ _ _ _ _
    rw [HCM.out]
    have rj:=InRow.of (World.ownsRow.kept (World.ownsRow.kept HO7.out (Q0D w7 v2.heap.size 1 (.slice o7 n7 c7)) (Q1P HO7.out HX7.out (by decide))) (Q0D _ v2.heap.size 2 (.int .i64 (n7:Int))) (Q1P (World.ownsRow.kept HO7.out (Q0D w7 v2.heap.size 1 (.slice o7 n7 c7)) (Q1P HO7.out HX7.out (by decide))) X8 (by decide)))
    have rj2:=InRow.step rj sR (.inl (by omega))
    have rp2:=(HQ7.out.step s9 (.inl (by omega))).step sR (.inl (by omega))
    have rt2:=InRow.step (InRow.step HT7.out s9 (.inr (Kaq _))) sR (.inl (by omega))
    obtain ⟨e1,e2⟩:=HN7.out;obtain ⟨e3,e4⟩:=HUV.out
    refine ⟨?_,Q0z (HB.out.trans (s9.below (by omega) HB.out.size)) (by omega) _ _ _ _ _ _ _⟩
    refine ⟨.slice o7 n7 c7,.slice o8 un c8,.slice oR8 vn cR8,.slice ot9 nt9 ct9, ?_,⟨_,rfl, ?_⟩, ?_,⟨_,rfl, ?_⟩⟩
    ·show Q1d kj _ _ kp _ _ _=Q1d kj _ ((lj.length:Int)+1) pr.key _ _ _
     rw [HPK.out,←e2]
    ·have h:=InRow.mono rj2 (show w.heap.size≤_ by omega) (show _≤(Q1Q ((w7.setCell ⟨v2.heap.size,1,none⟩ (.slice o7 n7 c7)).setCell ⟨v2.heap.size,2,none⟩ (.int .i64 (n7:Int))) (w.heap.size+1+1) (.int .i64 kj) (.slice o7 n7 c7) (.int .i64 (n7:Int)) (.int .i64 kp) (.slice o8 un c8) (.slice oR8 vn cR8) (.slice ot9 nt9 ct9)).heap.size by rw [hszR];exact Kaq _)
     exact h
    ·show RcPm _ _ _ (plv pr.key _ _) pr
     rw [HPK.out]
     have h:=rp2.mono (show w.heap.size≤_ by omega) (show v3.heap.size≤(Q1Q ((w7.setCell ⟨v2.heap.size,1,none⟩ (.slice o7 n7 c7)).setCell ⟨v2.heap.size,2,none⟩ (.int .i64 (n7:Int))) (w.heap.size+1+1) (.int .i64 kj) (.slice o7 n7 c7) (.int .i64 (n7:Int)) (.int .i64 kp) (.slice o8 un c8) (.slice oR8 vn cR8) (.slice ot9 nt9 ct9)).heap.size by rw [hszR];omega)
     exact Qhz HPK.out (rp2.mono (by omega) (show v3.heap.size≤(Q1Q ((w7.setCell ⟨v2.heap.size,1,none⟩ (.slice o7 n7 c7)).setCell ⟨v2.heap.size,2,none⟩ (.int .i64 (n7:Int))) (w.heap.size+1+1) (.int .i64 kj) (.slice o7 n7 c7) (.int .i64 (n7:Int)) (.int .i64 kp) (.slice o8 un c8) (.slice oR8 vn cR8) (.slice ot9 nt9 ct9)).heap.size by rw [hszR];omega))
    ·exact InRow.mono rt2 (by omega) (show v2.heap.size≤(Q1Q ((w7.setCell ⟨v2.heap.size,1,none⟩ (.slice o7 n7 c7)).setCell ⟨v2.heap.size,2,none⟩ (.int .i64 (n7:Int))) (w.heap.size+1+1) (.int .i64 kj) (.slice o7 n7 c7) (.int .i64 (n7:Int)) (.int .i64 kp) (.slice o8 un c8) (.slice oR8 vn cR8) (.slice ot9 nt9 ct9)).heap.size by rw [hszR];omega)
   clear X8 X9 s9 HO7 HT7 HQ7 HX7
   go_wp2
   refine bodyPost_ret (v:=.tuple #[Q1d kj (.slice o7 n7 c7) (n7:Int) kp (.slice o8 un c8) (.slice oR8 vn cR8) (.slice ot9 nt9 ct9),.bool true]) (by simp [results,Tryz.results128,go_sem,r0,r1,r2,r3,r4,r5,r6,r8_0,r8_1,r8_2,r8_3,r8_4,r8_5,r8_6]) rfl ⟨_,by rw [HN2.out],.inl ⟨HN2.out,HFI.out.1⟩,HFI.out.2⟩
end Go.Proofs.YtpneolgdghbinaaGreat
