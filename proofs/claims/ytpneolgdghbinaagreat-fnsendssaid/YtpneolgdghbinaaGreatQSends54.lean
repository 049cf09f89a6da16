/- For every code the law FnSends answers true: what is sent is at the first of its route, and is as old as nothing; where there is no route it is not sent. No conditions. -/
import Derived.Test.YtpneolgdghbinaaGreatQSends43
import Derived.Test.YtpneolgdghbinaaGreatQSends51
import Derived.Test.YtpneolgdghbinaaGreatQSends52
import Derived.Test.YtpneolgdghbinaaGreatQSends53
namespace Go.Proofs.YtpneolgdghbinaaGreat
open Go.ChangeShapes Go.WideShapes Go.ChangeAt Go.RowKit Go.Joins
set_option linter.unusedVariables false
set_option linter.unusedSimpArgs false
set_option maxRecDepth 100000
set_option maxHeartbeats 40000000
theorem Qhl {w:World} {a b f s:Int} {vl:Value} {og:Option Addr} {n cg:Nat} {pl st:Int} {m:Cm} (h:RdCm w.heap.size w (crr a b f s vl (.slice og n cg) pl st) m):RdG w og m.g:=by
 obtain ⟨vl',vg',e,_,o9,c9,e9,r⟩:=h
 simp only [Value.agg.injEq,Array.mk.injEq,List.cons.injEq,and_true,true_and,Value.int.injEq] at e
 obtain ⟨_,_,_,_,_,e6,_⟩:=e;subst e6
 injection e9 with e1 e2 e3
 subst e1
 exact Qhj.1 r
theorem QeF {m:Bm} {now a b f s:Int} {L:List Int} {n:Nat} (hn:n=L.length) (h:Q5t m now a b f s n=true):Q2R m now a b f s L=⟨a,b,f,s,L,Q3m m a b f s n,0,now⟩∧Q1F a b f s n (Q3m m a b f s n) 0 now=true∧Q28 a b a b=0:=by
 obtain ⟨h1,h2,h3⟩:=Qgs h
 refine ⟨?_,by rw [h2];exact h1,h3⟩
 rw [hn] at h h2 ⊢
 unfold Q2R
 rw [if_pos h,h2]
theorem Qfh {m:Bm} {now a b f s:Int} {L:List Int} {n:Nat} (hn:n=L.length) (h:Q5t m now a b f s n=false):Q2R m now a b f s L=cm0∧((Q3m m a b f s n).length=0∨now < 0∨100000 < now):=by
 refine ⟨?_,Qgp h⟩
 rw [hn] at h
 unfold Q2R
 rw [if_neg (by rw [h];decide)]
theorem QeM (o0:Option Addr) (cap:Nat) (l:List Int) (w:World) (hm:l.length≤maxLen) (hR:Rd w o0 l) (hB8:isB l):
  Calls Tryz.prog 4 #[.slice o0 l.length cap] w fun e w'=> e=.returned (.bool true)∧Below w.heap.size w w':=by
 have B_w:Below w.heap.size w w:=Below.refl _ _;have HDC:=Q02 (Q9K o0 cap l w hR hB8 hm);clear hR hB8 hm;have HB_:=Q02 B_w;clear B_w
 go_enter Tryz.func4,Tryz.ntmps4
 go_wp2_with fail
 have B_w:=HB_.out;clear HB_
 refine HDC.out.mono ?_
 rintro e w1 ⟨kj,o,nj,c,sj,kp,ob,np,cb,oR,nr,cR,ot,nt,ct,m,now,a,b,f,s,po,pn,pc,L,rfl,hv,hf,hpn,hpl,hpb,hb_w1⟩
 clear HDC;have B_w1:Below w.heap.size w w1:=B_w.trans (hb_w1.mono B_w.size);have hs_w1:w.heap.size≤w1.heap.size:=hb_w1.size;clear hb_w1 B_w;obtain ⟨lj,lb,lr,lt,em,hnj,hnt,r1,r1c,r2,r4,hfb⟩:=hv.use (Kaq _) hf;clear hv hf;have hcp:=InRow.cap hpb
 have hpr:Rd w1 po L:=by obtain ⟨o9,c9,e9,r9⟩:=(InL.rd (L:=QeC) hpb);injection e9 with e91 e92 e93;subst e91;exact Qhq.1 r9
 clear hpb
 have HS:=Q02 (fun W (hW:Below w1.heap.size w1 W)=> Q5Y kj o nj c sj kp ob np cb oR nr cR ot nt ct lj lb lr lt now a b f s po pn pc L W hnj hnt ((r1.kept hW (Kaq _)).le hW.size) r1c ((r2.kept hW (Kaq _)).le hW.size) ((r4.kept hW (Kaq _)).le hW.size) hfb hpn (hpr.kept hW) (fun e=> hcp _ _ (by rw [e])) (by omega))
 have HRt:=Q02 (fun W (hW:Below w1.heap.size w1 W)=> Q79 kj o nj c sj kp ob np cb oR nr cR ot nt ct lj lb lr lt a b f s po pn pc W hnj hnt ((r1.kept hW (Kaq _)).le hW.size) r1c ((r2.kept hW (Kaq _)).le hW.size) ((r4.kept hW (Kaq _)).le hW.size) hfb (Kdq (show pn≤2000 by omega) (by decide)))
 have hpn9:pn≤2000:=by omega
 rw [←em] at HS HRt
 rw [←hpn] at HS
 have HY:=Q02 (fun h=> QeF (m:=m) (now:=now) (a:=a) (b:=b) (f:=f) (s:=s) (L:=L) (n:=pn) hpn h)
 have HNo:=Q02 (fun h=> Qfh (m:=m) (now:=now) (a:=a) (b:=b) (f:=f) (s:=s) (L:=L) (n:=pn) hpn h)
 have hrl:=QaM m a b f s pn;obtain ⟨sb,hsb⟩:∃x,Q5t m now a b f s pn=x:=⟨_,rfl⟩;obtain ⟨mr,hmr⟩:∃x,Q2R m now a b f s L=x:=⟨_,rfl⟩;obtain ⟨rt,hrt⟩:∃x,Q3m m a b f s pn=x:=⟨_,rfl⟩
 rw [hsb,hmr] at HS HY HNo
 rw [hrt] at HRt HY HNo hrl
 have HPN:=Q02 hpn;clear hsb hmr hrt r1 r1c r2 r4 hfb hnj hnt em hpr hcp hpl hpn;obtain ⟨w2,hW_w2⟩:∃W,((w1.alloc (.cells #[.int .i64 kj,.slice o nj c,.int .i64 sj,.int .i64 kp,.slice ob np cb,.slice oR nr cR,.slice ot nt ct] 34)).alloc (.cells #[.int .i64 a,.int .i64 b,.int .i64 f,.int .i64 s,.slice po pn pc] 38))=W:=⟨_,rfl⟩
 have hb_w2:Below w1.heap.size w1 w2:=by rw [←hW_w2];exact (((Below.refl _ _).alloc (Kaq _) _).alloc (by simp <;> omega) _)
 have bxa:w2.heap[w1.heap.size]? =some (.cells #[.int .i64 kj,.slice o nj c,.int .i64 sj,.int .i64 kp,.slice ob np cb,.slice oR nr cR,.slice ot nt ct] 34 (0,0)):=by rw [←hW_w2];exact Q3E w1 _ _ _
 have bxp:w2.heap[w1.heap.size+1]? =some (.cells #[.int .i64 a,.int .i64 b,.int .i64 f,.int .i64 s,.slice po pn pc] 38 (0,0)):=by rw [←hW_w2];exact Q1N w1 _ _ _
 have hz_w2:w1.heap.size+1 < w2.heap.size:=by rw [←hW_w2];simp
 have hq:Below w1.heap.size w1 w2:=hb_w2;have B_w2:Below w.heap.size w w2:=B_w1.trans (hb_w2.mono B_w1.size);have hs_w2:w1.heap.size≤w2.heap.size:=hb_w2.size;clear hb_w2 B_w1;obtain ⟨bxac0,bxac1,bxac2,bxac3,bxac4,bxac5,bxac6⟩:=Q8M bxa;obtain ⟨bxpc0,bxpc1,bxpc2,bxpc3,bxpc4⟩:=Qak bxp;replace bxa:=Q02 bxa;replace bxp:=Q02 bxp;have HB_:=Q02 B_w2;clear B_w2;replace hq:=Q02 hq
 go_wp2_with fail
 clear bxac0 bxac1 bxac2 bxac3 bxac4 bxac5 bxac6;clear bxpc0 bxpc1 bxpc2 bxpc3 bxpc4;replace bxa:=bxa.out;replace bxp:=bxp.out;have B_w2:=HB_.out;clear HB_;replace hq:=hq.out;clear hW_w2
 refine (HS.out w2 hq).mono ?_
 rintro e w3 ⟨vc,rfl,inc,hb_w3⟩
 replace hq:=hq.trans (hb_w3.mono hq.size)
 replace bxa:=(hb_w3.block _ (by omega)).trans bxa
 replace bxp:=(hb_w3.block _ (by omega)).trans bxp
 have B_w3:Below w.heap.size w w3:=B_w2.trans (hb_w3.mono B_w2.size);have hs_w3:w2.heap.size≤w3.heap.size:=hb_w3.size;clear hb_w3 B_w2;obtain ⟨oc,cc,ogc,cgc,hve⟩:=inc.opn;subst hve;obtain ⟨w4,hW_w4⟩:∃W,w3.alloc (.cells #[.int .i64 mr.a,.int .i64 mr.b,.int .i64 mr.f,.int .i64 mr.s,.slice oc mr.l.length cc,.slice ogc mr.g.length cgc,.int .i64 mr.pl,.int .i64 mr.st] 58)=W:=⟨_,rfl⟩
 have bxc:w4.heap[w3.heap.size]? =some (.cells #[.int .i64 mr.a,.int .i64 mr.b,.int .i64 mr.f,.int .i64 mr.s,.slice oc mr.l.length cc,.slice ogc mr.g.length cgc,.int .i64 mr.pl,.int .i64 mr.st] 58 (0,0)):=by rw [←hW_w4];exact World.alloc_heap_new w3 _
 have hb_w4:Below w3.heap.size w3 w4:=by rw [←hW_w4];exact (Below.refl _ _).alloc (Kaq _) _
 have hz_w4:w3.heap.size < w4.heap.size:=by rw [←hW_w4];simp
 replace hq:=hq.trans (hb_w4.mono hq.size)
 replace bxa:=(hb_w4.block _ (by omega)).trans bxa
 replace bxp:=(hb_w4.block _ (by omega)).trans bxp
 replace inc:=inc.step (Stp.of (lo:=0) (hi:=0) hb_w4) (.inl (Kcq _));have B_w4:Below w.heap.size w w4:=B_w3.trans (hb_w4.mono B_w3.size);have hs_w4:w3.heap.size≤w4.heap.size:=hb_w4.size;clear hb_w4 B_w3;obtain ⟨bxac0,bxac1,bxac2,bxac3,bxac4,bxac5,bxac6⟩:=Q8M bxa;obtain ⟨bxpc0,bxpc1,bxpc2,bxpc3,bxpc4⟩:=Qak bxp;replace bxa:=Q02 bxa;replace bxp:=Q02 bxp;replace inc:=Q02 inc;replace bxc:=Q02 bxc;have HB_:=Q02 B_w4;clear B_w4;replace hq:=Q02 hq
 go_wp2_with fail
 clear bxac0 bxac1 bxac2 bxac3 bxac4 bxac5 bxac6;clear bxpc0 bxpc1 bxpc2 bxpc3 bxpc4;replace bxa:=bxa.out;replace bxp:=bxp.out;replace inc:=inc.out;replace bxc:=bxc.out;have B_w4:=HB_.out;clear HB_;replace hq:=hq.out;clear hW_w4
 refine (HRt.out w4 hq).mono ?_
 rintro e w5 ⟨vr,rfl,hown,hb_w5⟩
 replace hq:=hq.trans (hb_w5.mono hq.size)
 replace bxa:=(hb_w5.block _ (by omega)).trans bxa
 replace bxp:=(hb_w5.block _ (by omega)).trans bxp
 replace inc:=inc.step (Stp.of (lo:=0) (hi:=0) hb_w5) (.inl (Kcq _))
 replace bxc:=(hb_w5.block _ (by omega)).trans bxc
 have B_w5:Below w.heap.size w w5:=B_w4.trans (hb_w5.mono B_w4.size);have hs_w5:w4.heap.size≤w5.heap.size:=hb_w5.size;clear hb_w5 B_w4;obtain ⟨ogr,cgr,hve,_⟩:=hown.open;obtain ⟨rn,hrn⟩:∃x,rt.length=x:=⟨_,rfl⟩
 rw [hrn] at hve hrl
 subst hve;have HRN:=Q02 hrn;clear hown hrn HS HRt
 cases sb with
 |false=>
  obtain ⟨e1,e2⟩:=HNo.out rfl
  rw [HRN.out] at e2
  subst e1;clear HNo HY HRN hrl
  simp only [cm0,List.length_nil] at bxc inc
  clear inc
  by_cases h0:rn=0
  ·subst h0
   clear e2;obtain ⟨bxcc0,bxcc1,bxcc2,bxcc3,bxcc4,bxcc5,bxcc6,bxcc7⟩:=Q5q bxc;replace bxa:=Q02 bxa;replace bxp:=Q02 bxp;replace bxc:=Q02 bxc;have HB_:=Q02 B_w5;clear B_w5;replace hq:=Q02 hq
   go_wp2_with fail
   clear bxcc0 bxcc1 bxcc2 bxcc3 bxcc4 bxcc5 bxcc6 bxcc7;replace bxa:=bxa.out;replace bxp:=bxp.out;replace bxc:=bxc.out;have B_w5:=HB_.out;clear HB_;replace hq:=hq.out
   refine (Q2o _).mono ?_
   rintro e w6 ⟨rfl,hb_w6⟩
   replace hq:=hq.trans (hb_w6.mono hq.size)
   replace bxa:=(hb_w6.block _ (by omega)).trans bxa
   replace bxp:=(hb_w6.block _ (by omega)).trans bxp
   replace bxc:=(hb_w6.block _ (by omega)).trans bxc
   have B_w6:Below w.heap.size w w6:=B_w5.trans (hb_w6.mono B_w5.size);have hs_w6:w5.heap.size≤w6.heap.size:=hb_w6.size;clear hb_w6 B_w5;replace bxa:=Q02 bxa;replace bxp:=Q02 bxp;replace bxc:=Q02 bxc;have HB_:=Q02 B_w6;clear B_w6;replace hq:=Q02 hq
   go_wp2
   go_ret
   exact ⟨rfl,HB_.out⟩
  ·have h0':¬((rn:Int)=0):=by omega
   by_cases h1:now < 0
   ·skip
    clear e2 h0;obtain ⟨bxcc0,bxcc1,bxcc2,bxcc3,bxcc4,bxcc5,bxcc6,bxcc7⟩:=Q5q bxc;replace bxa:=Q02 bxa;replace bxp:=Q02 bxp;replace bxc:=Q02 bxc;have HB_:=Q02 B_w5;clear B_w5;replace hq:=Q02 hq
    go_wp2_with fail
    clear bxcc0 bxcc1 bxcc2 bxcc3 bxcc4 bxcc5 bxcc6 bxcc7;replace bxa:=bxa.out;replace bxp:=bxp.out;replace bxc:=bxc.out;have B_w5:=HB_.out;clear HB_;replace hq:=hq.out
    refine (Q2o _).mono ?_
    rintro e w6 ⟨rfl,hb_w6⟩
    replace hq:=hq.trans (hb_w6.mono hq.size)
    replace bxa:=(hb_w6.block _ (by omega)).trans bxa
    replace bxp:=(hb_w6.block _ (by omega)).trans bxp
    replace bxc:=(hb_w6.block _ (by omega)).trans bxc
    have B_w6:Below w.heap.size w w6:=B_w5.trans (hb_w6.mono B_w5.size);have hs_w6:w5.heap.size≤w6.heap.size:=hb_w6.size;clear hb_w6 B_w5;replace bxa:=Q02 bxa;replace bxp:=Q02 bxp;replace bxc:=Q02 bxc;have HB_:=Q02 B_w6;clear B_w6;replace hq:=Q02 hq
    go_wp2
    go_ret
    exact ⟨rfl,HB_.out⟩
   ·have h2:100000 < now:=by omega
    clear e2 h0;obtain ⟨bxcc0,bxcc1,bxcc2,bxcc3,bxcc4,bxcc5,bxcc6,bxcc7⟩:=Q5q bxc;replace bxa:=Q02 bxa;replace bxp:=Q02 bxp;replace bxc:=Q02 bxc;have HB_:=Q02 B_w5;clear B_w5;replace hq:=Q02 hq
    go_wp2_with fail
    clear bxcc0 bxcc1 bxcc2 bxcc3 bxcc4 bxcc5 bxcc6 bxcc7;replace bxa:=bxa.out;replace bxp:=bxp.out;replace bxc:=bxc.out;have B_w5:=HB_.out;clear HB_;replace hq:=hq.out
    refine (Q2o _).mono ?_
    rintro e w6 ⟨rfl,hb_w6⟩
    replace hq:=hq.trans (hb_w6.mono hq.size)
    replace bxa:=(hb_w6.block _ (by omega)).trans bxa
    replace bxp:=(hb_w6.block _ (by omega)).trans bxp
    replace bxc:=(hb_w6.block _ (by omega)).trans bxc
    have B_w6:Below w.heap.size w w6:=B_w5.trans (hb_w6.mono B_w5.size);have hs_w6:w5.heap.size≤w6.heap.size:=hb_w6.size;clear hb_w6 B_w5;replace bxa:=Q02 bxa;replace bxp:=Q02 bxp;replace bxc:=Q02 bxc;have HB_:=Q02 B_w6;clear B_w6;replace hq:=Q02 hq
    go_wp2
    go_ret
    exact ⟨rfl,HB_.out⟩
 |true=>
  obtain ⟨e1,e2,e3⟩:=HY.out rfl;subst e1
  dsimp only at bxc inc
  rw [HRN.out,←HPN.out] at bxc
  clear HY HNo
  have hG:RdG w5 ogc rt:=Qhl (inc.rd.le (by omega))
  have HC:=Q02 (Q3r a b f s oc ogc pn cc cgc rt 0 now w5 (Kdq hpn9 (by decide)) (by rw [HRN.out];exact Kdq hrl (by decide)) hG)
  rw [e2,HRN.out] at HC
  have HFC:=Q02 (fun W=> Q6J a b a b W)
  rw [e3] at HFC
  clear hG e2 e3 inc HRN;obtain ⟨bxcc0,bxcc1,bxcc2,bxcc3,bxcc4,bxcc5,bxcc6,bxcc7⟩:=Q5q bxc;replace bxa:=Q02 bxa;replace bxp:=Q02 bxp;replace bxc:=Q02 bxc;have HB_:=Q02 B_w5;clear B_w5;replace hq:=Q02 hq
  go_wp2_with fail
  clear bxcc0 bxcc1 bxcc2 bxcc3 bxcc4 bxcc5 bxcc6 bxcc7;replace bxa:=bxa.out;replace bxp:=bxp.out;replace bxc:=bxc.out;have B_w5:=HB_.out;clear HB_;replace hq:=hq.out
  refine HC.out.mono ?_
  rintro e w6 ⟨rfl,hb_w6⟩
  replace hq:=hq.trans (hb_w6.mono hq.size)
  replace bxa:=(hb_w6.block _ (by omega)).trans bxa
  replace bxp:=(hb_w6.block _ (by omega)).trans bxp
  replace bxc:=(hb_w6.block _ (by omega)).trans bxc
  have B_w6:Below w.heap.size w w6:=B_w5.trans (hb_w6.mono B_w5.size);have hs_w6:w5.heap.size≤w6.heap.size:=hb_w6.size;clear hb_w6 B_w5;clear HC;obtain ⟨bxcc0,bxcc1,bxcc2,bxcc3,bxcc4,bxcc5,bxcc6,bxcc7⟩:=Q5q bxc;obtain ⟨bxpc0,bxpc1,bxpc2,bxpc3,bxpc4⟩:=Qak bxp;replace bxa:=Q02 bxa;replace bxp:=Q02 bxp;replace bxc:=Q02 bxc;have HB_:=Q02 B_w6;clear B_w6;replace hq:=Q02 hq
  go_wp2_with fail
  clear bxcc0 bxcc1 bxcc2 bxcc3 bxcc4 bxcc5 bxcc6 bxcc7;clear bxpc0 bxpc1 bxpc2 bxpc3 bxpc4;replace bxa:=bxa.out;replace bxp:=bxp.out;replace bxc:=bxc.out;have B_w6:=HB_.out;clear HB_;replace hq:=hq.out
  refine (HFC.out _).mono ?_
  rintro e w7 ⟨rfl,hb_w7⟩
  replace hq:=hq.trans (hb_w7.mono hq.size)
  replace bxa:=(hb_w7.block _ (by omega)).trans bxa
  replace bxp:=(hb_w7.block _ (by omega)).trans bxp
  replace bxc:=(hb_w7.block _ (by omega)).trans bxc
  have B_w7:Below w.heap.size w w7:=B_w6.trans (hb_w7.mono B_w6.size);have hs_w7:w6.heap.size≤w7.heap.size:=hb_w7.size;clear hb_w7 B_w6;clear HFC;replace bxa:=Q02 bxa;replace bxp:=Q02 bxp;replace bxc:=Q02 bxc;have HB_:=Q02 B_w7;clear B_w7;replace hq:=Q02 hq
  go_wp2_with fail
  replace bxa:=bxa.out;replace bxp:=bxp.out;replace bxc:=bxc.out;have B_w7:=HB_.out;clear HB_;replace hq:=hq.out
  refine (Q2o _).mono ?_
  rintro e w8 ⟨rfl,hb_w8⟩
  replace hq:=hq.trans (hb_w8.mono hq.size)
  replace bxa:=(hb_w8.block _ (by omega)).trans bxa
  replace bxp:=(hb_w8.block _ (by omega)).trans bxp
  replace bxc:=(hb_w8.block _ (by omega)).trans bxc
  have B_w8:Below w.heap.size w w8:=B_w7.trans (hb_w8.mono B_w7.size);have hs_w8:w7.heap.size≤w8.heap.size:=hb_w8.size;clear hb_w8 B_w7;replace bxa:=Q02 bxa;replace bxp:=Q02 bxp;replace bxc:=Q02 bxc;have HB_:=Q02 B_w8;clear B_w8;replace hq:=Q02 hq
  go_wp2
  go_ret
  exact ⟨rfl,HB_.out⟩
theorem fnSends_lifted (os:Os) (started:os.Started) (H:Type) (enc:TypeId × Value→H):
  ReturnsInHanded {} Tryz.checked os 4 .any (Rows.fnSendsSpec.pre6 enc Tryz.prog Tryz.f4 Rows.fnSendsRow.domain false) (Rows.fnSendsSpec.post enc Tryz.prog Tryz.f4 false true false false):=by
 refine returnsInHanded_of_change (C:=Tryz.checked) own started (by kernel_rfl) Tryz.func4
  (ChangeSpec.witness6 (enc:=enc) (C:=Tryz.checked) false ⟨#[],#[.slice none 0 0],[]⟩ 8 (by kernel_rfl) (by kernel_rfl) (by kernel_rfl) (by kernel_rfl)) ?_
 intro W base args ds gs before hval0 hW hcnd _
 have hval:∀(j:Nat) t v,Tryz.f4.params[j]? =some t→args[j]? =some v→Value.okWide Tryz.prog W .any base t v:=hval0;have hW':=hW;obtain ⟨p,q,hA0,hV,rfl,hfz,hnd⟩:=hW
 have hA:DataW.TrodAll enc Tryz.prog W 0 (fun _=> true) true Tryz.f4.params.toList args.toList ds p:=hA0
 rw [Tryz.params4] at hA hval
 obtain ⟨v0,vs0,d0,ds0,p0,q0,hargs,rfl,rfl,h0,r0⟩:=trodAll_cons hA;obtain ⟨rfl,rfl,rfl⟩:=trodAll_nil r0
 obtain rfl:args=#[v0]:=by cases args;simp_all
 obtain ⟨rfl,rfl⟩:=trodVars_none hV;have k0:=h0
 have lt0:∀x∈p0,x.block < W.heap.size:=by obtain ⟨m,hm⟩:=k0;exact DataW.trod_lt m _ _ _ hm
 obtain ⟨o0,cap0,l0,rfl,hm0,hR0,hB80⟩:=QbX (hval 0 22 v0 rfl rfl) h0;clear hA0 hval0
 refine (QeM o0 cap0 l0 W hm0 hR0 hB80).mono fun e W' ⟨he,bel⟩=> ?_
 subst he
 exact ⟨_,rfl,_,_,_,[],_,[],hW',trodAll_mk1 (shut_bool Tryz.underlying4 _),(trodAll_cons_mk (Below.trod Qdy (by kernel_rfl) (of_decide_eq_true (by kernel_rfl)) k0 bel lt0) trodAll_mk0),rfl,bel.frame _,fun h=> by cases h⟩
theorem fnSends_over:Rows.fnSendsRow.holds Tryz.pinned (OpenSpec.ofChange Rows.fnSendsSpec):=
 OpenClaim.holds_of_wide 4 Tryz.f4 rfl rfl rfl rfl rfl rfl rfl ⟨rfl,rfl,rfl,rfl,rfl⟩ rfl rfl rfl rfl rfl (by kernel_rfl) Tryz.func4 (by kernel_rfl)
  (of_decide_eq_true (by kernel_rfl)) (by unfold Func.isWrapper;first|(rw [if_pos (by decide+kernel)];kernel_rfl)|(rw [if_neg (by decide+kernel)];exact ⟨rfl,rfl⟩))
  (fun os started H enc _=> fnSends_lifted os started H enc)
theorem fnSends_holds:Rows.FnSendsSaid:=fnSends_over
end Go.Proofs.YtpneolgdghbinaaGreat
