/- Several texts in one: SKOk, SKI1. -/
import Derived.Test.YtgplppfbinfelaaGreatQOldest39
import Derived.Test.YtgplppfbinfelaaGreatQOldest45
import Derived.Test.YtgplppfbinfelaaGreatQOldest46
namespace Go.Proofs.YtgplppfbinfelaaGreat
open Go.ChangeShapes Go.WideShapes Go.ChangeAt Go.RowKit Go.Joins
set_option linter.unusedVariables false
set_option linter.unusedSimpArgs false
set_option maxRecDepth 100000
set_option maxHeartbeats 40000000
theorem allTo_succ (f:Nat→Bool) (k:Nat):(List.range (k+1)).all f=((List.range k).all f && f k):=by rw [List.range_succ,List.all_append];simp
theorem allTo_no {f:Nat→Bool} {n k:Nat} (hk:k < n) (h:f k=false):(List.range n).all f=false:=by
 rw [List.all_eq_false]
 exact ⟨k,List.mem_range.2 hk,by rw [h];simp⟩
def agF (xs:List Am) (i:Nat):Bool:=agentOkB (xs.getD i amD) && decide ((xs.getD i amD).id=(i:Int))
def mailM (m:Mm):Bool:=mailB m.k m.c.a m.c.b m.c.f m.c.s m.c.l.length m.c.g m.c.pl m.c.st m.fa m.fp m.bk
def mlF (now:Int) (xs:List Mm) (i:Nat):Bool:=mailM (xs.getD i mmD) && decide ((xs.getD i mmD).c.st≤now)
def gotM (g:Gt):Bool:=flowOkB g.a g.p && decide (0≤g.bk) && decide (g.bk < 6) && decide (0≤g.sq) && decide (g.sq≤65535)
def gtF (xs:List Gt) (i:Nat):Bool:=gotM (xs.getD i gt0)
def headK (m:Km):Bool:=decide (0≤m.now) && decide (m.now≤99000) && balB m.bal && decide (m.ags.length=6) && decide (m.bag.length≤60) && decide (m.got.length≤1000) && decide (0≤m.rst) && decide (m.rst≤100000) && decide (0≤m.gone) && decide (m.gone≤100000)
def okK (m:Km):Bool:=headK m && (List.range m.ags.length).all (agF m.ags) && (List.range m.bag.length).all (mlF m.now m.bag) && (List.range m.got.length).all (gtF m.got)
theorem okK_head {m:Km} (h:headK m=false):okK m=false:=by simp [okK,h]
theorem okK_ags {m:Km} (h:(List.range m.ags.length).all (agF m.ags)=false):okK m=false:=by unfold okK;rw [h];simp
theorem okK_bag {m:Km} (h:(List.range m.bag.length).all (mlF m.now m.bag)=false):okK m=false:=by unfold okK;rw [h];simp
theorem okK_got {m:Km} (h:(List.range m.got.length).all (gtF m.got)=false):okK m=false:=by unfold okK;rw [h];simp
theorem okK_yes {m:Km} (h0:headK m=true) (h1:(List.range m.ags.length).all (agF m.ags)=true) (h2:(List.range m.bag.length).all (mlF m.now m.bag)=true) (h3:(List.range m.got.length).all (gtF m.got)=true):okK m=true:=by unfold okK;rw [h0,h1,h2,h3];rfl
theorem headK_iff {m:Km}:headK m=true↔(0≤m.now∧m.now≤99000∧balB m.bal=true∧m.ags.length=6∧m.bag.length≤60∧m.got.length≤1000∧0≤m.rst∧m.rst≤100000∧0≤m.gone∧m.gone≤100000):=by simp [headK,and_assoc]
theorem headK_no {m:Km} (h:¬(0≤m.now∧m.now≤99000∧balB m.bal=true∧m.ags.length=6∧m.bag.length≤60∧m.got.length≤1000∧0≤m.rst∧m.rst≤100000∧0≤m.gone∧m.gone≤100000)):okK m=false:=okK_head (Bool.eq_false_iff.2 (fun e=> h (headK_iff.1 e)))
theorem specBalOk_at {C:Nat} {v:Value} {m:Bm} {w:World} {lo hi:Nat} (h:InBm lo hi w v m) (hh:hi≤w.heap.size) (hf:fitB0 m) {w':World} (hb:Below w.heap.size w w'):
  Calls Tryz.prog 41 #[v] w' fun e w''=> e=.returned (.bool (balB m))∧Below w'.heap.size w' w'':=by
 have h':=h.step (Stp.of (lo:=0) (hi:=0) hb) (.inl (Nat.zero_le _))
 obtain ⟨o,c,ob,cb,oR,cR,ot,ct,rfl,r1,r2,r3,r4⟩:=balIn_open h' (Nat.le_trans hh hb.size)
 exact specBalOk_any m.j.key o m.j.l.length c m.j.safe m.p.key ob m.p.l.length cb oR m.p.ring.length cR ot m.t.length ct m.j.l m.p.l m.p.ring m.t w' rfl rfl r1 r2 r3 r4 hf
theorem specClusterOk_in (lo hi:Nat) (v:Value) (m:Km) (w:World) (h:InKm lo hi w v m) (hh:hi≤w.heap.size) (hf:fitKm m):
  Calls Tryz.prog 12 #[v] w fun e w'=> e=.returned (.bool (okK m))∧Below w.heap.size w w':=by
 obtain ⟨kj,o,nj,c,sf,kp,ob,np,cb,oR,nr,cR,ot,nt,ct,oa,na,ca,om,nm,cm,og,ng,cg,ev,r1,r2,r3,r4,ea,em,eg⟩:=(h.rd.le hh).opn
 have HBL:Hid (∀W,Below w.heap.size w W→Calls Tryz.prog 41 #[(balv kj (.slice o nj c) sf kp (.slice ob np cb) (.slice oR nr cR) (.slice ot nt ct))] W fun e w'=> e=.returned (.bool (balB m.bal))∧Below W.heap.size W w'):=fun W hb=> by
  obtain ⟨kj',vl,sf',kp',vb,vr,vt,va,vm,vg,b0,b1,a0,a1,m0,m1,g0,g1,e,k,i1,_⟩:=h
  rw [ev] at e
  simp only [Value.agg.injEq,Array.mk.injEq,List.cons.injEq,and_true,true_and,Value.int.injEq] at e
  obtain ⟨e1,e2,e3,e4,e5,e6,e7,_⟩:=e
  subst e1 e2 e3 e4 e5 e6 e7
  exact specBalOk_at (C:=0) i1 (by omega) hf.1 hb
 subst ev
 obtain ⟨f1,f2,f3,f4,f5⟩:=hf
 have HA:=hide (fun i hi=> fitA f2 i hi)
 have HM:=hide (fun i hi=> fitM f3 f5 i hi)
 have HR2:=hide r2
 have HR3:=hide r3
 have HR4:=hide r4
 have HE:=hide (And.intro ea (And.intro em eg))
 obtain ⟨now,hnow⟩:∃q,m.now=q:=⟨_,rfl⟩
 obtain ⟨rst,hrst⟩:∃q,m.rst=q:=⟨_,rfl⟩
 obtain ⟨gone,hgone⟩:∃q,m.gone=q:=⟨_,rfl⟩
 obtain ⟨bk,hbk⟩:∃q,balB m.bal=q:=⟨_,rfl⟩
 have HV:=hide (And.intro hnow (And.intro hrst (And.intro hgone hbk)))
 have HNO:Hid (¬(0≤now∧now≤99000∧bk=true∧na=6∧nm≤60∧ng≤1000∧0≤rst∧rst≤100000∧0≤gone∧gone≤100000)→okK m=false):=fun hn=> headK_no (by rw [hnow,hrst,hgone,hbk,←ea,←em,←eg];exact hn)
 have HYES:Hid ((0≤now∧now≤99000∧bk=true∧na=6∧nm≤60∧ng≤1000∧0≤rst∧rst≤100000∧0≤gone∧gone≤100000)→headK m=true):=fun hn=> headK_iff.2 (by rw [hnow,hrst,hgone,hbk,←ea,←em,←eg];exact hn)
 rw [hbk] at HBL
 rw [hnow,hrst,hgone]
 have bx:=World.alloc_heap_new w (.cells #[.int .i64 now,.int .i64 kj,.slice o nj c,.int .i64 sf,.int .i64 kp,.slice ob np cb,.slice oR nr cR,.slice ot nt ct,.slice oa na ca,.slice om nm cm,.slice og ng cg,.int .i64 rst,.int .i64 gone] 56)
 have hb0:Below w.heap.size w (w.alloc (.cells #[.int .i64 now,.int .i64 kj,.slice o nj c,.int .i64 sf,.int .i64 kp,.slice ob np cb,.slice oR nr cR,.slice ot nt ct,.slice oa na ca,.slice om nm cm,.slice og ng cg,.int .i64 rst,.int .i64 gone] 56)):=(Below.refl _ _).alloc (Nat.le_refl _) _
 obtain ⟨z0,z1,z2,z3,z4,z5,z6,z7,z8,z9,z10,z11,z12,_⟩:=bx13 bx
 have HX:=hide bx
 have HB:=hide hb0
 clear bx hb0 r1 r2 r3 r4 ea em eg f1 f2 f3 f4 f5 h hnow hrst hgone hbk
 by_cases t0:now < 0
 ·go_enter Tryz.func12,Tryz.ntmps12
  go_wp2
  go_ret
  exact ⟨by rw [HNO.out (by omega)];rfl,HB.out⟩
 by_cases t1:99000 < now
 ·go_enter Tryz.func12,Tryz.ntmps12
  go_wp2
  go_ret
  exact ⟨by rw [HNO.out (by omega)];rfl,HB.out⟩
 go_enter Tryz.func12,Tryz.ntmps12
 go_wp2_with fail
 generalize (w.alloc (.cells #[.int .i64 now,.int .i64 kj,.slice o nj c,.int .i64 sf,.int .i64 kp,.slice ob np cb,.slice oR nr cR,.slice ot nt ct,.slice oa na ca,.slice om nm cm,.slice og ng cg,.int .i64 rst,.int .i64 gone] 56))=W0 at *
 refine (HBL.out W0 HB.out).mono ?_
 rintro e w1 ⟨rfl,hb⟩
 replace HX:=hide (hp_on HX.out hb)
 replace HB:=hide (HB.out.trans (hb.mono HB.out.size))
 clear hb z0 z1 z2 z3 z4 z5 z6 z7 z8 z9 z10 z11 z12 HBL
 obtain ⟨z0,z1,z2,z3,z4,z5,z6,z7,z8,z9,z10,z11,z12,_⟩:=bx13 HX.out
 cases bk with
 |false=>
  go_wp2
  go_ret
  exact ⟨by rw [HNO.out (by simp)];rfl,HB.out⟩
 |true=>
  by_cases t2:¬((na:Int)=6)
  ·go_wp2
   go_ret
   exact ⟨by rw [HNO.out (by omega)];rfl,HB.out⟩
  by_cases t3:60 < (nm:Int)
  ·go_wp2
   go_ret
   exact ⟨by rw [HNO.out (by omega)];rfl,HB.out⟩
  by_cases t4:1000 < (ng:Int)
  ·go_wp2
   go_ret
   exact ⟨by rw [HNO.out (by omega)];rfl,HB.out⟩
  by_cases t5:rst < 0
  ·go_wp2
   go_ret
   exact ⟨by rw [HNO.out (by omega)];rfl,HB.out⟩
  by_cases t6:100000 < rst
  ·go_wp2
   go_ret
   exact ⟨by rw [HNO.out (by omega)];rfl,HB.out⟩
  by_cases t7:gone < 0
  ·go_wp2
   go_ret
   exact ⟨by rw [HNO.out (by omega)];rfl,HB.out⟩
  by_cases t8:100000 < gone
  ·go_wp2
   go_ret
   exact ⟨by rw [HNO.out (by omega)];rfl,HB.out⟩
  have HHD:=hide (HYES.out (by refine ⟨by omega,by omega,rfl,by omega,by omega,by omega,by omega,by omega,by omega,by omega⟩))
  go_wp2
  clear HNO HYES t0 t1 t2 t4 t5 t6 t7 t8 z0 z1 z2 z3 z4 z5 z6 z7 z8 z9 z10 z11 z12
  go_loopw [3] (fun iv wr=> ∃i:Nat,i≤na∧iv=.int .i64 (i:Int)∧Hid ((List.range i).all (agF m.ags)=true)∧Hid (wr.heap[w.heap.size]? =some (.cells #[.int .i64 now,.int .i64 kj,.slice o nj c,.int .i64 sf,.int .i64 kp,.slice ob np cb,.slice oR nr cR,.slice ot nt ct,.slice oa na ca,.slice om nm cm,.slice og ng cg,.int .i64 rst,.int .i64 gone] 56 (0,0)))∧Hid (Below w.heap.size w wr))
   (fun iv _=> na - (intOf iv).toNat)
  case atStart=> exact ⟨0,Nat.zero_le _,rfl,rfl,HX.out,HB.out⟩
  case round=>
   obtain ⟨i,hi,rfl,HALL,HX,HB⟩:=hrel
   by_cases hlt:i < na
   ·have y1:(i:Int) < (na:Int):=by omega
    obtain ⟨a,ha⟩:∃a,m.ags.getD i amD=a:=⟨_,rfl⟩
    have hil:i < m.ags.length:=by rw [←HE.out.1];exact hlt
    obtain ⟨b,off,o1,c1,o2,c2,hoa,hb,p0,p1,p2,p3,p4,rr,_⟩:=RiA.cells HR2.out i hil ha
    subst hoa
    have hfa:=HA.out i hil
    rw [ha] at hfa
    have HAO:=hide (specAgentOk_sh _ a wr (rr.on HB.out) hfa)
    replace p0:=bCA HB.out p0 hb
    replace p1:=bCA HB.out p1 hb
    replace p2:=bCA HB.out p2 hb
    replace p3:=bCA HB.out p3 hb
    replace p4:=bCA HB.out p4 hb
    obtain ⟨q1,hq1⟩:∃q,a.c.length=q:=⟨_,rfl⟩
    obtain ⟨q2,hq2⟩:∃q,a.t.length=q:=⟨_,rfl⟩
    rw [hq1,hq2] at HAO
    rw [hq1] at p3
    rw [hq2] at p4
    obtain ⟨B,hB⟩:∃B,agentOkB a=B:=⟨_,rfl⟩
    rw [hB] at HAO
    have HF:=hide (show agF m.ags i=(B && decide (a.id=(i:Int))) by unfold agF;rw [ha,hB])
    have hbw:b < wr.heap.size:=Nat.lt_of_lt_of_le hb HB.out.size
    obtain ⟨z0,z1,z2,z3,z4,z5,z6,z7,z8,z9,z10,z11,z12,_⟩:=bx13 HX.out
    clear z0 z1 z2 z3 z4 z5 z6 z7 z9 z10 z11 z12
    have P0:=hide p0
    clear hq1 hq2 hB ha hil hfa rr
    go_wp2_with fail
    refine HAO.out.mono ?_
    rintro e w2 ⟨rfl,hb2⟩
    replace HX:=hide (hp_on HX.out hb2)
    replace HB:=hide (HB.out.trans (hb2.mono HB.out.size))
    clear z8 p0 p1 p2 p3 p4 HAO
    have p0:=bCA hb2 P0.out hbw
    clear hb2 P0
    obtain ⟨z0,z1,z2,z3,z4,z5,z6,z7,z8,z9,z10,z11,z12,_⟩:=bx13 HX.out
    clear z0 z1 z2 z3 z4 z5 z6 z7 z9 z10 z11 z12
    cases B with
    |false=>
     go_wp2
     go_ret
     exact ⟨by rw [okK_ags (allTo_no (by rw [←HE.out.1];exact hlt) (by rw [HF.out];rfl))];rfl,HB.out⟩
    |true=>
     by_cases hid:a.id=(i:Int)
     ·have HS:Hid ((List.range (i+1)).all (agF m.ags)=true):=by unfold Hid;rw [allTo_succ,HALL.out,HF.out,hid];simp
      rw [hid] at p0
      go_wp2
      go_roundw
      case rel=> exact ⟨i+1,by omega,by go_num,HS.out,HX.out,HB.out⟩
      case measure=> simp [intOf];omega
     ·go_wp2
      go_ret
      exact ⟨by rw [okK_ags (allTo_no (by rw [←HE.out.1];exact hlt) (by rw [HF.out];simp [hid]))];rfl,HB.out⟩
   ·have e:i=na:=by omega
    have HAG:Hid ((List.range m.ags.length).all (agF m.ags)=true):=by unfold Hid;rw [←HE.out.1,←e];exact HALL.out
    have hnl:¬((i:Int) < (na:Int)):=by omega
    obtain ⟨z0,z1,z2,z3,z4,z5,z6,z7,z8,z9,z10,z11,z12,_⟩:=bx13 HX.out
    clear z0 z1 z2 z3 z4 z5 z6 z7 z9 z10 z11 z12
    go_wp2
    clear z8 hnl e HALL
    go_loopw [4] (fun iv wr=> ∃i:Nat,i≤nm∧iv=.int .i64 (i:Int)∧Hid ((List.range i).all (mlF now m.bag)=true)∧Hid (wr.heap[w.heap.size]? =some (.cells #[.int .i64 now,.int .i64 kj,.slice o nj c,.int .i64 sf,.int .i64 kp,.slice ob np cb,.slice oR nr cR,.slice ot nt ct,.slice oa na ca,.slice om nm cm,.slice og ng cg,.int .i64 rst,.int .i64 gone] 56 (0,0)))∧Hid (Below w.heap.size w wr))
     (fun iv _=> nm - (intOf iv).toNat)
    case atStart=> exact ⟨0,Nat.zero_le _,rfl,rfl,HX.out,HB.out⟩
    case round=>
     obtain ⟨i,hi,rfl,HALL,HX,HB⟩:=hrel
     by_cases hlt:i < nm
     ·have y1:(i:Int) < (nm:Int):=by omega
      obtain ⟨a,ha⟩:∃a,m.bag.getD i mmD=a:=⟨_,rfl⟩
      have hil:i < m.bag.length:=by rw [←HE.out.2.1];exact hlt
      obtain ⟨b,off,o1,c1,o2,c2,hom,hb,p0,p1,p2,p3,p4,p5,p6,p7,p8,p9,p10,p11,rr,_⟩:=RiM.cells HR3.out i hil ha
      subst hom
      have hfa:=HM.out i hil
      rw [ha] at hfa
      have HMO:Hid (∀W,Below w.heap.size w W→Calls Tryz.prog 43 #[mlv a.k a.c.a a.c.b a.c.f a.c.s (.slice o1 a.c.l.length c1) (.slice o2 a.c.g.length c2) a.c.pl a.c.st a.fa a.fp a.bk] W fun e w'=> e=.returned (.bool (mailM a))∧Below W.heap.size W w'):=fun W hW=> specMailOk_sh _ a W (rr.on hW) hfa
      replace p0:=bCA HB.out p0 hb
      replace p1:=bCA HB.out p1 hb
      replace p2:=bCA HB.out p2 hb
      replace p3:=bCA HB.out p3 hb
      replace p4:=bCA HB.out p4 hb
      replace p5:=bCA HB.out p5 hb
      replace p6:=bCA HB.out p6 hb
      replace p7:=bCA HB.out p7 hb
      replace p8:=bCA HB.out p8 hb
      replace p9:=bCA HB.out p9 hb
      replace p10:=bCA HB.out p10 hb
      replace p11:=bCA HB.out p11 hb
      obtain ⟨q1,hq1⟩:∃q,a.c.l.length=q:=⟨_,rfl⟩
      obtain ⟨q2,hq2⟩:∃q,a.c.g.length=q:=⟨_,rfl⟩
      rw [hq1,hq2] at HMO
      rw [hq1] at p5
      rw [hq2] at p6
      obtain ⟨B,hB⟩:∃B,mailM a=B:=⟨_,rfl⟩
      rw [hB] at HMO
      have HF:=hide (show mlF now m.bag i=(B && decide (a.c.st≤now)) by unfold mlF;rw [ha,hB])
      have hbw:b < wr.heap.size:=Nat.lt_of_lt_of_le hb HB.out.size
      have hPw:w.heap.size < wr.heap.size:=hp_lt HX.out
      obtain ⟨z0,z1,z2,z3,z4,z5,z6,z7,z8,z9,z10,z11,z12,_⟩:=bx13 HX.out
      clear z1 z2 z3 z4 z5 z6 z7 z8 z10 z11 z12
      clear hq1 hq2 hB ha hil hfa rr
      cases B with
      |false=>
       go_wp2
       refine wp_region_held_drew (S:=fun w'=> w'.cell? ⟨w.heap.size,9,none⟩=some (.slice (some ⟨b,off,none⟩) nm cm)∧w'.cell? ⟨w.heap.size,0,none⟩=some (.int .i64 now)∧w'.cell? ⟨b,off+i * 12,none⟩=some (.int .i64 a.k)∧w'.cell? ⟨b,off+i * 12+1,none⟩=some (.int .i64 a.c.a)∧w'.cell? ⟨b,off+i * 12+2,none⟩=some (.int .i64 a.c.b)∧w'.cell? ⟨b,off+i * 12+3,none⟩=some (.int .i64 a.c.f)∧w'.cell? ⟨b,off+i * 12+4,none⟩=some (.int .i64 a.c.s)∧w'.cell? ⟨b,off+i * 12+5,none⟩=some (.slice o1 q1 c1)∧w'.cell? ⟨b,off+i * 12+6,none⟩=some (.slice o2 q2 c2)∧w'.cell? ⟨b,off+i * 12+7,none⟩=some (.int .i64 a.c.pl)∧w'.cell? ⟨b,off+i * 12+8,none⟩=some (.int .i64 a.c.st)∧w'.cell? ⟨b,off+i * 12+9,none⟩=some (.int .i64 a.fa)∧w'.cell? ⟨b,off+i * 12+10,none⟩=some (.int .i64 a.fp)∧w'.cell? ⟨b,off+i * 12+11,none⟩=some (.int .i64 a.bk)) (by kernel_rfl) ?hS (fun hHeld=> ?rest)
       case hS=> (try dsimp only);exact ⟨z9,z0,p0,p1,p2,p3,p4,p5,p6,p7,p8,p9,p10,p11⟩
       case rest=>
       refine wpAnyH_take (i:=0) (v:= ?v0) rfl (by kernel_rfl) (by kernel_rfl) (by kernel_rfl) (fun _ _ _ h=> h) (Or.inl ⟨by rfl, ?hy0⟩) (by assumption) ?rest0
       case hy0=> (intro W hSw;(try dsimp only at hSw);go_simp;try with_reducible rfl)
       case rest0=>
       try simp only [List.getElem_toArray,List.getElem_cons_zero,List.getElem_cons_succ,Act.put,List.setIfInBounds_toArray,List.set_cons_zero,List.set_cons_succ]
       refine wpAnyH_take (i:=1) (v:= ?v1) rfl (by kernel_rfl) (by kernel_rfl) (by kernel_rfl) (fun _ _ _ h=> h) (Or.inl ⟨by rfl, ?hy1⟩) (by assumption) ?rest1
       case hy1=> (intro W hSw;(try dsimp only at hSw);go_simp;try with_reducible rfl)
       case rest1=>
       try simp only [List.getElem_toArray,List.getElem_cons_zero,List.getElem_cons_succ,Act.put,List.setIfInBounds_toArray,List.set_cons_zero,List.set_cons_succ]
       refine wpAnyH_take (i:=2) (v:= ?v2) rfl (by kernel_rfl) (by kernel_rfl) (by kernel_rfl) (fun _ _ _ h=> h) (Or.inl ⟨by rfl, ?hy2⟩) (by assumption) ?rest2
       case hy2=> (intro W hSw;(try dsimp only at hSw);go_simp;try with_reducible rfl)
       case rest2=>
       try simp only [List.getElem_toArray,List.getElem_cons_zero,List.getElem_cons_succ,Act.put,List.setIfInBounds_toArray,List.set_cons_zero,List.set_cons_succ]
       refine wpAnyH_take (i:=3) (v:= ?v3) rfl (by kernel_rfl) (by kernel_rfl) (by kernel_rfl) (fun _ _ _ h=> h) (Or.inl ⟨by rfl, ?hy3⟩) (by assumption) ?rest3
       case hy3=> (intro W hSw;(try dsimp only at hSw);go_simp;try with_reducible rfl)
       case rest3=>
       try simp only [List.getElem_toArray,List.getElem_cons_zero,List.getElem_cons_succ,Act.put,List.setIfInBounds_toArray,List.set_cons_zero,List.set_cons_succ]
       refine wpAnyH_take (i:=4) (v:= ?v4) rfl (by kernel_rfl) (by kernel_rfl) (by kernel_rfl) (fun _ _ _ h=> h) (Or.inl ⟨by rfl, ?hy4⟩) (by assumption) ?rest4
       case hy4=> (intro W hSw;(try dsimp only at hSw);go_simp;try with_reducible rfl)
       case rest4=>
       try simp only [List.getElem_toArray,List.getElem_cons_zero,List.getElem_cons_succ,Act.put,List.setIfInBounds_toArray,List.set_cons_zero,List.set_cons_succ]
       refine wpAnyH_ready (rs:=[5]) (by kernel_rfl) (by simp) ?_
       refine AllReadyH.cons rfl (fun K hK=> ?_) AllReadyH.nil
       go_simp
       go_at_call 43
       refine (HMO.out _ (Below.drew HB.out)).mono ?_
       rintro e w2 ⟨rfl,hb3⟩
       replace hb3:Below wr.heap.size wr w2:=(Below.drew (Below.refl _ _)).trans hb3
       have z9:=bCA hb3 z9 hPw;have z0:=bCA hb3 z0 hPw;have p0:=bCA hb3 p0 hbw;have p1:=bCA hb3 p1 hbw;have p2:=bCA hb3 p2 hbw;have p3:=bCA hb3 p3 hbw;have p4:=bCA hb3 p4 hbw;have p5:=bCA hb3 p5 hbw;have p6:=bCA hb3 p6 hbw;have p7:=bCA hb3 p7 hbw;have p8:=bCA hb3 p8 hbw;have p9:=bCA hb3 p9 hbw;have p10:=bCA hb3 p10 hbw;have p11:=bCA hb3 p11 hbw
       go_wp2_with fail
       refine hK.out _ _ ?hS2 (fun hHeld2=> ?restK)
       case hS2=> (try dsimp only);exact ⟨z9,z0,p0,p1,p2,p3,p4,p5,p6,p7,p8,p9,p10,p11⟩
       case restK=>
       clear hK K hHeld
       try simp only [List.getElem_toArray,List.getElem_cons_zero,List.getElem_cons_succ,Act.put,List.setIfInBounds_toArray,List.set_cons_zero,List.set_cons_succ]
       refine wpAnyH_take (i:=6) (v:= ?v6) rfl (by kernel_rfl) (by kernel_rfl) (by kernel_rfl) (fun _ _ _ h=> h) (Or.inl ⟨by rfl, ?hy6⟩) (by assumption) ?rest6
       case hy6=> (intro W hSw;(try dsimp only at hSw);go_simp;try with_reducible rfl)
       case rest6=>
       try simp only [List.getElem_toArray,List.getElem_cons_zero,List.getElem_cons_succ,Act.put,List.setIfInBounds_toArray,List.set_cons_zero,List.set_cons_succ]
       refine wpAnyH_take (i:=7) (v:= ?v7) rfl (by kernel_rfl) (by kernel_rfl) (by kernel_rfl) (fun _ _ _ h=> h) (Or.inl ⟨by rfl, ?hy7⟩) (by assumption) ?rest7
       case hy7=> (intro W hSw;(try dsimp only at hSw);go_simp;try with_reducible rfl)
       case rest7=>
       try simp only [List.getElem_toArray,List.getElem_cons_zero,List.getElem_cons_succ,Act.put,List.setIfInBounds_toArray,List.set_cons_zero,List.set_cons_succ]
       refine wpAnyH_take (i:=8) (v:=undef) rfl (by kernel_rfl) (by kernel_rfl) (by kernel_rfl) (fun _ _ _ h=> h) (Or.inr ⟨by go_simp,rfl⟩) (by assumption) ?_
       try simp only [List.getElem_toArray,List.getElem_cons_zero,List.getElem_cons_succ,Act.put,List.setIfInBounds_toArray,List.set_cons_zero,List.set_cons_succ]
       refine wpAnyH_take (i:=9) (v:=undef) rfl (by kernel_rfl) (by kernel_rfl) (by kernel_rfl) (fun _ _ _ h=> h) (Or.inr ⟨by go_simp,rfl⟩) (by assumption) ?_
       try simp only [List.getElem_toArray,List.getElem_cons_zero,List.getElem_cons_succ,Act.put,List.setIfInBounds_toArray,List.set_cons_zero,List.set_cons_succ]
       refine wpAnyH_take (i:=10) (v:=undef) rfl (by kernel_rfl) (by kernel_rfl) (by kernel_rfl) (fun _ _ _ h=> h) (Or.inr ⟨by go_simp,rfl⟩) (by assumption) ?_
       try simp only [List.getElem_toArray,List.getElem_cons_zero,List.getElem_cons_succ,Act.put,List.setIfInBounds_toArray,List.set_cons_zero,List.set_cons_succ]
       refine wpAnyH_take (i:=11) (v:=undef) rfl (by kernel_rfl) (by kernel_rfl) (by kernel_rfl) (fun _ _ _ h=> h) (Or.inr ⟨by go_simp,rfl⟩) (by assumption) ?_
       try simp only [List.getElem_toArray,List.getElem_cons_zero,List.getElem_cons_succ,Act.put,List.setIfInBounds_toArray,List.set_cons_zero,List.set_cons_succ]
       refine wpAnyH_take (i:=12) (v:=undef) rfl (by kernel_rfl) (by kernel_rfl) (by kernel_rfl) (fun _ _ _ h=> h) (Or.inr ⟨by go_simp,rfl⟩) (by assumption) ?_
       try simp only [List.getElem_toArray,List.getElem_cons_zero,List.getElem_cons_succ,Act.put,List.setIfInBounds_toArray,List.set_cons_zero,List.set_cons_succ]
       refine wpAnyH_take (i:=13) (v:=undef) rfl (by kernel_rfl) (by kernel_rfl) (by kernel_rfl) (fun _ _ _ h=> h) (Or.inr ⟨by go_simp,rfl⟩) (by assumption) ?_
       try simp only [List.getElem_toArray,List.getElem_cons_zero,List.getElem_cons_succ,Act.put,List.setIfInBounds_toArray,List.set_cons_zero,List.set_cons_succ]
       refine wpAnyH_take (i:=14) (v:=undef) rfl (by kernel_rfl) (by kernel_rfl) (by kernel_rfl) (fun _ _ _ h=> h) (Or.inr ⟨by go_simp,rfl⟩) (by assumption) ?_
       try simp only [List.getElem_toArray,List.getElem_cons_zero,List.getElem_cons_succ,Act.put,List.setIfInBounds_toArray,List.set_cons_zero,List.set_cons_succ]
       refine wpAnyH_take (i:=15) (v:=undef) rfl (by kernel_rfl) (by kernel_rfl) (by kernel_rfl) (fun _ _ _ h=> h) (Or.inr ⟨by go_simp,rfl⟩) (by assumption) ?_
       try simp only [List.getElem_toArray,List.getElem_cons_zero,List.getElem_cons_succ,Act.put,List.setIfInBounds_toArray,List.set_cons_zero,List.set_cons_succ]
       refine wpAnyH_take (i:=16) (v:=undef) rfl (by kernel_rfl) (by kernel_rfl) (by kernel_rfl) (fun _ _ _ h=> h) (Or.inr ⟨by go_simp,rfl⟩) (by assumption) ?_
       try simp only [List.getElem_toArray,List.getElem_cons_zero,List.getElem_cons_succ,Act.put,List.setIfInBounds_toArray,List.set_cons_zero,List.set_cons_succ]
       refine wpAnyH_take (i:=17) (v:=undef) rfl (by kernel_rfl) (by kernel_rfl) (by kernel_rfl) (fun _ _ _ h=> h) (Or.inr ⟨by go_simp,rfl⟩) (by assumption) ?_
       try simp only [List.getElem_toArray,List.getElem_cons_zero,List.getElem_cons_succ,Act.put,List.setIfInBounds_toArray,List.set_cons_zero,List.set_cons_succ]
       refine wpAnyH_take (i:=18) (v:= ?v18) rfl (by kernel_rfl) (by kernel_rfl) (by kernel_rfl) (fun _ _ _ h=> h) (Or.inl ⟨by rfl, ?hy18⟩) (by assumption) ?rest18
       case hy18=> (intro W hSw;(try dsimp only at hSw);go_simp;try with_reducible rfl)
       case rest18=>
       try simp only [List.getElem_toArray,List.getElem_cons_zero,List.getElem_cons_succ,Act.put,List.setIfInBounds_toArray,List.set_cons_zero,List.set_cons_succ]
       refine wpAnyH_done (by kernel_rfl) ?_ _
       replace HB:=hide (HB.out.trans (hb3.mono HB.out.size))
       go_wp2
       go_ret
       exact ⟨by rw [okK_bag (allTo_no (by rw [←HE.out.2.1];exact hlt) (by rw [HV.out.1,HF.out];rfl))];rfl,HB.out⟩
      |true=>
       by_cases hst:now < a.c.st
       ·go_wp2
        go_region_held3 (fun w'=> w'.cell? ⟨w.heap.size,9,none⟩=some (.slice (some ⟨b,off,none⟩) nm cm)∧w'.cell? ⟨w.heap.size,0,none⟩=some (.int .i64 now)∧w'.cell? ⟨b,off+i * 12,none⟩=some (.int .i64 a.k)∧w'.cell? ⟨b,off+i * 12+1,none⟩=some (.int .i64 a.c.a)∧w'.cell? ⟨b,off+i * 12+2,none⟩=some (.int .i64 a.c.b)∧w'.cell? ⟨b,off+i * 12+3,none⟩=some (.int .i64 a.c.f)∧w'.cell? ⟨b,off+i * 12+4,none⟩=some (.int .i64 a.c.s)∧w'.cell? ⟨b,off+i * 12+5,none⟩=some (.slice o1 q1 c1)∧w'.cell? ⟨b,off+i * 12+6,none⟩=some (.slice o2 q2 c2)∧w'.cell? ⟨b,off+i * 12+7,none⟩=some (.int .i64 a.c.pl)∧w'.cell? ⟨b,off+i * 12+8,none⟩=some (.int .i64 a.c.st)∧w'.cell? ⟨b,off+i * 12+9,none⟩=some (.int .i64 a.fa)∧w'.cell? ⟨b,off+i * 12+10,none⟩=some (.int .i64 a.fp)∧w'.cell? ⟨b,off+i * 12+11,none⟩=some (.int .i64 a.bk)) (first|exact ⟨z9,z0,p0,p1,p2,p3,p4,p5,p6,p7,p8,p9,p10,p11⟩) (first|(go_at_call 43;refine (HMO.out _ (Below.drew HB.out)).mono ?_;rintro e w2 ⟨rfl,hb3⟩;replace hb3:Below wr.heap.size wr w2:=(Below.drew (Below.refl _ _)).trans hb3;have z9:=bCA hb3 z9 hPw;have z0:=bCA hb3 z0 hPw;have p0:=bCA hb3 p0 hbw;have p1:=bCA hb3 p1 hbw;have p2:=bCA hb3 p2 hbw;have p3:=bCA hb3 p3 hbw;have p4:=bCA hb3 p4 hbw;have p5:=bCA hb3 p5 hbw;have p6:=bCA hb3 p6 hbw;have p7:=bCA hb3 p7 hbw;have p8:=bCA hb3 p8 hbw;have p9:=bCA hb3 p9 hbw;have p10:=bCA hb3 p10 hbw;have p11:=bCA hb3 p11 hbw))
        replace HB:=hide (HB.out.trans (hb3.mono HB.out.size))
        go_wp2
        go_ret
        exact ⟨by rw [okK_bag (allTo_no (by rw [←HE.out.2.1];exact hlt) (by rw [HV.out.1,HF.out];simp;omega))];rfl,HB.out⟩
       ·have HS:Hid ((List.range (i+1)).all (mlF now m.bag)=true):=by unfold Hid;rw [allTo_succ,HALL.out,HF.out];simp;omega
        go_wp2
        go_region_held3 (fun w'=> w'.cell? ⟨w.heap.size,9,none⟩=some (.slice (some ⟨b,off,none⟩) nm cm)∧w'.cell? ⟨w.heap.size,0,none⟩=some (.int .i64 now)∧w'.cell? ⟨b,off+i * 12,none⟩=some (.int .i64 a.k)∧w'.cell? ⟨b,off+i * 12+1,none⟩=some (.int .i64 a.c.a)∧w'.cell? ⟨b,off+i * 12+2,none⟩=some (.int .i64 a.c.b)∧w'.cell? ⟨b,off+i * 12+3,none⟩=some (.int .i64 a.c.f)∧w'.cell? ⟨b,off+i * 12+4,none⟩=some (.int .i64 a.c.s)∧w'.cell? ⟨b,off+i * 12+5,none⟩=some (.slice o1 q1 c1)∧w'.cell? ⟨b,off+i * 12+6,none⟩=some (.slice o2 q2 c2)∧w'.cell? ⟨b,off+i * 12+7,none⟩=some (.int .i64 a.c.pl)∧w'.cell? ⟨b,off+i * 12+8,none⟩=some (.int .i64 a.c.st)∧w'.cell? ⟨b,off+i * 12+9,none⟩=some (.int .i64 a.fa)∧w'.cell? ⟨b,off+i * 12+10,none⟩=some (.int .i64 a.fp)∧w'.cell? ⟨b,off+i * 12+11,none⟩=some (.int .i64 a.bk)) (first|exact ⟨z9,z0,p0,p1,p2,p3,p4,p5,p6,p7,p8,p9,p10,p11⟩) (first|(go_at_call 43;refine (HMO.out _ (Below.drew HB.out)).mono ?_;rintro e w2 ⟨rfl,hb3⟩;replace hb3:Below wr.heap.size wr w2:=(Below.drew (Below.refl _ _)).trans hb3;have z9:=bCA hb3 z9 hPw;have z0:=bCA hb3 z0 hPw;have p0:=bCA hb3 p0 hbw;have p1:=bCA hb3 p1 hbw;have p2:=bCA hb3 p2 hbw;have p3:=bCA hb3 p3 hbw;have p4:=bCA hb3 p4 hbw;have p5:=bCA hb3 p5 hbw;have p6:=bCA hb3 p6 hbw;have p7:=bCA hb3 p7 hbw;have p8:=bCA hb3 p8 hbw;have p9:=bCA hb3 p9 hbw;have p10:=bCA hb3 p10 hbw;have p11:=bCA hb3 p11 hbw))
        replace HB:=hide (HB.out.trans (hb3.mono HB.out.size))
        replace HX:=hide (hp_on HX.out hb3)
        clear hb3 z0 z9 p0 p1 p2 p3 p4 p5 p6 p7 p8 p9 p10 p11
        go_wp2
        go_roundw
        case rel=> exact ⟨i+1,by omega,by go_num,HS.out,HX.out,HB.out⟩
        case measure=> simp [intOf];omega
     ·have e:i=nm:=by omega
      have HBG:Hid ((List.range m.bag.length).all (mlF now m.bag)=true):=by unfold Hid;rw [←HE.out.2.1,←e];exact HALL.out
      have hnl:¬((i:Int) < (nm:Int)):=by omega
      obtain ⟨z0,z1,z2,z3,z4,z5,z6,z7,z8,z9,z10,z11,z12,_⟩:=bx13 HX.out
      clear z0 z1 z2 z3 z4 z5 z6 z7 z8 z10 z11 z12
      go_wp2
      clear z9 hnl e HALL
      go_loopw [5] (fun iv wr=> ∃i:Nat,i≤ng∧iv=.int .i64 (i:Int)∧Hid ((List.range i).all (gtF m.got)=true)∧Hid (wr.heap[w.heap.size]? =some (.cells #[.int .i64 now,.int .i64 kj,.slice o nj c,.int .i64 sf,.int .i64 kp,.slice ob np cb,.slice oR nr cR,.slice ot nt ct,.slice oa na ca,.slice om nm cm,.slice og ng cg,.int .i64 rst,.int .i64 gone] 56 (0,0)))∧Hid (Below w.heap.size w wr))
       (fun iv _=> ng - (intOf iv).toNat)
      case atStart=> exact ⟨0,Nat.zero_le _,rfl,rfl,HX.out,HB.out⟩
      case round=>
       obtain ⟨i,hi,rfl,HALL,HX,HB⟩:=hrel
       by_cases hlt:i < ng
       ·have y1:(i:Int) < (ng:Int):=by omega
        have hil:i < m.got.length:=by rw [←HE.out.2.2];exact hlt
        obtain ⟨a,ha⟩:∃a,m.got.getD i gt0=a:=⟨_,rfl⟩
        obtain ⟨o',c',eg',rg⟩:=HR4.out
        injection eg' with eg1 eg2 eg3
        clear eg2 eg3
        subst eg1
        rcases rg with rg|⟨b,off,hog,hb,rg⟩
        ·rw [rg] at hil;exact absurd hil (Nat.not_lt_zero _)
        subst hog
        obtain ⟨p0,p1,p2,p3⟩:=RdL.gt (C:=w.heap.size) rg i hil
        rw [ha] at p0 p1 p2 p3
        replace p0:=bCA HB.out p0 hb
        replace p1:=bCA HB.out p1 hb
        replace p2:=bCA HB.out p2 hb
        replace p3:=bCA HB.out p3 hb
        have HF:=hide (show gtF m.got i=gotM a by unfold gtF;rw [ha])
        have hbw:b < wr.heap.size:=Nat.lt_of_lt_of_le hb HB.out.size
        have bg:=World.alloc_heap_new wr (.cells #[.int .i64 a.a,.int .i64 a.p,.int .i64 a.bk,.int .i64 a.sq] 98)
        have hba:Below wr.heap.size wr (wr.alloc (.cells #[.int .i64 a.a,.int .i64 a.p,.int .i64 a.bk,.int .i64 a.sq] 98)):=(Below.refl _ _).alloc (Nat.le_refl _) _
        have g0:=block_cell1 bg 0 _ rfl
        have g1:=block_cell1 bg 1 _ rfl
        have HBG2:=hide bg
        have HBA:=hide hba
        obtain ⟨z0,z1,z2,z3,z4,z5,z6,z7,z8,z9,z10,z11,z12,_⟩:=bx13 HX.out
        clear z0 z1 z2 z3 z4 z5 z6 z7 z8 z9 z11 z12
        clear ha hil rg bg hba
        go_wp2_with fail
        have HG2:=HBG2.out
        have HA2:=HBA.out
        clear HBG2 HBA g0 g1 z10 p0 p1 p2 p3
        generalize wr.alloc (.cells #[.int .i64 a.a,.int .i64 a.p,.int .i64 a.bk,.int .i64 a.sq] 98)=w2 at *
        refine (specFlowOk_any a.a a.p w2).mono ?_
        rintro e w3 ⟨rfl,hb3⟩
        have bg3:=hp_on HG2 hb3
        replace HX:=hide (hp_on (hp_on HX.out HA2) hb3)
        replace HB:=hide ((HB.out.trans (HA2.mono HB.out.size)).trans (hb3.mono (Nat.le_trans HB.out.size HA2.size)))
        have g2:=block_cell1 bg3 2 _ rfl
        have g3:=block_cell1 bg3 3 _ rfl
        clear hb3 HG2 HA2 bg3
        obtain ⟨fo,hfo⟩:∃q,flowOkB a.a a.p=q:=⟨_,rfl⟩
        rw [hfo]
        have HF2:=hide (show gtF m.got i=(fo && decide (0≤a.bk) && decide (a.bk < 6) && decide (0≤a.sq) && decide (a.sq≤65535)) by rw [HF.out];unfold gotM;rw [hfo])
        clear hfo HF
        have HFIN:Hid (gtF m.got i=false→okK m=false):=fun hf=> okK_got (allTo_no (by rw [←HE.out.2.2];exact hlt) hf)
        cases fo with
        |false=>
         go_wp2
         go_ret
         exact ⟨by rw [HFIN.out (by rw [HF2.out];rfl)];rfl,HB.out⟩
        |true=>
         by_cases u0:a.bk < 0
         ·go_wp2
          go_ret
          exact ⟨by rw [HFIN.out (by rw [HF2.out];simp;omega)];rfl,HB.out⟩
         by_cases u1:6≤a.bk
         ·go_wp2
          go_ret
          exact ⟨by rw [HFIN.out (by rw [HF2.out];simp;omega)];rfl,HB.out⟩
         by_cases u2:a.sq < 0
         ·go_wp2
          go_ret
          exact ⟨by rw [HFIN.out (by rw [HF2.out];simp;omega)];rfl,HB.out⟩
         by_cases u3:65535 < a.sq
         ·go_wp2
          go_ret
          exact ⟨by rw [HFIN.out (by rw [HF2.out];simp;omega)];rfl,HB.out⟩
         have HS:Hid ((List.range (i+1)).all (gtF m.got)=true):=by unfold Hid;rw [allTo_succ,HALL.out,HF2.out];simp;omega
         go_wp2
         go_roundw
         case rel=> first|exact ⟨i+1,by omega,by go_num,HS.out,HX.out,HB.out⟩|((repeat apply Exists.intro);refine ⟨?_,rfl⟩;exact ⟨i+1,by omega,by go_num,HS.out,HX.out,HB.out⟩)|((repeat apply Exists.intro);exact ⟨⟨i+1,by omega,by go_num,HS.out,HX.out,HB.out⟩,rfl⟩)
         case measure=> simp [intOf];omega
       ·have e:i=ng:=by omega
        have HGT:Hid ((List.range m.got.length).all (gtF m.got)=true):=by unfold Hid;rw [←HE.out.2.2,←e];exact HALL.out
        have hnl:¬((i:Int) < (ng:Int)):=by omega
        obtain ⟨z0,z1,z2,z3,z4,z5,z6,z7,z8,z9,z10,z11,z12,_⟩:=bx13 HX.out
        clear z0 z1 z2 z3 z4 z5 z6 z7 z8 z9 z11 z12
        go_wp2
        go_ret
        exact ⟨by rw [okK_yes HHD.out HAG.out (by rw [HV.out.1];exact HBG.out) HGT.out];rfl,HB.out⟩
structure Gh where
 c:Hd
 t:Hd
 id:Int
 lim:Int
 dr:Bool
def layGh:Lay Gh:=⟨5,fun h=> [.slice h.c.1 h.c.2.1 h.c.2.2,.slice h.t.1 h.t.2.1 h.t.2.2,.int .i64 h.id,.int .i64 h.lim,.bool h.dr],⟨(none,0,0),(none,0,0),0,0,false⟩,fun _=> rfl⟩
abbrev valG (h:Gh):Value:=agi (.slice h.c.1 h.c.2.1 h.c.2.2) (.slice h.t.1 h.t.2.1 h.t.2.2) h.id h.lim h.dr
def RiG (lo hi:Nat) (w:World) (v:Value) (m:Am):Prop:=∃o1 c1 o2 c2,v=agi (.slice o1 m.c.length c1) (.slice o2 m.t.length c2) m.id m.lim m.dr∧RiV layS lo hi w (.slice o1 m.c.length c1) m.c∧RiV layS lo hi w (.slice o2 m.t.length c2) m.t
theorem RiG.rs:Stps RiG:=⟨fun ⟨o1,c1,o2,c2,e,h1,h2⟩ s hd=> ⟨o1,c1,o2,c2,e,h1.step s hd,h2.step s hd⟩⟩
theorem RiG.rm:Monos RiG:=⟨fun ⟨o1,c1,o2,c2,e,h1,h2⟩ k1 k2=> ⟨o1,c1,o2,c2,e,h1.mono k1 k2,h2.mono k1 k2⟩⟩
theorem OwnG.qs:Stps OwnG:=⟨fun h s hd=> OwnG.step h s hd⟩
theorem OwnG.qr {lo hi:Nat} {w:World} {v:Value} {m:Am} (h:OwnG lo hi w v m):RiG lo hi w v m:=by
 obtain ⟨g,h',mid,e,i1,i2,k1,k2⟩:=h
 obtain ⟨o1,c1,e1,r1⟩:=InRow.ri i1
 obtain ⟨o2,c2,e2,r2⟩:=InRow.ri i2
 injection e1 with x1 x2 x3
 injection e2 with y1 y2 y3
 subst x1 x3 y1 y3
 exact ⟨_,_,_,_,e,RiV.mono ⟨_,_,rfl,r1⟩ (Nat.le_refl _) k2,RiV.mono ⟨_,_,rfl,r2⟩ k1 (Nat.le_refl _)⟩
def elG:El Gh Am:=⟨layGh,valG,RiG,OwnG,amD,by decide,RiG.rs,RiG.rm,OwnG.qs,OwnG.qr⟩
theorem storedG {e:TypeId} {w wr:World} {base B g c n:Nat} {l:List Gh} {k:Nat} (h:Gh) (hg:B≤g) (hown:wr.ownsRow base e 5 (.slice (some ⟨g,0,none⟩) n c) n (l.flatMap layGh.cs)) (hB:Below B w wr):
  (((((wr.setCell ⟨g,k * 5,none⟩ (.slice h.c.1 h.c.2.1 h.c.2.2)).setCell ⟨g,k * 5+1,none⟩ (.slice h.t.1 h.t.2.1 h.t.2.2)).setCell ⟨g,k * 5+2,none⟩ (.int .i64 h.id)).setCell ⟨g,k * 5+3,none⟩ (.int .i64 h.lim)).setCell ⟨g,k * 5+4,none⟩ (.bool h.dr)).ownsRow base e 5 (.slice (some ⟨g,0,none⟩) n c) n ((l.set k h).flatMap layGh.cs)∧Below B w (((((wr.setCell ⟨g,k * 5,none⟩ (.slice h.c.1 h.c.2.1 h.c.2.2)).setCell ⟨g,k * 5+1,none⟩ (.slice h.t.1 h.t.2.1 h.t.2.2)).setCell ⟨g,k * 5+2,none⟩ (.int .i64 h.id)).setCell ⟨g,k * 5+3,none⟩ (.int .i64 h.lim)).setCell ⟨g,k * 5+4,none⟩ (.bool h.dr))∧Stp g (g+1) wr (((((wr.setCell ⟨g,k * 5,none⟩ (.slice h.c.1 h.c.2.1 h.c.2.2)).setCell ⟨g,k * 5+1,none⟩ (.slice h.t.1 h.t.2.1 h.t.2.2)).setCell ⟨g,k * 5+2,none⟩ (.int .i64 h.id)).setCell ⟨g,k * 5+3,none⟩ (.int .i64 h.lim)).setCell ⟨g,k * 5+4,none⟩ (.bool h.dr)):=by
 have q:=(((((hown.stored (k * 5) (.slice h.c.1 h.c.2.1 h.c.2.2)).1.stored (k * 5+1) (.slice h.t.1 h.t.2.1 h.t.2.2)).1.stored (k * 5+2) (.int .i64 h.id)).1.stored (k * 5+3) (.int .i64 h.lim)).1.stored (k * 5+4) (.bool h.dr)).1
 rw [flat_set5 layGh rfl (a:=h) rfl] at q
 exact ⟨q,(((((hB.setCell (p:=⟨g,k * 5,none⟩) hg _).setCell (p:=⟨g,k * 5+1,none⟩) hg _).setCell (p:=⟨g,k * 5+2,none⟩) hg _).setCell (p:=⟨g,k * 5+3,none⟩) hg _).setCell (p:=⟨g,k * 5+4,none⟩) hg _),((((((Stp.refl wr).trans (stp_set1 _ g (k * 5) _)).trans (stp_set1 _ g (k * 5+1) _)).trans (stp_set1 _ g (k * 5+2) _)).trans (stp_set1 _ g (k * 5+3) _)).trans (stp_set1 _ g (k * 5+4) _))⟩
theorem infoGa:(Tryz.prog.info? 140).map (fun i=> (i.zero,i.size,i.bytes))=some (some (.agg #[.slice none 0 0,.slice none 0 0,.int .i64 0,.int .i64 0,.bool false]),5,72):=by kernel_rfl
def agsB (xs:List Am):Bool:=decide (xs.length=6) && (List.range xs.length).all (agF xs)
theorem agentsFrom_any (v:Value) (xs:List Am) (w:World) (hR:RiE elA 0 w.heap.size w v xs) (hlen:xs.length≤1048576) (hx:∀i,i < xs.length→(xs.getD i amD).c.length+(xs.getD i amD).t.length≤1048576):
  Calls Tryz.prog 102 #[v] w fun e w'=> ∃o n c,e=.returned (.tuple #[.slice o n c,.bool (agsB xs)])∧(agsB xs=true→InE elG 140 w.heap.size w'.heap.size w' (.slice o n c) xs)∧Below w.heap.size w w':=by
 obtain ⟨o,cap,ev⟩:=hR.len
 subst ev
 obtain ⟨i0,hi,hz0,hz1,hz2⟩:=info_parts infoGa
 have HR0:=hide hR
 have HX:=hide hx
 clear hR hx
 by_cases h6:xs.length=6
 rotate_left
 ·have HNO:Hid (agsB xs=false):=by unfold Hid agsB;simp [h6]
  obtain ⟨nx,hnx⟩:∃q,xs.length=q:=⟨_,rfl⟩
  rw [hnx] at h6 ⊢
  have h6':¬((nx:Int)=6):=by omega
  go_enter Tryz.func102,Tryz.ntmps102
  go_wp2
  refine bodyPost_ret (v:=.tuple #[.slice none 0 0,.bool false]) (by simp [results,Tryz.results102,go_sem]) rfl ⟨none,0,0,by rw [HNO.out],fun e=> absurd e (by rw [HNO.out];simp),Below.refl _ _⟩
 have HB6:Hid (∀k,k < 6→agF xs k=false→agsB xs=false):=fun k hk hf=> by unfold agsB;rw [allTo_no (by rw [h6];exact hk) hf];simp
 have HY6:Hid ((List.range 6).all (agF xs)=true→agsB xs=true):=fun hf=> by unfold agsB;rw [h6,hf];rfl
 have H6:=hide h6
 rw [h6] at HR0 HX ⊢
 clear hlen h6
 have HB0:Hid (Below w.heap.size w w):=Below.refl _ _
 go_enter Tryz.func102,Tryz.ntmps102
 go_wp2_with (at_make;refine wpList_make_full _ rfl _ _ 133 rfl w.heap.size 140 i0 (agi (.slice none 0 0) (.slice none 0 0) 0 0 false) 5 Tryz.underlying133 hi hz0 hz1 _ _ _ _ 6 rfl rfl rfl rfl ?b2 ?b3 ?b4 ?_)
 case b2=> rw [hz2];omega
 case b3=> unfold maxLen;omega
 case b4=> simp
 intro w3 hown hgrow
 have HB3:=hide (show Below w.heap.size w w3 from (Below.refl _ _).grown hgrow (Nat.le_refl _) (fun k h=> by cases h))
 have HO3:Hid (w3.ownsRow w.heap.size 140 5 (.slice (some ⟨w.heap.size,0,none⟩) 6 6) 6 ((fillE layGh [] 6 0).flatMap layGh.cs)):=by
  rw [fillE_zero,←made_flat layGh (agi (.slice none 0 0) (.slice none 0 0) 0 0 false) rfl];exact hown
 have hs3:w.heap.size+1≤w3.heap.size:=(hown.lt w.heap.size rfl).2
 clear hown hgrow
 go_wp2
 go_loopw [15] (fun iv wr=> ∃(k:Nat) (hs:List Gh) (L H:Nat→Nat),k≤6∧iv=.int .i64 (k:Int)∧Hid ((List.range k).all (agF xs)=true)∧Hid (wr.ownsRow w.heap.size 140 5 (.slice (some ⟨w.heap.size,0,none⟩) 6 6) 6 ((fillE layGh hs 6 k).flatMap layGh.cs))∧Hid (RwE elG (xs.take k) (w.heap.size+1) wr.heap.size wr hs L H)∧Hid (Below w.heap.size w wr)∧w.heap.size+1≤wr.heap.size)
  (fun iv _=> 6 - (intOf iv).toNat)
 case atStart=> exact ⟨0,[],fun _=> 0,fun _=> 0,Nat.zero_le _,rfl,rfl,HO3.out,by rw [List.take_zero];exact RwE.nil _ _ _ _ _ _,HB3.out,hs3⟩
 case round=>
  obtain ⟨k,hs,L,H,hk8,rfl,HAL,HO,HR,HBr,hsr⟩:=hrel
  clear HO3 HB3 hs3
  have hhl:hs.length=k:=by have h1:=HR.out.len;rw [List.length_take,H6.out] at h1;omega
  have HHL:=hide hhl
  by_cases hlt:k < 6
  ·have z1:(k:Int) < 6:=by omega
   obtain ⟨m,hm⟩:∃m,xs.getD k amD=m:=⟨_,rfl⟩
   have HS:=hide (takeE_snoc (xs:=xs) amD (by rw [H6.out];exact hlt))
   have hxk:=HX.out k hlt
   have HAF:Hid (agF xs k=(agentOkB m && decide (m.id=(k:Int)))):=by unfold Hid agF;rw [hm]
   rw [hm] at HS hxk
   obtain ⟨b,off,o1,c1,o2,c2,rfl,hbl,p0,p1,p2,p3,p4,rr,_⟩:=RiA.cells HR0.out k (by rw [H6.out];exact hlt) hm
   have HL:Hid (∀W,Below wr.heap.size wr W→_):=hide (fun W (hb:Below wr.heap.size wr W)=> agentFrom_any _ m W (rr.on (HBr.out.trans (hb.mono HBr.out.size))) hxk)
   replace p0:=bCA HBr.out p0 hbl
   replace p1:=bCA HBr.out p1 hbl
   replace p2:=bCA HBr.out p2 hbl
   replace p3:=bCA HBr.out p3 hbl
   replace p4:=bCA HBr.out p4 hbl
   have HW:=hide hlt
   clear rr hm hxk hhl
   obtain ⟨q1,hq1⟩:∃q,m.c.length=q:=⟨_,rfl⟩
   obtain ⟨q2,hq2⟩:∃q,m.t.length=q:=⟨_,rfl⟩
   obtain ⟨mi,hmi⟩:∃q,m.id=q:=⟨_,rfl⟩
   obtain ⟨ml,hml⟩:∃q,m.lim=q:=⟨_,rfl⟩
   obtain ⟨md,hmd⟩:∃q,m.dr=q:=⟨_,rfl⟩
   have HQ:=hide (And.intro hq1 (And.intro hq2 (And.intro hmi (And.intro hml hmd))))
   rw [hq1,hq2,hmi,hml,hmd] at HL
   rw [hmi] at p0 HAF
   rw [hml] at p1
   rw [hmd] at p2
   rw [hq1] at p3
   rw [hq2] at p4
   clear hq1 hq2 hmi hml hmd
   have hb1:Below wr.heap.size wr (wr.alloc (.cells #[.int .i64 mi,.int .i64 ml,.bool md,.slice o1 q1 c1,.slice o2 q2 c2] 87)):=(Below.refl _ _).alloc (Nat.le_refl _) _
   have HL1:=hide (HL.out _ hb1)
   have HB1:=hide hb1
   clear HL hb1
   go_wp2_with fail
   generalize wr.alloc (.cells #[.int .i64 mi,.int .i64 ml,.bool md,.slice o1 q1 c1,.slice o2 q2 c2] 87)=w1 at *
   refine HL1.out.mono ?_
   rintro e w2 ⟨oa,na,ca,ob,nb,cb,i5,l5,d5,rfl,hin,hb2⟩
   obtain ⟨ak,hak⟩:∃q,agentOkB m=q:=⟨_,rfl⟩
   rw [hak] at hin HAF ⊢
   clear hak HL1
   cases ak with
   |false=>
    have HNO:=hide (HB6.out k hlt (by rw [HAF.out];rfl))
    have HB2:=hide (HBr.out.trans ((HB1.out.trans (hb2.mono HB1.out.size)).mono HBr.out.size))
    clear hin hb2
    go_wp2
    refine bodyPost_ret (v:=.tuple #[.slice none 0 0,.bool false]) (by simp [results,Tryz.results102,go_sem]) rfl ⟨none,0,0,by rw [HNO.out],fun e=> absurd e (by rw [HNO.out];simp),by first|exact HB2.out|exact HB2.out.alloc HB2.out.size _⟩
   |true=>
    obtain ⟨g3,g4,mid,ei,ic,it,kk1,kk2⟩:=hin rfl
    rw [HQ.out.1,HQ.out.2.1,HQ.out.2.2.1,HQ.out.2.2.2.1,HQ.out.2.2.2.2] at ei
    simp only [Value.agg.injEq,Array.mk.injEq,List.cons.injEq,and_true,Value.int.injEq,Value.slice.injEq,Value.bool.injEq,true_and] at ei
    obtain ⟨⟨rfl,rfl,rfl⟩,⟨rfl,rfl,rfl⟩,rfl,rfl,rfl⟩:=ei
    have HB12:=hide (HB1.out.trans (hb2.mono HB1.out.size))
    have HIN:=hide (hin rfl)
    clear hin ic it kk1 kk2
    by_cases hid:i5=(k:Int)
    rotate_left
    ·have HNO:=hide (HB6.out k hlt (by rw [HAF.out];simp [hid]))
     have HB2:=hide (HBr.out.trans (HB12.out.mono HBr.out.size))
     clear hb2
     go_wp2
     refine bodyPost_ret (v:=.tuple #[.slice none 0 0,.bool false]) (by simp [results,Tryz.results102,go_sem]) rfl ⟨none,0,0,by rw [HNO.out],fun e=> absurd e (by rw [HNO.out];simp),by first|exact HB2.out|exact HB2.out.alloc HB2.out.size _⟩
    subst hid
    go_upto_region 8 with fail
    have bx:=World.alloc_heap_new w2 (.cells #[.slice (some ⟨g3,0,none⟩) ca ca,.slice (some ⟨g4,0,none⟩) cb cb,.int .i64 (k:Int),.int .i64 l5,.bool d5] 140)
    have hb4:Below w2.heap.size w2 (w2.alloc (.cells #[.slice (some ⟨g3,0,none⟩) ca ca,.slice (some ⟨g4,0,none⟩) cb cb,.int .i64 (k:Int),.int .i64 l5,.bool d5] 140)):=(Below.refl _ _).alloc (Nat.le_refl _) _
    generalize w2.alloc (.cells #[.slice (some ⟨g3,0,none⟩) ca ca,.slice (some ⟨g4,0,none⟩) cb cb,.int .i64 (k:Int),.int .i64 l5,.bool d5] 140)=w4 at *
    have y0:=block_cell1 bx 0 _ rfl
    have y1:=block_cell1 bx 1 _ rfl
    have y2:=block_cell1 bx 2 _ rfl
    have y3:=block_cell1 bx 3 _ rfl
    have y4:=block_cell1 bx 4 _ rfl
    have s12:=hb2.size
    have s1:=HB1.out.size
    have s24:=hb4.size
    have HB14:=hide (HB12.out.trans (hb4.mono HB12.out.size))
    have HB2:=hide (HBr.out.trans (HB14.out.mono HBr.out.size))
    have HIN4:=hide ((HIN.out.step (Stp.of (lo:=0) (hi:=0) hb4) (.inl (Nat.zero_le _))).mono (a':=w1.heap.size) (b':=w4.heap.size) (Nat.le_refl _) s24)
    have hown2:=own_kept HO.out HB14.out
    have hln:((fillE layGh hs 6 k).flatMap layGh.cs).length=6 * 5:=by rw [flat_length,fillE_len hk8 HHL.out];rfl
    obtain ⟨x0,hx0⟩:∃u,w4.cell? ⟨w.heap.size,k * 5,none⟩=some u:=⟨_,(hown2.cellAt (k * 5) (by omega)).trans (List.getElem?_eq_getElem (by omega))⟩
    have hf0:=hown2.frozenAt (k * 5)
    obtain ⟨x1,hx1⟩:∃u,w4.cell? ⟨w.heap.size,k * 5+1,none⟩=some u:=⟨_,(hown2.cellAt (k * 5+1) (by omega)).trans (List.getElem?_eq_getElem (by omega))⟩
    have hf1:=hown2.frozenAt (k * 5+1)
    obtain ⟨x2,hx2⟩:∃u,w4.cell? ⟨w.heap.size,k * 5+2,none⟩=some u:=⟨_,(hown2.cellAt (k * 5+2) (by omega)).trans (List.getElem?_eq_getElem (by omega))⟩
    have hf2:=hown2.frozenAt (k * 5+2)
    obtain ⟨x3,hx3⟩:∃u,w4.cell? ⟨w.heap.size,k * 5+3,none⟩=some u:=⟨_,(hown2.cellAt (k * 5+3) (by omega)).trans (List.getElem?_eq_getElem (by omega))⟩
    have hf3:=hown2.frozenAt (k * 5+3)
    obtain ⟨x4,hx4⟩:∃u,w4.cell? ⟨w.heap.size,k * 5+4,none⟩=some u:=⟨_,(hown2.cellAt (k * 5+4) (by omega)).trans (List.getElem?_eq_getElem (by omega))⟩
    have hf4:=hown2.frozenAt (k * 5+4)
    obtain ⟨L2,H2,hsn⟩:∃L2 H2,RwE elG (xs.take k++[m]) (w.heap.size+1) w4.heap.size w4 (hs++[⟨(some ⟨g3,0,none⟩,ca,ca),(some ⟨g4,0,none⟩,cb,cb),(k:Int),l5,d5⟩]) L2 H2:=⟨_,_,HR.out.kept HB14.out|>.snoc (l2:=w1.heap.size) (h2:=w4.heap.size) (y:=⟨(some ⟨g3,0,none⟩,ca,ca),(some ⟨g4,0,none⟩,cb,cb),(k:Int),l5,d5⟩) (x:=m) s1 (by omega) (by omega) (show elG.Q w1.heap.size w4.heap.size w4 (elG.val ⟨(some ⟨g3,0,none⟩,ca,ca),(some ⟨g4,0,none⟩,cb,cb),(k:Int),l5,d5⟩) m from HIN4.out)⟩
    rw [←HS.out] at hsn
    have ST:=hide (storedG (k:=k) ⟨(some ⟨g3,0,none⟩,ca,ca),(some ⟨g4,0,none⟩,cb,cb),(k:Int),l5,d5⟩ (Nat.le_refl w.heap.size) hown2 HB2.out)
    have HF:=hide (fillE_set (L:=layGh) HW.out HHL.out ⟨(some ⟨g3,0,none⟩,ca,ca),(some ⟨g4,0,none⟩,cb,cb),(k:Int),l5,d5⟩)
    have HS2:=hide hsn
    have HAL2:Hid ((List.range (k+1)).all (agF xs)=true):=by unfold Hid;rw [allTo_succ,HAL.out,HAF.out];simp
    have hs5:w.heap.size+1≤w4.heap.size:=by omega
    clear hown2 hb2 hb4 hln hsn p0 p1 p2 p3 p4 bx
    go_wp2
    go_roundw
    case rel=> first
     |exact ⟨k+1,hs++[⟨(some ⟨g3,0,none⟩,ca,ca),(some ⟨g4,0,none⟩,cb,cb),(k:Int),l5,d5⟩],L2,H2,by omega,by go_num,HAL2.out,(by have h:=ST.out.1;rw [HF.out] at h;exact h),RwE.mono (HS2.out.step ST.out.2.2 (fun i hi=> .inl (HS2.out.bd i hi).1)) (Nat.le_refl _) (by simp),ST.out.2.1,by simpa using hs5⟩
     |(refine ⟨_, ?_,rfl⟩;exact ⟨k+1,hs++[⟨(some ⟨g3,0,none⟩,ca,ca),(some ⟨g4,0,none⟩,cb,cb),(k:Int),l5,d5⟩],L2,H2,by omega,by go_num,HAL2.out,(by have h:=ST.out.1;rw [HF.out] at h;exact h),RwE.mono (HS2.out.step ST.out.2.2 (fun i hi=> .inl (HS2.out.bd i hi).1)) (Nat.le_refl _) (by simp),ST.out.2.1,by simpa using hs5⟩)
    case measure=> simp [intOf];omega
  ·have e:k=6:=by omega
   subst e
   go_wp2
   have hy:=HY6.out HAL.out
   have h2:=HR.out
   rw [show xs.take 6=xs from by rw [←H6.out];exact List.take_length] at h2
   have h3:=HO.out
   rw [←H6.out] at h3 ⊢
   refine bodyPost_ret (v:=.tuple #[.slice (some ⟨w.heap.size,0,none⟩) xs.length xs.length,.bool true]) (by simp [results,Tryz.results102,go_sem,H6.out]) rfl ⟨_,_,_,by rw [hy],fun _=> InE.filled h3 h2 (by omega),HBr.out⟩
end Go.Proofs.YtgplppfbinfelaaGreat
