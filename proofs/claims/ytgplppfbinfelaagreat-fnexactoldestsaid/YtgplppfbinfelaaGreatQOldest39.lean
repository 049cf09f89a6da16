/- Several texts in one: ShKm, ShKm2, OpenK. -/
import Derived.Test.YtgplppfbinfelaaGreatQOldest20
import Derived.Test.YtgplppfbinfelaaGreatQOldest32
import Derived.Test.YtgplppfbinfelaaGreatQOldest38
namespace Go.Proofs.YtgplppfbinfelaaGreat
open Go.ChangeShapes Go.WideShapes Go.ChangeAt Go.RowKit Go.Joins
set_option linter.unusedVariables false
set_option linter.unusedSimpArgs false
set_option maxRecDepth 100000
set_option maxHeartbeats 40000000
structure Km where
 now:Int
 bal:Bm
 ags:List Am
 bag:List Mm
 got:List Gt
 rst:Int
 gone:Int
abbrev kmv (now kj:Int) (vl:Value) (sf kp:Int) (vb vr vt va vm vg:Value) (rst gone:Int):Value:=.agg #[.int .i64 now,.int .i64 kj,vl,.int .i64 sf,.int .i64 kp,vb,vr,vt,va,vm,vg,.int .i64 rst,.int .i64 gone]
def RdKm (C:Nat) (w:World) (v:Value) (m:Km):Prop:=∃kj vl sf kp vb vr vt va vm vg,v=kmv m.now kj vl sf kp vb vr vt va vm vg m.rst m.gone∧RdBm C w (balv kj vl sf kp vb vr vt) m.bal∧RiE elA 0 C w va m.ags∧RiE elM 0 C w vm m.bag∧RdV layGt C w vg m.got
def InKm (lo hi:Nat) (w:World) (v:Value) (m:Km):Prop:=∃kj vl sf kp vb vr vt va vm vg b0 b1 a0 a1 m0 m1 g0 g1,v=kmv m.now kj vl sf kp vb vr vt va vm vg m.rst m.gone∧(lo≤b0∧b1≤hi∧lo≤a0∧a1≤hi∧lo≤m0∧m1≤hi∧lo≤g0∧g1≤hi∧(b1≤a0∨a1≤b0)∧(b1≤m0∨m1≤b0)∧(b1≤g0∨g1≤b0)∧(a1≤m0∨m1≤a0)∧(a1≤g0∨g1≤a0)∧(m1≤g0∨g1≤m0))∧InBm b0 b1 w (balv kj vl sf kp vb vr vt) m.bal∧InE elA 87 a0 a1 w va m.ags∧InE elM 96 m0 m1 w vm m.bag∧InL layGt 98 g0 g1 w vg m.got
theorem RiE.keptC {η α:Type} {E:El η α} {a C D:Nat} {w w':World} {v:Value} {xs:List α} (h:RiE E a C w v xs) (hb:Below D w w') (hc:C≤D):RiE E a C w' v xs:=
 (RiE.stp E).go (lo:=C) (hi:=w.heap.size+C) h ⟨hb.os,hb.tape,hb.output,hb.size,fun k hk hn=> hb.block k (by omega)⟩ (.inr (Nat.le_refl _))
theorem RdKm.kept {C D:Nat} {w w':World} {v:Value} {m:Km} (h:RdKm C w v m) (hb:Below D w w') (hc:C≤D):RdKm C w' v m:=by
 obtain ⟨kj,vl,sf,kp,vb,vr,vt,va,vm,vg,e,h1,h2,h3,h4⟩:=h
 exact ⟨kj,vl,sf,kp,vb,vr,vt,va,vm,vg,e,h1.kept hb hc,h2.keptC hb hc,h3.keptC hb hc,h4.kept hb hc⟩
theorem RdKm.le {C D:Nat} {w:World} {v:Value} {m:Km} (h:RdKm C w v m) (hc:C≤D):RdKm D w v m:=by
 obtain ⟨kj,vl,sf,kp,vb,vr,vt,va,vm,vg,e,h1,h2,h3,h4⟩:=h
 exact ⟨kj,vl,sf,kp,vb,vr,vt,va,vm,vg,e,h1.le hc,(RiE.mon _).go h2 (Nat.le_refl _) hc,(RiE.mon _).go h3 (Nat.le_refl _) hc,h4.le hc⟩
theorem InKm.rd {lo hi:Nat} {w:World} {v:Value} {m:Km} (h:InKm lo hi w v m):RdKm hi w v m:=by
 obtain ⟨kj,vl,sf,kp,vb,vr,vt,va,vm,vg,b0,b1,a0,a1,m0,m1,g0,g1,e,k,h1,h2,h3,h4⟩:=h
 exact ⟨kj,vl,sf,kp,vb,vr,vt,va,vm,vg,e,h1.rd.le (by omega),(RiE.mon _).go h2.ri (Nat.zero_le _) (by omega),(RiE.mon _).go h3.ri (Nat.zero_le _) (by omega),(InL.rd (L:=layGt) h4).le (by omega)⟩
theorem InKm.step {x y lo hi:Nat} {w w':World} {v:Value} {m:Km} (h:InKm x y w v m) (s:Stp lo hi w w') (hd:hi≤x∨y≤lo):InKm x y w' v m:=by
 obtain ⟨kj,vl,sf,kp,vb,vr,vt,va,vm,vg,b0,b1,a0,a1,m0,m1,g0,g1,e,k,h1,h2,h3,h4⟩:=h
 exact ⟨kj,vl,sf,kp,vb,vr,vt,va,vm,vg,b0,b1,a0,a1,m0,m1,g0,g1,e,k,h1.step s (by omega),(InE.stp _ _).go h2 s (by omega),(InE.stp _ _).go h3 s (by omega),InRow.step h4 s (by omega)⟩
theorem RdKm.opn {C:Nat} {w:World} {v:Value} {m:Km} (h:RdKm C w v m):∃kj o nj c sf kp ob np cb oR nr cR ot nt ct oa na ca om nm cm og ng cg,v=(kmv m.now kj (.slice o nj c) sf kp (.slice ob np cb) (.slice oR nr cR) (.slice ot nt ct) (.slice oa na ca) (.slice om nm cm) (.slice og ng cg) m.rst m.gone)∧RdBm C w (balv kj (.slice o nj c) sf kp (.slice ob np cb) (.slice oR nr cR) (.slice ot nt ct)) m.bal∧RiE elA 0 C w (.slice oa na ca) m.ags∧RiE elM 0 C w (.slice om nm cm) m.bag∧RdV layGt C w (.slice og ng cg) m.got∧na=m.ags.length∧nm=m.bag.length∧ng=m.got.length:=by
 obtain ⟨kj,vl,sf,kp,vb,vr,vt,va,vm,vg,rfl,h1,h2,h3,h4⟩:=h
 obtain ⟨o,c,ob,cb,oR,cR,ot,ct,e⟩:=h1.opn
 simp only [Value.agg.injEq,Array.mk.injEq,List.cons.injEq,and_true,Value.int.injEq,true_and] at e
 obtain ⟨e0,e1,e2,e3,e4,e5,e6⟩:=e
 obtain ⟨oa,ca,ea⟩:=h2.len
 obtain ⟨om,cm,em⟩:=h3.len
 obtain ⟨og,cg,eg,rg⟩:=h4
 subst e1 e4 e5 e6 ea em eg
 exact ⟨kj,o,_,c,sf,kp,ob,_,cb,oR,_,cR,ot,_,ct,oa,_,ca,om,_,cm,og,_,cg,rfl,h1,h2,h3,⟨_,_,rfl,rg⟩,rfl,rfl,rfl⟩
def lenKm (m:Km):Prop:=lenBm m.bal∧lenAs m.ags∧lenMs m.bag∧m.got.length≤maxLen∧∀i,i < m.bag.length→isB (m.bag.getD i mmD).c.l
def fitKm (m:Km):Prop:=fitB0 m.bal∧(m.ags.length+szAs m.ags≤1048576)∧(m.bag.length+szMs m.bag≤1048576)∧m.got.length≤1048576∧∀i,i < m.bag.length→isB (m.bag.getD i mmD).c.l
theorem fitA {xs:List Am} (h:xs.length+szAs xs≤1048576) (i:Nat) (hi:i < xs.length):(xs.getD i amD).c.length+(xs.getD i amD).t.length≤1048576:=by
 have:=sumN_at (cntA xs) hi
 unfold szAs at h;unfold cntA at *;omega
theorem fitM {xs:List Mm} (h:xs.length+szMs xs≤1048576) (hb:∀i,i < xs.length→isB (xs.getD i mmD).c.l) (i:Nat) (hi:i < xs.length):fitCm (xs.getD i mmD).c:=by
 have:=sumN_at (cntM xs) hi
 unfold szMs at h;unfold cntM at *;exact ⟨by omega,hb i hi⟩
theorem bx13 {W:World} {k:Nat} {c0 c1 c2 c3 c4 c5 c6 c7 c8 c9 c10 c11 c12:Value} {T:TypeId} (h:W.heap[k]? =some (.cells #[c0,c1,c2,c3,c4,c5,c6,c7,c8,c9,c10,c11,c12] T (0,0))):W.cell? ⟨k,0,none⟩=some c0∧W.cell? ⟨k,1,none⟩=some c1∧W.cell? ⟨k,2,none⟩=some c2∧W.cell? ⟨k,3,none⟩=some c3∧W.cell? ⟨k,4,none⟩=some c4∧W.cell? ⟨k,5,none⟩=some c5∧W.cell? ⟨k,6,none⟩=some c6∧W.cell? ⟨k,7,none⟩=some c7∧W.cell? ⟨k,8,none⟩=some c8∧W.cell? ⟨k,9,none⟩=some c9∧W.cell? ⟨k,10,none⟩=some c10∧W.cell? ⟨k,11,none⟩=some c11∧W.cell? ⟨k,12,none⟩=some c12∧(∀j,W.frozen? ⟨k,j,none⟩=false):=
 ⟨block_cell1 h 0 _ rfl,block_cell1 h 1 _ rfl,block_cell1 h 2 _ rfl,block_cell1 h 3 _ rfl,block_cell1 h 4 _ rfl,block_cell1 h 5 _ rfl,block_cell1 h 6 _ rfl,block_cell1 h 7 _ rfl,block_cell1 h 8 _ rfl,block_cell1 h 9 _ rfl,block_cell1 h 10 _ rfl,block_cell1 h 11 _ rfl,block_cell1 h 12 _ rfl,fun j=> by simp [World.frozen?,h]⟩
theorem hp_lt {W:World} {P:Nat} {X:Obj} (h:W.heap[P]? =some X):P < W.heap.size:=(Array.getElem?_eq_some_iff.1 h).1
theorem hp_on {W W':World} {P:Nat} {X:Obj} (h:W.heap[P]? =some X) (hb:Below W.heap.size W W'):W'.heap[P]? =some X:=(hb.block P (hp_lt h)).trans h
theorem szCluster_sh (v:Value) (m:Km) (w:World) (hR:RdKm w.heap.size w v m) (hl:lenKm m):
  Calls Tryz.prog 11 #[v,.int .i64 1048576] w fun e w'=> (∃z:Int,e=.returned (.int .i64 z)∧((z < 0∧ -1≤z)∨(0≤z∧z≤1048576∧fitKm m)))∧Below w.heap.size w w':=by
 obtain ⟨kj,o,nj,c,sf,kp,ob,np,cb,oR,nr,cR,ot,nt,ct,oa,na,ca,om,nm,cm,og,ng,cg,rfl,r1,r2,r3,r4,ea,em,eg⟩:=hR.opn
 obtain ⟨l1,l2,l3,l4,l5⟩:=hl
 have H1:=hide (fun W (hb:Below w.heap.size w W)=> szBal_sh (balv kj (.slice o nj c) sf kp (.slice ob np cb) (.slice oR nr cR) (.slice ot nt ct)) m.bal W ((r1.kept hb (Nat.le_refl _)).le hb.size) l1)
 have H2:=hide (fun W (hb:Below w.heap.size w W) z h0 h1=> szAgentS_any (.slice oa na ca) m.ags z W (r2.on hb) l2 h0 h1)
 have H3:=hide (fun W (hb:Below w.heap.size w W) z h0 h1=> szMailS_any (.slice om nm cm) m.bag z W (r3.on hb) l3 h0 h1)
 have H4:=hide (fun W z h0 h1=> szGotS_any og ng cg z W (by rw [eg];exact l4) h0 h1)
 have HG:=hide eg
 have HL5:=hide l5
 generalize m.now=now at *
 generalize m.rst=rst at *
 generalize m.gone=gone at *
 have bx:=World.alloc_heap_new w (.cells #[.int .i64 now,.int .i64 kj,.slice o nj c,.int .i64 sf,.int .i64 kp,.slice ob np cb,.slice oR nr cR,.slice ot nt ct,.slice oa na ca,.slice om nm cm,.slice og ng cg,.int .i64 rst,.int .i64 gone] 38)
 have hb0:Below w.heap.size w (w.alloc (.cells #[.int .i64 now,.int .i64 kj,.slice o nj c,.int .i64 sf,.int .i64 kp,.slice ob np cb,.slice oR nr cR,.slice ot nt ct,.slice oa na ca,.slice om nm cm,.slice og ng cg,.int .i64 rst,.int .i64 gone] 38)):=(Below.refl _ _).alloc (Nat.le_refl _) _
 obtain ⟨z0,z1,z2,z3,z4,z5,z6,z7,z8,z9,z10,z11,z12,_⟩:=bx13 bx
 have HX:=hide bx
 have HB:=hide hb0
 clear bx hb0 r1 r2 r3 r4 ea em eg l1 l2 l3 l4 l5 hR
 go_enter Tryz.func11,Tryz.ntmps11
 go_wp2_with fail
 generalize (w.alloc (.cells #[.int .i64 now,.int .i64 kj,.slice o nj c,.int .i64 sf,.int .i64 kp,.slice ob np cb,.slice oR nr cR,.slice ot nt ct,.slice oa na ca,.slice om nm cm,.slice og ng cg,.int .i64 rst,.int .i64 gone] 38))=W0 at *
 refine (H1.out W0 HB.out).mono ?_
 rintro e w1 ⟨⟨z,rfl,hz⟩,hb⟩
 have HB1:=hide (HB.out.trans (hb.mono HB.out.size))
 have HX1:=hide (hp_on HX.out hb)
 clear hb z0 z1 z2 z3 z4 z5 z6 z7 z8 z9 z10 z11 z12 HB HX H1
 rcases hz with ⟨hz,hz1⟩|⟨hz0,hz1,hf1⟩
 ·go_wp2
  go_ret
  exact ⟨⟨_,rfl,.inl ⟨by omega,by omega⟩⟩,HB1.out⟩
 ·have hzn:¬(z < 0):=by omega
  have y8:=(bx13 HX1.out).2.2.2.2.2.2.2.2.1
  have HF1:=hide hf1
  clear hf1
  go_wp2_with fail
  refine (H2.out w1 HB1.out z hz0 hz1).mono ?_
  rintro e w2 ⟨hz,hb⟩
  have HB2:=hide (HB1.out.trans (hb.mono HB1.out.size))
  have HX2:=hide (hp_on HX1.out hb)
  clear hb y8 HB1 HX1 H2
  rcases hz with rfl|⟨z2,rfl,hy0,hy1,hf2⟩
  ·go_wp2
   go_ret
   exact ⟨⟨_,rfl,.inl ⟨by omega,by omega⟩⟩,HB2.out⟩
  ·have hyn:¬(z2 < 0):=by omega
   have y9:=(bx13 HX2.out).2.2.2.2.2.2.2.2.2.1
   have HF2:=hide hf2
   clear hf2
   go_wp2_with fail
   refine (H3.out w2 HB2.out z2 hy0 (by omega)).mono ?_
   rintro e w3 ⟨hz,hb⟩
   have HB3:=hide (HB2.out.trans (hb.mono HB2.out.size))
   have HX3:=hide (hp_on HX2.out hb)
   clear hb y9 HB2 HX2 H3
   rcases hz with rfl|⟨z3,rfl,hx0,hx1,hf3⟩
   ·go_wp2
    go_ret
    exact ⟨⟨_,rfl,.inl ⟨by omega,by omega⟩⟩,HB3.out⟩
   ·have hxn:¬(z3 < 0):=by omega
    have y10:=(bx13 HX3.out).2.2.2.2.2.2.2.2.2.2.1
    have HF3:=hide hf3
    have H4':=hide (H4.out w3 z3 hx0 (by omega))
    obtain ⟨q,hq⟩:∃q:Int,(if z3 - (ng:Int) < 0 then -1 else z3 - (ng:Int))=q:=⟨_,rfl⟩
    rw [hq] at H4'
    have HQ:=hide hq
    clear hf3 hq
    go_wp2_with fail
    refine H4'.out.mono ?_
    rintro e _ ⟨rfl,rfl⟩
    clear y10 H4 H4'
    by_cases hqn:q < 0
    ·have HQ1:Hid (q= -1):=by have:=HQ.out;unfold Hid;split at this <;> omega
     go_wp2
     go_ret
     exact ⟨⟨_,rfl,.inl ⟨by omega,by omega⟩⟩,HB3.out⟩
    ·have HQ2:Hid (0≤q∧q≤1048576∧(ng:Int)≤z3):=by have:=HQ.out;unfold Hid;split at this <;> omega
     go_wp2
     go_ret
     refine ⟨⟨_,rfl,.inr ⟨HQ2.out.1,HQ2.out.2.1,HF1.out, ?_, ?_, ?_,HL5.out⟩⟩,HB3.out⟩
     ·have:=HF2.out;omega
     ·have:=HF3.out;omega
     ·have:=HQ2.out.2.2;have:=HG.out;omega
theorem eqCluster_sh (v1 v2:Value) (m:Km) (w:World) (h1:RdKm w.heap.size w v1 m) (h2:RdKm w.heap.size w v2 m) (hf:fitKm m):
  Calls Tryz.prog 15 #[v1,v2] w fun e w'=> e=.returned (.bool true)∧Below w.heap.size w w':=by
 obtain ⟨kj,o,nj,c,sf,kp,ob,np,cb,oR,nr,cR,ot,nt,ct,oa,na,ca,om,nm,cm,og,ng,cg,rfl,r1,r2,r3,r4,ea,em,eg⟩:=h1.opn
 obtain ⟨kj2,o2,nj2,c2,sf2,kp2,ob2,np2,cb2,oR2,nr2,cR2,ot2,nt2,ct2,oa2,na2,ca2,om2,nm2,cm2,og2,ng2,cg2,rfl,s1,s2,s3,s4,ea2,em2,eg2⟩:=h2.opn
 obtain ⟨f1,f2,f3,f4,f5⟩:=hf
 have H1:=hide (fun W (hb:Below w.heap.size w W)=> eqBal_sh (balv kj (.slice o nj c) sf kp (.slice ob np cb) (.slice oR nr cR) (.slice ot nt ct)) (balv kj2 (.slice o2 nj2 c2) sf2 kp2 (.slice ob2 np2 cb2) (.slice oR2 nr2 cR2) (.slice ot2 nt2 ct2)) m.bal W ((r1.kept hb (Nat.le_refl _)).le hb.size) ((s1.kept hb (Nat.le_refl _)).le hb.size) f1)
 have H2:=hide (fun W (hb:Below w.heap.size w W)=> eqAgentS_same (.slice oa na ca) (.slice oa2 na2 ca2) m.ags W (r2.on hb) (s2.on hb) (by omega) (fun i hi=> fitA f2 i hi))
 have H3:=hide (fun W (hb:Below w.heap.size w W)=> eqMailS_same (.slice om nm cm) (.slice om2 nm2 cm2) m.bag W (r3.on hb) (s3.on hb) (by omega) (fun i hi=> by have:=(fitM f3 f5 i hi).1;exact ⟨by omega,by omega⟩))
 have H4:Hid (∀W,Below w.heap.size w W→Calls Tryz.prog 53 #[.slice og ng cg,.slice og2 ng2 cg2] W fun e w'=> e=.returned (.bool true)∧Below W.heap.size W w'):=fun W hb=> by
  obtain ⟨o',c',e1,q1⟩:=r4
  obtain ⟨o'',c'',e2,q2⟩:=s4
  rw [e1,e2]
  exact eqGotS_same o' o'' c' c'' m.got W ((q1.kept hb (Nat.le_refl _)).le hb.size) ((q2.kept hb (Nat.le_refl _)).le hb.size) f4
 generalize m.now=now at *
 generalize m.rst=rst at *
 generalize m.gone=gone at *
 have hb1:Below w.heap.size w (w.alloc (.cells #[.int .i64 now,.int .i64 kj,.slice o nj c,.int .i64 sf,.int .i64 kp,.slice ob np cb,.slice oR nr cR,.slice ot nt ct,.slice oa na ca,.slice om nm cm,.slice og ng cg,.int .i64 rst,.int .i64 gone] 56)):=(Below.refl _ _).alloc (Nat.le_refl _) _
 have hb0:Below w.heap.size w ((w.alloc (.cells #[.int .i64 now,.int .i64 kj,.slice o nj c,.int .i64 sf,.int .i64 kp,.slice ob np cb,.slice oR nr cR,.slice ot nt ct,.slice oa na ca,.slice om nm cm,.slice og ng cg,.int .i64 rst,.int .i64 gone] 56)).alloc (.cells #[.int .i64 now,.int .i64 kj2,.slice o2 nj2 c2,.int .i64 sf2,.int .i64 kp2,.slice ob2 np2 cb2,.slice oR2 nr2 cR2,.slice ot2 nt2 ct2,.slice oa2 na2 ca2,.slice om2 nm2 cm2,.slice og2 ng2 cg2,.int .i64 rst,.int .i64 gone] 56)):=hb1.alloc hb1.size _
 have bx:((w.alloc (.cells #[.int .i64 now,.int .i64 kj,.slice o nj c,.int .i64 sf,.int .i64 kp,.slice ob np cb,.slice oR nr cR,.slice ot nt ct,.slice oa na ca,.slice om nm cm,.slice og ng cg,.int .i64 rst,.int .i64 gone] 56)).alloc (.cells #[.int .i64 now,.int .i64 kj2,.slice o2 nj2 c2,.int .i64 sf2,.int .i64 kp2,.slice ob2 np2 cb2,.slice oR2 nr2 cR2,.slice ot2 nt2 ct2,.slice oa2 na2 ca2,.slice om2 nm2 cm2,.slice og2 ng2 cg2,.int .i64 rst,.int .i64 gone] 56)).heap[w.heap.size]? =some (.cells #[.int .i64 now,.int .i64 kj,.slice o nj c,.int .i64 sf,.int .i64 kp,.slice ob np cb,.slice oR nr cR,.slice ot nt ct,.slice oa na ca,.slice om nm cm,.slice og ng cg,.int .i64 rst,.int .i64 gone] 56 (0,0)):=(Below.heap_alloc _ _ _ (by simp)).trans (World.alloc_heap_new w _)
 have by':((w.alloc (.cells #[.int .i64 now,.int .i64 kj,.slice o nj c,.int .i64 sf,.int .i64 kp,.slice ob np cb,.slice oR nr cR,.slice ot nt ct,.slice oa na ca,.slice om nm cm,.slice og ng cg,.int .i64 rst,.int .i64 gone] 56)).alloc (.cells #[.int .i64 now,.int .i64 kj2,.slice o2 nj2 c2,.int .i64 sf2,.int .i64 kp2,.slice ob2 np2 cb2,.slice oR2 nr2 cR2,.slice ot2 nt2 ct2,.slice oa2 na2 ca2,.slice om2 nm2 cm2,.slice og2 ng2 cg2,.int .i64 rst,.int .i64 gone] 56)).heap[w.heap.size+1]? =some (.cells #[.int .i64 now,.int .i64 kj2,.slice o2 nj2 c2,.int .i64 sf2,.int .i64 kp2,.slice ob2 np2 cb2,.slice oR2 nr2 cR2,.slice ot2 nt2 ct2,.slice oa2 na2 ca2,.slice om2 nm2 cm2,.slice og2 ng2 cg2,.int .i64 rst,.int .i64 gone] 56 (0,0)):=by
  have h:=World.alloc_heap_new (w.alloc (.cells #[.int .i64 now,.int .i64 kj,.slice o nj c,.int .i64 sf,.int .i64 kp,.slice ob np cb,.slice oR nr cR,.slice ot nt ct,.slice oa na ca,.slice om nm cm,.slice og ng cg,.int .i64 rst,.int .i64 gone] 56)) (.cells #[.int .i64 now,.int .i64 kj2,.slice o2 nj2 c2,.int .i64 sf2,.int .i64 kp2,.slice ob2 np2 cb2,.slice oR2 nr2 cR2,.slice ot2 nt2 ct2,.slice oa2 na2 ca2,.slice om2 nm2 cm2,.slice og2 ng2 cg2,.int .i64 rst,.int .i64 gone] 56)
  rw [World.size_alloc] at h
  exact h
 obtain ⟨z0,z1,z2,z3,z4,z5,z6,z7,z8,z9,z10,z11,z12,_⟩:=bx13 bx
 obtain ⟨y0,y1,y2,y3,y4,y5,y6,y7,y8,y9,y10,y11,y12,_⟩:=bx13 by'
 have HX:=hide bx
 have HY:=hide by'
 have HB:=hide hb0
 clear bx by' hb0 hb1 r1 r2 r3 r4 ea em eg s1 s2 s3 s4 ea2 em2 eg2 f1 f2 f3 f4 f5 h1 h2
 go_enter Tryz.func15,Tryz.ntmps15
 go_wp2_with fail
 generalize ((w.alloc (.cells #[.int .i64 now,.int .i64 kj,.slice o nj c,.int .i64 sf,.int .i64 kp,.slice ob np cb,.slice oR nr cR,.slice ot nt ct,.slice oa na ca,.slice om nm cm,.slice og ng cg,.int .i64 rst,.int .i64 gone] 56)).alloc (.cells #[.int .i64 now,.int .i64 kj2,.slice o2 nj2 c2,.int .i64 sf2,.int .i64 kp2,.slice ob2 np2 cb2,.slice oR2 nr2 cR2,.slice ot2 nt2 ct2,.slice oa2 na2 ca2,.slice om2 nm2 cm2,.slice og2 ng2 cg2,.int .i64 rst,.int .i64 gone] 56))=W0 at *
 refine (H1.out W0 HB.out).mono ?_
 rintro e w1 ⟨rfl,hb⟩
 replace HX:=hide (hp_on HX.out hb)
 replace HY:=hide (hp_on HY.out hb)
 replace HB:=hide (HB.out.trans (hb.mono HB.out.size))
 clear hb z0 y0 z1 y1 z2 y2 z3 y3 z4 y4 z5 y5 z6 y6 z7 y7 z8 y8 z9 y9 z10 y10 z11 y11 z12 y12
 obtain ⟨z0,z1,z2,z3,z4,z5,z6,z7,z8,z9,z10,z11,z12,_⟩:=bx13 HX.out
 obtain ⟨y0,y1,y2,y3,y4,y5,y6,y7,y8,y9,y10,y11,y12,_⟩:=bx13 HY.out
 go_wp2_with fail
 refine (H2.out w1 HB.out).mono ?_
 rintro e w2 ⟨rfl,hb⟩
 replace HX:=hide (hp_on HX.out hb)
 replace HY:=hide (hp_on HY.out hb)
 replace HB:=hide (HB.out.trans (hb.mono HB.out.size))
 clear hb z0 y0 z1 y1 z2 y2 z3 y3 z4 y4 z5 y5 z6 y6 z7 y7 z8 y8 z9 y9 z10 y10 z11 y11 z12 y12
 obtain ⟨z0,z1,z2,z3,z4,z5,z6,z7,z8,z9,z10,z11,z12,_⟩:=bx13 HX.out
 obtain ⟨y0,y1,y2,y3,y4,y5,y6,y7,y8,y9,y10,y11,y12,_⟩:=bx13 HY.out
 go_wp2_with fail
 refine (H3.out w2 HB.out).mono ?_
 rintro e w3 ⟨rfl,hb⟩
 replace HX:=hide (hp_on HX.out hb)
 replace HY:=hide (hp_on HY.out hb)
 replace HB:=hide (HB.out.trans (hb.mono HB.out.size))
 clear hb z0 y0 z1 y1 z2 y2 z3 y3 z4 y4 z5 y5 z6 y6 z7 y7 z8 y8 z9 y9 z10 y10 z11 y11 z12 y12
 obtain ⟨z0,z1,z2,z3,z4,z5,z6,z7,z8,z9,z10,z11,z12,_⟩:=bx13 HX.out
 obtain ⟨y0,y1,y2,y3,y4,y5,y6,y7,y8,y9,y10,y11,y12,_⟩:=bx13 HY.out
 go_wp2_with fail
 refine (H4.out w3 HB.out).mono ?_
 rintro e w4 ⟨rfl,hb⟩
 replace HX:=hide (hp_on HX.out hb)
 replace HY:=hide (hp_on HY.out hb)
 replace HB:=hide (HB.out.trans (hb.mono HB.out.size))
 clear hb z0 y0 z1 y1 z2 y2 z3 y3 z4 y4 z5 y5 z6 y6 z7 y7 z8 y8 z9 y9 z10 y10 z11 y11 z12 y12
 obtain ⟨z0,z1,z2,z3,z4,z5,z6,z7,z8,z9,z10,z11,z12,_⟩:=bx13 HX.out
 obtain ⟨y0,y1,y2,y3,y4,y5,y6,y7,y8,y9,y10,y11,y12,_⟩:=bx13 HY.out
 go_wp2
 go_ret
 exact ⟨rfl,HB.out⟩
theorem box_setK (w:World) (k j:Nat) (cs:Array Value) (t:TypeId) (v:Value) (h:w.heap[k]? =some (.cells cs t (0,0))):(w.setCell ⟨k,j,none⟩ v).heap[k]? =some (.cells (cs.setIfInBounds j v) t (0,0)):=by
 simp [World.setCell,Array.getElem?_modify,h]
theorem hp_set {W:World} {P Q j:Nat} {v:Value} {X:Obj} (h:W.heap[P]? =some X) (hn:P≠Q):(W.setCell ⟨Q,j,none⟩ v).heap[P]? =some X:=(Below.heap_setCell W ⟨Q,j,none⟩ v P hn).trans h
theorem RdBm.ltr {C:Nat} {w:World} {v:Value} {m:Bm} (h:RdBm C w v m):∃kj o nj c sf kp ob np cb oR nr cR ot nt ct,v=(balv kj (.slice o nj c) sf kp (.slice ob np cb) (.slice oR nr cR) (.slice ot nt ct)):=by
 obtain ⟨o,c,ob,cb,oR,cR,ot,ct,e⟩:=h.opn
 exact ⟨_,o,_,c,_,_,ob,_,cb,oR,_,cR,ot,_,ct,e⟩
theorem RiE.ltr {η α:Type} {E:El η α} {lo hi:Nat} {w:World} {v:Value} {xs:List α} (h:RiE E lo hi w v xs):∃o n c,v=.slice o n c:=by
 obtain ⟨o,c,e⟩:=h.len
 exact ⟨o,_,c,e⟩
theorem toCluster_sh (v:Value) (m:Km) (w:World) (hR:RdKm w.heap.size w v m) (hf:fitKm m):
  Calls Tryz.prog 13 #[v] w fun e w'=> ∃v',e=.returned v'∧InKm w.heap.size w'.heap.size w' v' m∧Below w.heap.size w w':=by
 obtain ⟨kj,o,nj,c,sf,kp,ob,np,cb,oR,nr,cR,ot,nt,ct,oa,na,ca,om,nm,cm,og,ng,cg,rfl,r1,r2,r3,r4,ea,em,eg⟩:=hR.opn
 obtain ⟨f1,f2,f3,f4,f5⟩:=hf
 have H1:=hide (fun W (hb:Below w.heap.size w W)=> toBal_sh (balv kj (.slice o nj c) sf kp (.slice ob np cb) (.slice oR nr cR) (.slice ot nt ct)) m.bal W ((r1.kept hb (Nat.le_refl _)).le hb.size) f1)
 have H2:=hide (fun W (hb:Below w.heap.size w W)=> toAgentS_any (.slice oa na ca) m.ags W (r2.on hb) (by omega) (fun i hi=> fitA f2 i hi))
 have H3:=hide (fun W (hb:Below w.heap.size w W)=> toMailS_any (.slice om nm cm) m.bag W (r3.on hb) (by omega) (fun i hi=> fitM f3 f5 i hi))
 have H4:Hid (∀W,Below w.heap.size w W→Calls Tryz.prog 48 #[.slice og ng cg] W fun e w'=> ∃o' n' c',e=.returned (.slice o' n' c')∧InL layGt 98 W.heap.size w'.heap.size w' (.slice o' n' c') m.got∧Below W.heap.size W w'):=fun W hb=> by
  obtain ⟨o',c',e1,q1⟩:=r4
  rw [e1]
  refine (toGotS_any o' c' m.got W ((q1.kept hb (Nat.le_refl _)).le hb.size) f4).mono ?_
  rintro e w' ⟨g,rfl,ho,hb'⟩
  exact ⟨_,_,_,rfl,InRow.of ho,hb'⟩
 obtain ⟨now,e0⟩:∃q,m.now=q:=⟨_,rfl⟩
 obtain ⟨rst,e1⟩:∃q,m.rst=q:=⟨_,rfl⟩
 obtain ⟨gone,e2⟩:∃q,m.gone=q:=⟨_,rfl⟩
 have HE:=hide (And.intro e0 (And.intro e1 e2))
 rw [e0,e1,e2]
 clear e0 e1 e2 r1 r2 r3 r4 ea em eg f1 f2 f3 f4 f5 hR
 obtain ⟨W0,hW0⟩:∃W,(((w.alloc (.cells #[.int .i64 now,.int .i64 kj,.slice o nj c,.int .i64 sf,.int .i64 kp,.slice ob np cb,.slice oR nr cR,.slice ot nt ct,.slice oa na ca,.slice om nm cm,.slice og ng cg,.int .i64 rst,.int .i64 gone] 38)).alloc (.cells #[.int .i64 0,.int .i64 0,.slice none 0 0,.int .i64 0,.int .i64 0,.slice none 0 0,.slice none 0 0,.slice none 0 0,.slice none 0 0,.slice none 0 0,.slice none 0 0,.int .i64 0,.int .i64 0] 56)).alloc (.cells #[.int .i64 0,.int .i64 0,.slice none 0 0,.int .i64 0,.int .i64 0,.slice none 0 0,.slice none 0 0,.slice none 0 0,.slice none 0 0,.slice none 0 0,.slice none 0 0,.int .i64 0,.int .i64 0] 56))=W:=⟨_,rfl⟩
 have hb1:Below w.heap.size w (w.alloc (.cells #[.int .i64 now,.int .i64 kj,.slice o nj c,.int .i64 sf,.int .i64 kp,.slice ob np cb,.slice oR nr cR,.slice ot nt ct,.slice oa na ca,.slice om nm cm,.slice og ng cg,.int .i64 rst,.int .i64 gone] 38)):=(Below.refl _ _).alloc (Nat.le_refl _) _
 have hb2:=hb1.alloc hb1.size (.cells #[.int .i64 0,.int .i64 0,.slice none 0 0,.int .i64 0,.int .i64 0,.slice none 0 0,.slice none 0 0,.slice none 0 0,.slice none 0 0,.slice none 0 0,.slice none 0 0,.int .i64 0,.int .i64 0] 56)
 have hb0:Below w.heap.size w W0:=by rw [←hW0];exact hb2.alloc hb2.size _
 have hs0:W0.heap.size=w.heap.size+1+1+1:=by rw [←hW0];simp
 have bp:W0.heap[w.heap.size]? =some (.cells #[.int .i64 now,.int .i64 kj,.slice o nj c,.int .i64 sf,.int .i64 kp,.slice ob np cb,.slice oR nr cR,.slice ot nt ct,.slice oa na ca,.slice om nm cm,.slice og ng cg,.int .i64 rst,.int .i64 gone] 38 (0,0)):=by rw [←hW0];exact (Below.heap_alloc _ _ _ (by simp <;> omega)).trans ((Below.heap_alloc _ _ _ (by simp)).trans (World.alloc_heap_new w _))
 have br:W0.heap[w.heap.size+1]? =some (.cells #[.int .i64 0,.int .i64 0,.slice none 0 0,.int .i64 0,.int .i64 0,.slice none 0 0,.slice none 0 0,.slice none 0 0,.slice none 0 0,.slice none 0 0,.slice none 0 0,.int .i64 0,.int .i64 0] 56 (0,0)):=by rw [←hW0];exact box_mid3 w _ _ _ _
 have bx:W0.heap[w.heap.size+1+1]? =some (.cells #[.int .i64 0,.int .i64 0,.slice none 0 0,.int .i64 0,.int .i64 0,.slice none 0 0,.slice none 0 0,.slice none 0 0,.slice none 0 0,.slice none 0 0,.slice none 0 0,.int .i64 0,.int .i64 0] 56 (0,0)):=by rw [←hW0];exact box_new3 w _ _ _ _
 have HP:=hide bp
 have HRb:=hide br
 have HX:=hide bx
 have HB:=hide hb0
 clear hb1 hb2 hb0 bp br bx
 obtain ⟨q0,q1,q2,q3,q4,q5,q6,q7,q8,q9,q10,q11,q12,_⟩:=bx13 HP.out
 clear q1 q2 q3 q4 q5 q6 q7 q8 q9 q10 q11 q12
 obtain ⟨x0,x1,x2,x3,x4,x5,x6,x7,x8,x9,x10,x11,x12,xf⟩:=bx13 HX.out
 have xf0:=xf 0
 clear xf x1 x2 x3 x4 x5 x6 x7 x8 x9 x10 x11 x12
 obtain ⟨V0,hV0⟩:∃W,(W0.setCell ⟨w.heap.size+1+1,0,none⟩ (.int .i64 now))=W:=⟨_,rfl⟩
 have nX:V0.heap[w.heap.size+1+1]? =some (.cells #[.int .i64 now,.int .i64 0,.slice none 0 0,.int .i64 0,.int .i64 0,.slice none 0 0,.slice none 0 0,.slice none 0 0,.slice none 0 0,.slice none 0 0,.slice none 0 0,.int .i64 0,.int .i64 0] 56 (0,0)):=by rw [←hV0];simpa using (box_setK _ _ 0 _ _ (.int .i64 now) HX.out)
 have nP:V0.heap[w.heap.size]? =some (.cells #[.int .i64 now,.int .i64 kj,.slice o nj c,.int .i64 sf,.int .i64 kp,.slice ob np cb,.slice oR nr cR,.slice ot nt ct,.slice oa na ca,.slice om nm cm,.slice og ng cg,.int .i64 rst,.int .i64 gone] 38 (0,0)):=by rw [←hV0];exact (hp_set HP.out (by omega))
 have nR:V0.heap[w.heap.size+1]? =some (.cells #[.int .i64 0,.int .i64 0,.slice none 0 0,.int .i64 0,.int .i64 0,.slice none 0 0,.slice none 0 0,.slice none 0 0,.slice none 0 0,.slice none 0 0,.slice none 0 0,.int .i64 0,.int .i64 0] 56 (0,0)):=by rw [←hV0];exact (hp_set HRb.out (by omega))
 have nB:Below w.heap.size w V0:=by rw [←hV0];exact (HB.out.setCell (p:=⟨w.heap.size+1+1,0,none⟩) (show w.heap.size≤w.heap.size+1+1 by omega) _)
 have nS:Stp (w.heap.size+1+1) (w.heap.size+1+1+1) W0 V0:=by rw [←hV0];exact ((Stp.refl _).trans (stp_set1 _ _ _ _))
 obtain ⟨p0,p1,p2,p3,p4,p5,p6,p7,p8,p9,p10,p11,p12,_⟩:=bx13 nP
 clear p0 p8 p9 p10 p11 p12
 have HN:=hide (And.intro nX (And.intro nP (And.intro nR (And.intro nB nS))))
 clear nX nP nR nB nS
 go_enter Tryz.func13,Tryz.ntmps13
 go_wp2_with fail
 replace HX:=hide HN.out.1
 replace HP:=hide HN.out.2.1
 replace HRb:=hide HN.out.2.2.1
 replace HB:=hide HN.out.2.2.2.1
 have hszV0:V0.heap.size=W0.heap.size:=by rw [←hV0];simp
 clear q0 hW0 HN hV0 p1 p2 p3 p4 p5 p6 p7 x0 xf0
 refine (H1.out V0 HB.out).mono ?_
 rintro e w1 ⟨vb2,rfl,inb,hb⟩
 obtain ⟨kj2,o2,nj2,c2,sf2,kp2,ob2,np2,cb2,oR2,nr2,cR2,ot2,nt2,ct2,eb2⟩:=inb.rd.ltr
 subst eb2
 have IB:=hide inb
 replace HX:=hide (hp_on HX.out hb)
 replace HP:=hide (hp_on HP.out hb)
 replace HRb:=hide (hp_on HRb.out hb)
 replace HB:=hide (HB.out.trans (hb.mono HB.out.size))
 have hsw1:=hb.size
 clear hb
 clear H1 inb
 obtain ⟨x0,x1,x2,x3,x4,x5,x6,x7,x8,x9,x10,x11,x12,xf⟩:=bx13 HX.out
 have xf1:=xf 1
 have xf2:=xf 2
 have xf3:=xf 3
 have xf4:=xf 4
 have xf5:=xf 5
 have xf6:=xf 6
 have xf7:=xf 7
 clear xf x0 x8 x9 x10 x11 x12
 obtain ⟨V1,hV1⟩:∃W,(((((((w1.setCell ⟨w.heap.size+1+1,1,none⟩ (.int .i64 kj2)).setCell ⟨w.heap.size+1+1,2,none⟩ (.slice o2 nj2 c2)).setCell ⟨w.heap.size+1+1,3,none⟩ (.int .i64 sf2)).setCell ⟨w.heap.size+1+1,4,none⟩ (.int .i64 kp2)).setCell ⟨w.heap.size+1+1,5,none⟩ (.slice ob2 np2 cb2)).setCell ⟨w.heap.size+1+1,6,none⟩ (.slice oR2 nr2 cR2)).setCell ⟨w.heap.size+1+1,7,none⟩ (.slice ot2 nt2 ct2))=W:=⟨_,rfl⟩
 have nX:V1.heap[w.heap.size+1+1]? =some (.cells #[.int .i64 now,.int .i64 kj2,.slice o2 nj2 c2,.int .i64 sf2,.int .i64 kp2,.slice ob2 np2 cb2,.slice oR2 nr2 cR2,.slice ot2 nt2 ct2,.slice none 0 0,.slice none 0 0,.slice none 0 0,.int .i64 0,.int .i64 0] 56 (0,0)):=by rw [←hV1];simpa using (box_setK _ _ 7 _ _ (.slice ot2 nt2 ct2) (box_setK _ _ 6 _ _ (.slice oR2 nr2 cR2) (box_setK _ _ 5 _ _ (.slice ob2 np2 cb2) (box_setK _ _ 4 _ _ (.int .i64 kp2) (box_setK _ _ 3 _ _ (.int .i64 sf2) (box_setK _ _ 2 _ _ (.slice o2 nj2 c2) (box_setK _ _ 1 _ _ (.int .i64 kj2) HX.out)))))))
 have nP:V1.heap[w.heap.size]? =some (.cells #[.int .i64 now,.int .i64 kj,.slice o nj c,.int .i64 sf,.int .i64 kp,.slice ob np cb,.slice oR nr cR,.slice ot nt ct,.slice oa na ca,.slice om nm cm,.slice og ng cg,.int .i64 rst,.int .i64 gone] 38 (0,0)):=by rw [←hV1];exact (hp_set (hp_set (hp_set (hp_set (hp_set (hp_set (hp_set HP.out (by omega)) (by omega)) (by omega)) (by omega)) (by omega)) (by omega)) (by omega))
 have nR:V1.heap[w.heap.size+1]? =some (.cells #[.int .i64 0,.int .i64 0,.slice none 0 0,.int .i64 0,.int .i64 0,.slice none 0 0,.slice none 0 0,.slice none 0 0,.slice none 0 0,.slice none 0 0,.slice none 0 0,.int .i64 0,.int .i64 0] 56 (0,0)):=by rw [←hV1];exact (hp_set (hp_set (hp_set (hp_set (hp_set (hp_set (hp_set HRb.out (by omega)) (by omega)) (by omega)) (by omega)) (by omega)) (by omega)) (by omega))
 have nB:Below w.heap.size w V1:=by rw [←hV1];exact (((((((HB.out.setCell (p:=⟨w.heap.size+1+1,1,none⟩) (show w.heap.size≤w.heap.size+1+1 by omega) _).setCell (p:=⟨w.heap.size+1+1,2,none⟩) (show w.heap.size≤w.heap.size+1+1 by omega) _).setCell (p:=⟨w.heap.size+1+1,3,none⟩) (show w.heap.size≤w.heap.size+1+1 by omega) _).setCell (p:=⟨w.heap.size+1+1,4,none⟩) (show w.heap.size≤w.heap.size+1+1 by omega) _).setCell (p:=⟨w.heap.size+1+1,5,none⟩) (show w.heap.size≤w.heap.size+1+1 by omega) _).setCell (p:=⟨w.heap.size+1+1,6,none⟩) (show w.heap.size≤w.heap.size+1+1 by omega) _).setCell (p:=⟨w.heap.size+1+1,7,none⟩) (show w.heap.size≤w.heap.size+1+1 by omega) _)
 have nS:Stp (w.heap.size+1+1) (w.heap.size+1+1+1) w1 V1:=by rw [←hV1];exact ((((((((Stp.refl _).trans (stp_set1 _ _ _ _)).trans (stp_set1 _ _ _ _)).trans (stp_set1 _ _ _ _)).trans (stp_set1 _ _ _ _)).trans (stp_set1 _ _ _ _)).trans (stp_set1 _ _ _ _)).trans (stp_set1 _ _ _ _))
 obtain ⟨p0,p1,p2,p3,p4,p5,p6,p7,p8,p9,p10,p11,p12,_⟩:=bx13 nP
 clear p0 p1 p2 p3 p4 p5 p6 p7 p9 p10 p11 p12
 have HN:=hide (And.intro nX (And.intro nP (And.intro nR (And.intro nB nS))))
 clear nX nP nR nB nS
 go_wp2_with fail
 replace HX:=hide HN.out.1
 replace HP:=hide HN.out.2.1
 replace HRb:=hide HN.out.2.2.1
 replace HB:=hide HN.out.2.2.2.1
 have hszV1:V1.heap.size=w1.heap.size:=by rw [←hV1];simp
 replace IB:=hide (IB.out.step HN.out.2.2.2.2 (.inl (by omega)))
 clear HN hV1 p8 x1 xf1 x2 xf2 x3 xf3 x4 xf4 x5 xf5 x6 xf6 x7 xf7
 refine (H2.out V1 HB.out).mono ?_
 rintro e w2 ⟨va2,rfl,ina,hb⟩
 obtain ⟨oa2,na2,ca2,ea2⟩:=ina.ri.ltr
 subst ea2
 have IA:=hide ina
 replace HX:=hide (hp_on HX.out hb)
 replace HP:=hide (hp_on HP.out hb)
 replace HRb:=hide (hp_on HRb.out hb)
 replace HB:=hide (HB.out.trans (hb.mono HB.out.size))
 have hsw2:=hb.size
 replace IB:=hide (IB.out.step (Stp.of (lo:=0) (hi:=0) hb) (.inl (Nat.zero_le _)))
 clear hb
 clear H2 ina
 obtain ⟨x0,x1,x2,x3,x4,x5,x6,x7,x8,x9,x10,x11,x12,xf⟩:=bx13 HX.out
 have xf8:=xf 8
 clear xf x0 x1 x2 x3 x4 x5 x6 x7 x9 x10 x11 x12
 obtain ⟨V2,hV2⟩:∃W,(w2.setCell ⟨w.heap.size+1+1,8,none⟩ (.slice oa2 na2 ca2))=W:=⟨_,rfl⟩
 have nX:V2.heap[w.heap.size+1+1]? =some (.cells #[.int .i64 now,.int .i64 kj2,.slice o2 nj2 c2,.int .i64 sf2,.int .i64 kp2,.slice ob2 np2 cb2,.slice oR2 nr2 cR2,.slice ot2 nt2 ct2,.slice oa2 na2 ca2,.slice none 0 0,.slice none 0 0,.int .i64 0,.int .i64 0] 56 (0,0)):=by rw [←hV2];simpa using (box_setK _ _ 8 _ _ (.slice oa2 na2 ca2) HX.out)
 have nP:V2.heap[w.heap.size]? =some (.cells #[.int .i64 now,.int .i64 kj,.slice o nj c,.int .i64 sf,.int .i64 kp,.slice ob np cb,.slice oR nr cR,.slice ot nt ct,.slice oa na ca,.slice om nm cm,.slice og ng cg,.int .i64 rst,.int .i64 gone] 38 (0,0)):=by rw [←hV2];exact (hp_set HP.out (by omega))
 have nR:V2.heap[w.heap.size+1]? =some (.cells #[.int .i64 0,.int .i64 0,.slice none 0 0,.int .i64 0,.int .i64 0,.slice none 0 0,.slice none 0 0,.slice none 0 0,.slice none 0 0,.slice none 0 0,.slice none 0 0,.int .i64 0,.int .i64 0] 56 (0,0)):=by rw [←hV2];exact (hp_set HRb.out (by omega))
 have nB:Below w.heap.size w V2:=by rw [←hV2];exact (HB.out.setCell (p:=⟨w.heap.size+1+1,8,none⟩) (show w.heap.size≤w.heap.size+1+1 by omega) _)
 have nS:Stp (w.heap.size+1+1) (w.heap.size+1+1+1) w2 V2:=by rw [←hV2];exact ((Stp.refl _).trans (stp_set1 _ _ _ _))
 obtain ⟨p0,p1,p2,p3,p4,p5,p6,p7,p8,p9,p10,p11,p12,_⟩:=bx13 nP
 clear p0 p1 p2 p3 p4 p5 p6 p7 p8 p10 p11 p12
 have HN:=hide (And.intro nX (And.intro nP (And.intro nR (And.intro nB nS))))
 clear nX nP nR nB nS
 go_wp2_with fail
 replace HX:=hide HN.out.1
 replace HP:=hide HN.out.2.1
 replace HRb:=hide HN.out.2.2.1
 replace HB:=hide HN.out.2.2.2.1
 have hszV2:V2.heap.size=w2.heap.size:=by rw [←hV2];simp
 replace IB:=hide (IB.out.step HN.out.2.2.2.2 (.inl (by omega)))
 replace IA:=hide ((InE.stp _ _).go IA.out HN.out.2.2.2.2 (.inl (by omega)))
 clear HN hV2 p9 x8 xf8
 refine (H3.out V2 HB.out).mono ?_
 rintro e w3 ⟨vm2,rfl,inm,hb⟩
 obtain ⟨om2,nm2,cm2,em2⟩:=inm.ri.ltr
 subst em2
 have IM:=hide inm
 replace HX:=hide (hp_on HX.out hb)
 replace HP:=hide (hp_on HP.out hb)
 replace HRb:=hide (hp_on HRb.out hb)
 replace HB:=hide (HB.out.trans (hb.mono HB.out.size))
 have hsw3:=hb.size
 replace IB:=hide (IB.out.step (Stp.of (lo:=0) (hi:=0) hb) (.inl (Nat.zero_le _)))
 replace IA:=hide ((InE.stp _ _).go IA.out (Stp.of (lo:=0) (hi:=0) hb) (.inl (Nat.zero_le _)))
 clear hb
 clear H3 inm
 obtain ⟨x0,x1,x2,x3,x4,x5,x6,x7,x8,x9,x10,x11,x12,xf⟩:=bx13 HX.out
 have xf9:=xf 9
 clear xf x0 x1 x2 x3 x4 x5 x6 x7 x8 x10 x11 x12
 obtain ⟨V3,hV3⟩:∃W,(w3.setCell ⟨w.heap.size+1+1,9,none⟩ (.slice om2 nm2 cm2))=W:=⟨_,rfl⟩
 have nX:V3.heap[w.heap.size+1+1]? =some (.cells #[.int .i64 now,.int .i64 kj2,.slice o2 nj2 c2,.int .i64 sf2,.int .i64 kp2,.slice ob2 np2 cb2,.slice oR2 nr2 cR2,.slice ot2 nt2 ct2,.slice oa2 na2 ca2,.slice om2 nm2 cm2,.slice none 0 0,.int .i64 0,.int .i64 0] 56 (0,0)):=by rw [←hV3];simpa using (box_setK _ _ 9 _ _ (.slice om2 nm2 cm2) HX.out)
 have nP:V3.heap[w.heap.size]? =some (.cells #[.int .i64 now,.int .i64 kj,.slice o nj c,.int .i64 sf,.int .i64 kp,.slice ob np cb,.slice oR nr cR,.slice ot nt ct,.slice oa na ca,.slice om nm cm,.slice og ng cg,.int .i64 rst,.int .i64 gone] 38 (0,0)):=by rw [←hV3];exact (hp_set HP.out (by omega))
 have nR:V3.heap[w.heap.size+1]? =some (.cells #[.int .i64 0,.int .i64 0,.slice none 0 0,.int .i64 0,.int .i64 0,.slice none 0 0,.slice none 0 0,.slice none 0 0,.slice none 0 0,.slice none 0 0,.slice none 0 0,.int .i64 0,.int .i64 0] 56 (0,0)):=by rw [←hV3];exact (hp_set HRb.out (by omega))
 have nB:Below w.heap.size w V3:=by rw [←hV3];exact (HB.out.setCell (p:=⟨w.heap.size+1+1,9,none⟩) (show w.heap.size≤w.heap.size+1+1 by omega) _)
 have nS:Stp (w.heap.size+1+1) (w.heap.size+1+1+1) w3 V3:=by rw [←hV3];exact ((Stp.refl _).trans (stp_set1 _ _ _ _))
 obtain ⟨p0,p1,p2,p3,p4,p5,p6,p7,p8,p9,p10,p11,p12,_⟩:=bx13 nP
 clear p0 p1 p2 p3 p4 p5 p6 p7 p8 p9 p11 p12
 have HN:=hide (And.intro nX (And.intro nP (And.intro nR (And.intro nB nS))))
 clear nX nP nR nB nS
 go_wp2_with fail
 replace HX:=hide HN.out.1
 replace HP:=hide HN.out.2.1
 replace HRb:=hide HN.out.2.2.1
 replace HB:=hide HN.out.2.2.2.1
 have hszV3:V3.heap.size=w3.heap.size:=by rw [←hV3];simp
 replace IB:=hide (IB.out.step HN.out.2.2.2.2 (.inl (by omega)))
 replace IA:=hide ((InE.stp _ _).go IA.out HN.out.2.2.2.2 (.inl (by omega)))
 replace IM:=hide ((InE.stp _ _).go IM.out HN.out.2.2.2.2 (.inl (by omega)))
 clear HN hV3 p10 x9 xf9
 refine (H4.out V3 HB.out).mono ?_
 rintro e w4 ⟨og2,ng2,cg2,rfl,ing,hb⟩
 have IG:=hide ing
 replace HX:=hide (hp_on HX.out hb)
 replace HP:=hide (hp_on HP.out hb)
 replace HRb:=hide (hp_on HRb.out hb)
 replace HB:=hide (HB.out.trans (hb.mono HB.out.size))
 have hsw4:=hb.size
 replace IB:=hide (IB.out.step (Stp.of (lo:=0) (hi:=0) hb) (.inl (Nat.zero_le _)))
 replace IA:=hide ((InE.stp _ _).go IA.out (Stp.of (lo:=0) (hi:=0) hb) (.inl (Nat.zero_le _)))
 replace IM:=hide ((InE.stp _ _).go IM.out (Stp.of (lo:=0) (hi:=0) hb) (.inl (Nat.zero_le _)))
 clear hb
 clear H4 ing
 obtain ⟨x0,x1,x2,x3,x4,x5,x6,x7,x8,x9,x10,x11,x12,xf⟩:=bx13 HX.out
 have xf10:=xf 10
 have xf11:=xf 11
 have xf12:=xf 12
 clear xf x0 x1 x2 x3 x4 x5 x6 x7 x8 x9
 obtain ⟨q0,q1,q2,q3,q4,q5,q6,q7,q8,q9,q10,q11,q12,_⟩:=bx13 HP.out
 clear q0 q1 q2 q3 q4 q5 q6 q7 q8 q9 q10
 obtain ⟨V4,hV4⟩:∃W,(((w4.setCell ⟨w.heap.size+1+1,10,none⟩ (.slice og2 ng2 cg2)).setCell ⟨w.heap.size+1+1,11,none⟩ (.int .i64 rst)).setCell ⟨w.heap.size+1+1,12,none⟩ (.int .i64 gone))=W:=⟨_,rfl⟩
 have nX:V4.heap[w.heap.size+1+1]? =some (.cells #[.int .i64 now,.int .i64 kj2,.slice o2 nj2 c2,.int .i64 sf2,.int .i64 kp2,.slice ob2 np2 cb2,.slice oR2 nr2 cR2,.slice ot2 nt2 ct2,.slice oa2 na2 ca2,.slice om2 nm2 cm2,.slice og2 ng2 cg2,.int .i64 rst,.int .i64 gone] 56 (0,0)):=by rw [←hV4];simpa using (box_setK _ _ 12 _ _ (.int .i64 gone) (box_setK _ _ 11 _ _ (.int .i64 rst) (box_setK _ _ 10 _ _ (.slice og2 ng2 cg2) HX.out)))
 have nP:V4.heap[w.heap.size]? =some (.cells #[.int .i64 now,.int .i64 kj,.slice o nj c,.int .i64 sf,.int .i64 kp,.slice ob np cb,.slice oR nr cR,.slice ot nt ct,.slice oa na ca,.slice om nm cm,.slice og ng cg,.int .i64 rst,.int .i64 gone] 38 (0,0)):=by rw [←hV4];exact (hp_set (hp_set (hp_set HP.out (by omega)) (by omega)) (by omega))
 have nR:V4.heap[w.heap.size+1]? =some (.cells #[.int .i64 0,.int .i64 0,.slice none 0 0,.int .i64 0,.int .i64 0,.slice none 0 0,.slice none 0 0,.slice none 0 0,.slice none 0 0,.slice none 0 0,.slice none 0 0,.int .i64 0,.int .i64 0] 56 (0,0)):=by rw [←hV4];exact (hp_set (hp_set (hp_set HRb.out (by omega)) (by omega)) (by omega))
 have nB:Below w.heap.size w V4:=by rw [←hV4];exact (((HB.out.setCell (p:=⟨w.heap.size+1+1,10,none⟩) (show w.heap.size≤w.heap.size+1+1 by omega) _).setCell (p:=⟨w.heap.size+1+1,11,none⟩) (show w.heap.size≤w.heap.size+1+1 by omega) _).setCell (p:=⟨w.heap.size+1+1,12,none⟩) (show w.heap.size≤w.heap.size+1+1 by omega) _)
 have nS:Stp (w.heap.size+1+1) (w.heap.size+1+1+1) w4 V4:=by rw [←hV4];exact ((((Stp.refl _).trans (stp_set1 _ _ _ _)).trans (stp_set1 _ _ _ _)).trans (stp_set1 _ _ _ _))
 obtain ⟨p0,p1,p2,p3,p4,p5,p6,p7,p8,p9,p10,p11,p12,_⟩:=bx13 nP
 clear p0 p1 p2 p3 p4 p5 p6 p7 p8 p9 p10 p11 p12
 have HN:=hide (And.intro nX (And.intro nP (And.intro nR (And.intro nB nS))))
 clear nX nP nR nB nS
 obtain ⟨y0,y1,y2,y3,y4,y5,y6,y7,y8,y9,y10,y11,y12,_⟩:=bx13 HN.out.1
 obtain ⟨r0,r1,r2,r3,r4,r5,r6,r7,r8,r9,r10,r11,r12,rf⟩:=bx13 HN.out.2.2.1
 have rf0:=rf 0
 have rf1:=rf 1
 have rf2:=rf 2
 have rf3:=rf 3
 have rf4:=rf 4
 have rf5:=rf 5
 have rf6:=rf 6
 have rf7:=rf 7
 have rf8:=rf 8
 have rf9:=rf 9
 have rf10:=rf 10
 have rf11:=rf 11
 have rf12:=rf 12
 clear rf
 have hszV4:V4.heap.size=w4.heap.size:=by rw [←hV4];simp
 go_wp2
 refine bodyPost_ret (v:=(kmv now kj2 (.slice o2 nj2 c2) sf2 kp2 (.slice ob2 np2 cb2) (.slice oR2 nr2 cR2) (.slice ot2 nt2 ct2) (.slice oa2 na2 ca2) (.slice om2 nm2 cm2) (.slice og2 ng2 cg2) rst gone)) (by simp [results,Tryz.results13,go_sem,r0,r1,r2,r3,r4,r5,r6,r7,r8,r9,r10,r11,r12]) rfl ⟨_,rfl, ?_, ?_⟩
 ·have s1:=HN.out.2.2.2.2
  have s2:Stp (w.heap.size+1) (w.heap.size+1+1) _ (((((((((((((V4.setCell ⟨w.heap.size+1,0,none⟩ (.int .i64 now)).setCell ⟨w.heap.size+1,1,none⟩ (.int .i64 kj2)).setCell ⟨w.heap.size+1,2,none⟩ (.slice o2 nj2 c2)).setCell ⟨w.heap.size+1,3,none⟩ (.int .i64 sf2)).setCell ⟨w.heap.size+1,4,none⟩ (.int .i64 kp2)).setCell ⟨w.heap.size+1,5,none⟩ (.slice ob2 np2 cb2)).setCell ⟨w.heap.size+1,6,none⟩ (.slice oR2 nr2 cR2)).setCell ⟨w.heap.size+1,7,none⟩ (.slice ot2 nt2 ct2)).setCell ⟨w.heap.size+1,8,none⟩ (.slice oa2 na2 ca2)).setCell ⟨w.heap.size+1,9,none⟩ (.slice om2 nm2 cm2)).setCell ⟨w.heap.size+1,10,none⟩ (.slice og2 ng2 cg2)).setCell ⟨w.heap.size+1,11,none⟩ (.int .i64 rst)).setCell ⟨w.heap.size+1,12,none⟩ (.int .i64 gone)):=((((((((((((((Stp.refl _).trans (stp_set1 _ _ _ _)).trans (stp_set1 _ _ _ _)).trans (stp_set1 _ _ _ _)).trans (stp_set1 _ _ _ _)).trans (stp_set1 _ _ _ _)).trans (stp_set1 _ _ _ _)).trans (stp_set1 _ _ _ _)).trans (stp_set1 _ _ _ _)).trans (stp_set1 _ _ _ _)).trans (stp_set1 _ _ _ _)).trans (stp_set1 _ _ _ _)).trans (stp_set1 _ _ _ _)).trans (stp_set1 _ _ _ _))
  refine ⟨kj2,.slice o2 nj2 c2,sf2,kp2,.slice ob2 np2 cb2,.slice oR2 nr2 cR2,.slice ot2 nt2 ct2,.slice oa2 na2 ca2,.slice om2 nm2 cm2,.slice og2 ng2 cg2,V0.heap.size,w1.heap.size,V1.heap.size,w2.heap.size,V2.heap.size,w3.heap.size,V3.heap.size,w4.heap.size,by rw [HE.out.1,HE.out.2.1,HE.out.2.2], ?_,(IB.out.step s1 (.inl (by omega))).step s2 (.inl (by omega)),(InE.stp _ _).go ((InE.stp _ _).go IA.out s1 (.inl (by omega))) s2 (.inl (by omega)),(InE.stp _ _).go ((InE.stp _ _).go IM.out s1 (.inl (by omega))) s2 (.inl (by omega)),InRow.step (InRow.step IG.out s1 (.inl (by omega))) s2 (.inl (by omega))⟩
  simp only [World.setCell,Array.size_modify]
  omega
 ·have hb:=HN.out.2.2.2.1
  exact (((((((((((((hb.setCell (p:=⟨w.heap.size+1,0,none⟩) (show w.heap.size≤w.heap.size+1 by omega) _).setCell (p:=⟨w.heap.size+1,1,none⟩) (show w.heap.size≤w.heap.size+1 by omega) _).setCell (p:=⟨w.heap.size+1,2,none⟩) (show w.heap.size≤w.heap.size+1 by omega) _).setCell (p:=⟨w.heap.size+1,3,none⟩) (show w.heap.size≤w.heap.size+1 by omega) _).setCell (p:=⟨w.heap.size+1,4,none⟩) (show w.heap.size≤w.heap.size+1 by omega) _).setCell (p:=⟨w.heap.size+1,5,none⟩) (show w.heap.size≤w.heap.size+1 by omega) _).setCell (p:=⟨w.heap.size+1,6,none⟩) (show w.heap.size≤w.heap.size+1 by omega) _).setCell (p:=⟨w.heap.size+1,7,none⟩) (show w.heap.size≤w.heap.size+1 by omega) _).setCell (p:=⟨w.heap.size+1,8,none⟩) (show w.heap.size≤w.heap.size+1 by omega) _).setCell (p:=⟨w.heap.size+1,9,none⟩) (show w.heap.size≤w.heap.size+1 by omega) _).setCell (p:=⟨w.heap.size+1,10,none⟩) (show w.heap.size≤w.heap.size+1 by omega) _).setCell (p:=⟨w.heap.size+1,11,none⟩) (show w.heap.size≤w.heap.size+1 by omega) _).setCell (p:=⟨w.heap.size+1,12,none⟩) (show w.heap.size≤w.heap.size+1 by omega) _)
theorem open_listE {H η α:Type} {enc:TypeId × Value→H} {P:Program} {W:World} {t e:TypeId} {fuel:Nat} {cs:List Value} {x:DataW H × List MemPlace} (E:El η α) (Z:α→Prop) (ht:P.underlying t=some (.slice e)) (ce:P.cellsOf e=E.L.k)
  (hel:∀(n:Nat) (cs:List Value) (y:DataW H × List MemPlace),cs.length=E.L.k→DataW.trod enc P W 0 (fun _=> true) true n e cs=some y→∃(a:η) (m:α),cs=E.L.cs a∧E.R 0 W.heap.size W (E.val a) m∧Z m)
  (h:DataW.trod enc P W 0 (fun _=> true) true fuel t cs=some x):
  ∃(o:Option Addr) (cap:Nat) (xs:List α),cs=[.slice o xs.length cap]∧xs.length≤maxLen∧RiE E 0 W.heap.size W (.slice o xs.length cap) xs∧∀i,i < xs.length→Z (xs.getD i E.d):=by
 rcases Go.Deep.open_slice ht h with ⟨hcs,_⟩|⟨a,len,cap,m,n,D,Pl,hcs,_,hl,hm,hmm,_,hx⟩
 ·exact ⟨none,0,[],hcs,Nat.zero_le _,⟨[],rfl,⟨none,0,rfl,.inl rfl⟩,fun i hi=> absurd hi (Nat.not_lt_zero _)⟩,fun i hi=> absurd hi (Nat.not_lt_zero _)⟩
 ·have hlm:len≤m:=by rw [hmm];split <;> omega
  have ex:∀i,i < len→∃y:η × α,(∀j,j < E.L.k→W.cell? (a.add (i * E.L.k+j))=(E.L.cs y.1)[j]?)∧E.R 0 W.heap.size W (E.val y.1) y.2∧Z y.2:=fun i hi=> by
   obtain ⟨cs',h1,h2⟩:=hx i (by omega)
   rw [ce] at h1
   obtain ⟨_,hlen,hcell⟩:=World.cells?_some h1
   obtain ⟨y,z,rfl,hr,hz⟩:=hel n cs' _ hlen h2
   exact ⟨(y,z),fun j hj=> (by have:=hcell j hj;rwa [Go.Deep.add_add] at this),hr,hz⟩
  have hne:Inhabited (η × α):=⟨(E.L.d,E.d)⟩
  obtain ⟨f,hf⟩:=Go.Deep.choose_lt ex
  have gd:∀i,i < len→((List.range len).map (fun i=> (f i).2)).getD i E.d=(f i).2:=fun i hi=> by simp [hi]
  have gh:∀i,i < len→((List.range len).map (fun i=> (f i).1)).getD i E.L.d=(f i).1:=fun i hi=> by simp [hi]
  refine ⟨some a,cap,(List.range len).map (fun i=> (f i).2),by simpa using hcs,by simp;omega,⟨(List.range len).map (fun i=> (f i).1),by simp,⟨some a,cap,by simp, ?_⟩,fun i hi=> ?_⟩,fun i hi=> ?_⟩
  ·by_cases h0:len=0
   ·left;simp [h0]
   ·right
    obtain ⟨b,off,spot⟩:=a
    have hc:=(hf 0 (by omega)).1 0 E.pos
    rw [List.getElem?_eq_getElem (by rw [E.L.len];exact E.pos)] at hc
    have hspot:spot=none:=by simpa [Addr.add] using World.cell?_spot hc
    subst hspot
    have e2:∀j,(⟨b,off,none⟩:Addr).add j=⟨b,off+j,none⟩:=fun j=> by by_cases h:j=0 <;> simp [Addr.add,h]
    refine ⟨b,off,rfl,Nat.zero_le _, ?_,fun i hi j hj=> ?_⟩
    ·rw [e2] at hc
     rcases Nat.lt_or_ge b W.heap.size with h|h
     ·exact h
     ·simp [World.cell?,Array.getElem?_eq_none h] at hc
    ·have hi':i < len:=by simpa using hi
     have h1:=(hf i hi').1 j hj
     rw [e2] at h1
     rw [gh i hi',←h1,Nat.add_assoc]
  ·have hi':i < len:=by simpa using hi
   rw [gd i hi',gh i hi']
   exact (hf i hi').2.1
  ·have hi':i < len:=by simpa using hi
   rw [gd i hi']
   exact (hf i hi').2.2
theorem cellsLawsAgK:Tryz.prog.cellsOf 151=5:=by kernel_rfl
theorem open_agents_cells {H:Type} {enc:TypeId × Value→H} {W:World} {fuel:Nat} {cs:List Value} {x:DataW H × List MemPlace} (h:DataW.trod enc Tryz.prog W 0 (fun _=> true) true fuel 34 cs=some x):
  ∃(o:Option Addr) (cap:Nat) (xs:List Am),cs=[.slice o xs.length cap]∧xs.length≤maxLen∧RiE elA 0 W.heap.size W (.slice o xs.length cap) xs∧∀i,i < xs.length→(xs.getD i amD).c.length≤maxLen∧(xs.getD i amD).t.length≤maxLen:=by
 refine open_listE elA (fun m=> m.c.length≤maxLen∧m.t.length≤maxLen) Tryz.underlying34 cellsLawsAgK ?_ h
 intro n cs y hl hy
 have hl5:cs.length=5:=hl
 match cs,hl5 with
 |[c0,c1,c2,c3,c4],_=>
  obtain ⟨xs,n,_,_,hl,hlen,hf⟩:=DataW.trod_struct Tryz.underlying151 hy
  match xs,hlen with
  |[y0,y1,y2,y3,y4],_=>
   have h0:=hf 0 _ rfl
   have h1:=hf 1 _ rfl
   have h2:=hf 2 _ rfl
   have h3:=hf 3 _ rfl
   have h4:=hf 4 _ rfl
   simp [cellsInt1a,cellsBool1a,cellsLawsT] at h0 h1 h2 h3 h4
   obtain ⟨a,e0,_,_⟩:=DataW.trod_int Tryz.underlying3 h0
   obtain ⟨b,e1,_,_⟩:=DataW.trod_int Tryz.underlying3 h1
   obtain ⟨c,e2,_⟩:=DataW.trod_bool Tryz.underlying4 h2
   obtain ⟨o,cap,l,e3,r3⟩:=open_table_cells rfl h3
   obtain ⟨o',cap',l',e4,r4⟩:=open_table_cells rfl h4
   simp at e0 e1 e2 e3 e4
   subst e0 e1 e2 e3 e4
   exact ⟨⟨a,b,c,(o,l.length,cap),(o',l'.length,cap')⟩,⟨a,b,c,l,l'⟩,rfl,⟨o,cap,o',cap',rfl,RiV.of r3.2,RiV.of r4.2⟩,r3.1,r4.1⟩
theorem open_mails_cells {H:Type} {enc:TypeId × Value→H} {W:World} {fuel:Nat} {cs:List Value} {x:DataW H × List MemPlace} (h:DataW.trod enc Tryz.prog W 0 (fun _=> true) true fuel 35 cs=some x):
  ∃(o:Option Addr) (cap:Nat) (xs:List Mm),cs=[.slice o xs.length cap]∧xs.length≤maxLen∧RiE elM 0 W.heap.size W (.slice o xs.length cap) xs∧∀i,i < xs.length→((xs.getD i mmD).c.l.length≤maxLen∧(xs.getD i mmD).c.g.length≤maxLen)∧isB (xs.getD i mmD).c.l:=by
 refine open_listE elM (fun m=> (m.c.l.length≤maxLen∧m.c.g.length≤maxLen)∧isB m.c.l) Tryz.underlying35 cellsLawsMail ?_ h
 intro n cs y hl hy
 have hl5:cs.length=12:=hl
 match cs,hl5 with
 |[c0,c1,c2,c3,c4,c5,c6,c7,c8,c9,c10,c11],_=>
  obtain ⟨y0,y1,y2,y3,n,_,_,h0,h1,h2,h3⟩:=trod_struct4 Tryz.underlying159 hy
  simp [cellsInt,cellsLawsCarrier,cellsLawsFlow] at h0 h1 h2 h3
  obtain ⟨k,e0,_,_⟩:=DataW.trod_int Tryz.underlying3 h0
  obtain ⟨a,b,f,s,o,cap,l,og,cg,g,pl,st,e,r⟩:=open_carrier_cells h1
  obtain ⟨z0,z1,n',_,_,g0,g1⟩:=trod_struct2 Tryz.underlying73 h2
  simp [cellsInt] at g0 g1
  obtain ⟨fa,e1,_,_⟩:=DataW.trod_int Tryz.underlying3 g0
  obtain ⟨fp,e2,_,_⟩:=DataW.trod_int Tryz.underlying3 g1
  obtain ⟨bk,e3,_,_⟩:=DataW.trod_int Tryz.underlying3 h3
  simp at e e0 e1 e2 e3
  obtain ⟨rfl,rfl,rfl,rfl,rfl,rfl,rfl,rfl⟩:=e
  subst e0 e1 e2 e3
  exact ⟨⟨k,a,b,f,s,(o,l.length,cap),(og,g.length,cg),pl,st,fa,fp,bk⟩,⟨k,⟨a,b,f,s,l,g,pl,st⟩,fa,fp,bk⟩,rfl,⟨o,cap,og,cg,rfl,RiV.of (RdB_rd.2 r.2.1),RiV.of (RdG_rd.2 r.2.2.2.2)⟩,⟨r.1,r.2.2.2.1⟩,r.2.2.1⟩
theorem array13 {α:Type} {cs:Array α} (h:cs.size=13):∃c0 c1 c2 c3 c4 c5 c6 c7 c8 c9 c10 c11 c12,cs=#[c0,c1,c2,c3,c4,c5,c6,c7,c8,c9,c10,c11,c12]:=by
 match cs,h with
 |⟨[c0,c1,c2,c3,c4,c5,c6,c7,c8,c9,c10,c11,c12]⟩,_=> exact ⟨c0,c1,c2,c3,c4,c5,c6,c7,c8,c9,c10,c11,c12,rfl⟩
theorem cellsLawsK:Tryz.prog.cellsOf 38=13:=by kernel_rfl
theorem cellsAgS:Tryz.prog.cellsOf 34=1:=by kernel_rfl
theorem cellsMlS:Tryz.prog.cellsOf 35=1:=by kernel_rfl
theorem cellsGtS:Tryz.prog.cellsOf 36=1:=by kernel_rfl
theorem open_bal_cells {H:Type} {enc:TypeId × Value→H} {W:World} {fuel:Nat} {c0 c1 c2 c3 c4 c5 c6:Value} {x:DataW H × List MemPlace} (hf:DataW.trod enc Tryz.prog W 0 (fun _=> true) true fuel 33 [c0,c1,c2,c3,c4,c5,c6]=some x):
  ∃(m:Bm) (kj:Int) (vl:Value) (sf kp:Int) (vb vr vt:Value),[c0,c1,c2,c3,c4,c5,c6]=[.int .i64 kj,vl,.int .i64 sf,.int .i64 kp,vb,vr,vt]∧RdBm W.heap.size W (balv kj vl sf kp vb vr vt) m∧lenBm m:=by
 obtain ⟨y0,y1,y2,n,_,_,h0,h1,h2⟩:=Go.Deep.trod_struct3 (cs:=[c0,c1,c2,c3,c4,c5,c6]) Tryz.underlying33 hf
 simp [cellsLawsJ,cellsLawsPool,cellsLawsT] at h0 h1 h2
 obtain ⟨z0,z1,z2,n0,_,_,q0,q1,q2⟩:=Go.Deep.trod_struct3 Tryz.underlying24 h0
 simp [cellsIntB,cellsLawsCmdS] at q0 q1 q2
 obtain ⟨t0,t1,t2,n1,_,_,r0,r1,r2⟩:=Go.Deep.trod_struct3 Tryz.underlying28 h1
 simp [cellsIntB,cellsLawsBackSB,cellsIntSSSB] at r0 r1 r2
 obtain ⟨a,e0,_,_⟩:=DataW.trod_int Tryz.underlying3 q0
 obtain ⟨o,cap,l,e1,l1,rd1⟩:=open_cmds_cells q1
 obtain ⟨b,e2,_,_⟩:=DataW.trod_int Tryz.underlying3 q2
 obtain ⟨k,e3,_,_⟩:=DataW.trod_int Tryz.underlying3 r0
 obtain ⟨o2,cap2,l2,e4,ll2,rd2⟩:=open_backs_cells r1
 obtain ⟨oR,cR,ll,e5,l3,rr,l4,l5⟩:=open_rows3_cells r2
 obtain ⟨o6,cap6,l6,e6,ll6,rd6⟩:=open_table_cells rfl h2
 simp at e0 e1 e2 e3 e4 e5 e6
 subst e0 e1 e2 e3 e4 e5 e6
 exact ⟨⟨⟨a,l,b⟩,⟨k,l2,ll⟩,l6⟩,_,_,_,_,_,_,_,rfl,⟨_,_,_,_,rfl,⟨_,rfl,_,_,rfl,rd1⟩,⟨_,_,rfl,RiV.of rd2,rr⟩,⟨_,rfl,_,_,rfl,rd6⟩⟩,⟨l1,⟨ll2,l3,l4,l5⟩,ll6⟩⟩
theorem open_cluster {H:Type} {enc:TypeId × Value→H} {W:World} {base:Nat} {v:Value} {d:DataW H} {p:List MemPlace}
  (hv:Value.okWide Tryz.prog W .any base 38 v) (h:DataW.Trod enc Tryz.prog W 0 (fun _=> true) true 38 v d p):
  ∃m:Km,RdKm W.heap.size W v m∧lenKm m:=by
 obtain ⟨cs,rfl,hsz⟩:=okWide_struct Tryz.underlying38 hv
 obtain ⟨c0,c1,c2,c3,c4,c5,c6,c7,c8,c9,c10,c11,c12,rfl⟩:=array13 (hsz.trans cellsLawsK)
 obtain ⟨fuel,hf⟩:=h
 obtain ⟨xs,n,_,_,hl,hlen,hf⟩:=DataW.trod_struct Tryz.underlying38 hf
 match xs,hlen with
 |[y0,y1,y2,y3,y4,y5,y6],_=>
  have h0:=hf 0 _ rfl
  have h1:=hf 1 _ rfl
  have h2:=hf 2 _ rfl
  have h3:=hf 3 _ rfl
  have h4:=hf 4 _ rfl
  have h5:=hf 5 _ rfl
  have h6:=hf 6 _ rfl
  simp [Value.cells,cellsInt1a,cellsLawsBal,cellsAgS,cellsMlS,cellsGtS] at h0 h1 h2 h3 h4 h5 h6
  obtain ⟨a,e0,_,_⟩:=DataW.trod_int Tryz.underlying3 h0
  obtain ⟨mb,kj,vl,sf,kp,vb,vr,vt,e1,rb,lb⟩:=open_bal_cells h1
  obtain ⟨oa,ca,xa,e2,la,ra,la2⟩:=open_agents_cells h2
  obtain ⟨om,cm,xm,e3,lm,rm,lm2⟩:=open_mails_cells h3
  obtain ⟨og,cg,xg,e4,lg,rg⟩:=open_gots_cells h4
  obtain ⟨b,e5,_,_⟩:=DataW.trod_int Tryz.underlying3 h5
  obtain ⟨c,e6,_,_⟩:=DataW.trod_int Tryz.underlying3 h6
  simp at e0 e1 e2 e3 e4 e5 e6
  obtain ⟨rfl,rfl,rfl,rfl,rfl,rfl,rfl⟩:=e1
  subst e0 e2 e3 e4 e5 e6
  exact ⟨⟨a,mb,xa,xm,xg,b,c⟩,⟨_,_,_,_,_,_,_,_,_,_,rfl,rb,ra,rm,⟨_,_,rfl,rg⟩⟩,lb,⟨la,la2⟩,⟨lm,fun i hi=> (lm2 i hi).1⟩,lg,fun i hi=> (lm2 i hi).2⟩
end Go.Proofs.YtgplppfbinfelaaGreat
