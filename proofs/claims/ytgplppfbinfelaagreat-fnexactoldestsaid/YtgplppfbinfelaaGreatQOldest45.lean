/- Several texts in one: SBFrom2, SBOk, SBOkS. -/
import Derived.Test.YtgplppfbinfelaaGreatQOldest44
import Derived.Test.YtgplppfbinfelaaGreatQOldest38
namespace Go.Proofs.YtgplppfbinfelaaGreat
open Go.ChangeShapes Go.WideShapes Go.ChangeAt Go.RowKit Go.Joins
set_option linter.unusedVariables false
set_option linter.unusedSimpArgs false
set_option maxRecDepth 100000
set_option maxHeartbeats 40000000
theorem setB_cell {W:World} {R b j:Nat} {u:Value} (h:W.cell? ⟨b,j,none⟩=some u) (hb:b≠R) (x0 x1 x2 x3 x4 x5 x6:Value):(setB W R x0 x1 x2 x3 x4 x5 x6).cell? ⟨b,j,none⟩=some u:=(stp_setB W R x0 x1 x2 x3 x4 x5 x6).cellP h (Nat.lt_or_gt_of_ne hb)
def balB (m:Bm):Bool:=journalB m.j.key m.j.l m.j.safe && (hintB m.t && samePB (replayM m.j) m.p)
abbrev balr (vt:Value) (kj:Int) (vl:Value) (sj kp:Int) (vb vr:Value):Value:=.agg #[vt,.int .i64 kj,vl,.int .i64 sj,.int .i64 kp,vb,vr]
def InBl (lo hi:Nat) (w:World) (v:Value) (j:Jm) (p:Pm) (t:List Sl):Prop:=∃vt vl vb vr a b,v=balr vt j.key vl j.safe p.key vb vr∧lo≤a∧a≤b∧b≤hi∧InPm lo a w (plv p.key vb vr) p∧InL layS CellT a b w vt t∧InJm b hi w (jrn j.key vl j.safe) j
theorem balFrom_any (kj:Int) (o:Option Addr) (nj c:Nat) (sj kp:Int) (ob:Option Addr) (np cb:Nat) (oR:Option Addr) (nr cR:Nat) (ot:Option Addr) (nt ct:Nat) (lj:List Cd) (lb:List Bk) (lr:List (List (List Int))) (lt:List Sl) (w:World)
  (hnj:nj=lj.length) (hnt:nt=lt.length) (h1:RdC w.heap.size w o lj) (h1c:o=none→c=0) (h2:RdPm w.heap.size w (plv kp (.slice ob np cb) (.slice oR nr cR)) ⟨kp,lb,lr⟩) (h4:RdS w.heap.size w ot lt) (hf:fitB0 ⟨⟨kj,lj,sj⟩,⟨kp,lb,lr⟩,lt⟩):
  Calls Tryz.prog 101 #[balv kj (.slice o nj c) sj kp (.slice ob np cb) (.slice oR nr cR) (.slice ot nt ct)] w fun e w'=> ∃(xo:Option Addr) (xn xc:Nat) (kq:Int) (yo:Option Addr) (yn yc:Nat) (sq kr:Int) (uo:Option Addr) (un uc:Nat) (vo:Option Addr) (vn vc:Nat),e=.returned (.tuple #[balr (.slice xo xn xc) kq (.slice yo yn yc) sq kr (.slice uo un uc) (.slice vo vn vc),.bool (balB ⟨⟨kj,lj,sj⟩,⟨kp,lb,lr⟩,lt⟩)])∧(balB ⟨⟨kj,lj,sj⟩,⟨kp,lb,lr⟩,lt⟩=true→InBl w.heap.size w'.heap.size w' (balr (.slice xo xn xc) kq (.slice yo yn yc) sq kr (.slice uo un uc) (.slice vo vn vc)) ⟨kj,lj,sj⟩ (replayM ⟨kj,lj,sj⟩) lt)∧Below w.heap.size w w':=by
 obtain ⟨f1,f2,f7⟩:=hf
 dsimp only at f1 f2 f7
 have hfj:lj.length≤1048576:=by omega
 have HRP:=hide (fun W (hb:Below w.heap.size w W)=> implReplay_sh (jrn kj (.slice o nj c) sj) ⟨kj,lj,sj⟩ W ⟨_,rfl,o,c,(by rw [hnj]),(h1.kept hb (Nat.le_refl _)).le hb.size⟩ ⟨_,_,_,rfl,fun n9 c9 e9=> by injection e9 with e1 e2 e3;rw [←e3];exact h1c e1⟩ hfj)
 have HHF:=hide (fun W (hb:Below w.heap.size w W)=> hintsFrom_any ot nt ct lt W hnt ((h4.kept hb (Nat.le_refl _)).le hb.size) f7)
 have HCJ:=hide (fun W (hb:Below w.heap.size w W)=> cloneJournal_any kj sj o c lj W ((h1.kept hb (Nat.le_refl _)).le hb.size) h1c hfj)
 rw [←hnj] at HCJ
 have HSP:=hide (fun W (hb:Below w.heap.size w W) v (h:RdPm W.heap.size W v (replayM ⟨kj,lj,sj⟩))=> implSamePool_any v (plv kp (.slice ob np cb) (.slice oR nr cR)) (replayM ⟨kj,lj,sj⟩) ⟨kp,lb,lr⟩ W h ((h2.kept hb (Nat.le_refl _)).le hb.size) (replay_fit _) f2)
 have HBB:=hide (show balB ⟨⟨kj,lj,sj⟩,⟨kp,lb,lr⟩,lt⟩=(journalB kj lj sj && (hintB lt && samePB (replayM ⟨kj,lj,sj⟩) ⟨kp,lb,lr⟩)) from rfl)
 have HHB:=hide (show hintB lt=true→tableOkB lt=true from fun h=> by unfold hintB at h;cases ht:tableOkB lt <;> simp_all)
 have HNJ:=hide hnj
 have HNT:=hide hnt
 clear h1 h2 h4 f2 hnj hnt
 obtain ⟨W0,hW0⟩:∃W,((w.alloc (.cells #[.int .i64 kj,.slice o nj c,.int .i64 sj,.int .i64 kp,.slice ob np cb,.slice oR nr cR,.slice ot nt ct] 51)).alloc (.cells #[.slice none 0 0,.int .i64 0,.slice none 0 0,.int .i64 0,.int .i64 0,.slice none 0 0,.slice none 0 0] 132))=W:=⟨_,rfl⟩
 have hb_W0:Below w.heap.size w W0:=by rw [←hW0];exact (((Below.refl _ _).alloc (Nat.le_refl _) _).alloc (by simp <;> omega) _)
 have HB:=hide hb_W0
 clear hb_W0
 have zz:w.heap.size < W0.heap.size:=by rw [←hW0];simp <;> omega
 have z0:W0.cell? ⟨w.heap.size,0,none⟩=some (.int .i64 kj):=by rw [←hW0];simp [go_sem]
 have z1:W0.cell? ⟨w.heap.size,1,none⟩=some (.slice o nj c):=by rw [←hW0];simp [go_sem]
 have z2:W0.cell? ⟨w.heap.size,2,none⟩=some (.int .i64 sj):=by rw [←hW0];simp [go_sem]
 have z3:W0.cell? ⟨w.heap.size,3,none⟩=some (.int .i64 kp):=by rw [←hW0];simp [go_sem]
 have z4:W0.cell? ⟨w.heap.size,4,none⟩=some (.slice ob np cb):=by rw [←hW0];simp [go_sem]
 have z5:W0.cell? ⟨w.heap.size,5,none⟩=some (.slice oR nr cR):=by rw [←hW0];simp [go_sem]
 have z6:W0.cell? ⟨w.heap.size,6,none⟩=some (.slice ot nt ct):=by rw [←hW0];simp [go_sem]
 have zr:w.heap.size+1 < W0.heap.size:=by rw [←hW0];simp
 have r0:W0.cell? ⟨w.heap.size+1,0,none⟩=some (.slice none 0 0):=by rw [←hW0];simp [go_sem]
 have r1:W0.cell? ⟨w.heap.size+1,1,none⟩=some (.int .i64 0):=by rw [←hW0];simp [go_sem]
 have r2:W0.cell? ⟨w.heap.size+1,2,none⟩=some (.slice none 0 0):=by rw [←hW0];simp [go_sem]
 have r3:W0.cell? ⟨w.heap.size+1,3,none⟩=some (.int .i64 0):=by rw [←hW0];simp [go_sem]
 have r4:W0.cell? ⟨w.heap.size+1,4,none⟩=some (.int .i64 0):=by rw [←hW0];simp [go_sem]
 have r5:W0.cell? ⟨w.heap.size+1,5,none⟩=some (.slice none 0 0):=by rw [←hW0];simp [go_sem]
 have r6:W0.cell? ⟨w.heap.size+1,6,none⟩=some (.slice none 0 0):=by rw [←hW0];simp [go_sem]
 have fr0:W0.frozen? ⟨w.heap.size+1,0,none⟩=false:=by rw [←hW0];simp [go_sem]
 have fr1:W0.frozen? ⟨w.heap.size+1,1,none⟩=false:=by rw [←hW0];simp [go_sem]
 have fr2:W0.frozen? ⟨w.heap.size+1,2,none⟩=false:=by rw [←hW0];simp [go_sem]
 have fr3:W0.frozen? ⟨w.heap.size+1,3,none⟩=false:=by rw [←hW0];simp [go_sem]
 have fr4:W0.frozen? ⟨w.heap.size+1,4,none⟩=false:=by rw [←hW0];simp [go_sem]
 have fr5:W0.frozen? ⟨w.heap.size+1,5,none⟩=false:=by rw [←hW0];simp [go_sem]
 have fr6:W0.frozen? ⟨w.heap.size+1,6,none⟩=false:=by rw [←hW0];simp [go_sem]
 have hzr:=zr
 have hsw:w.heap.size≤W0.heap.size:=HB.out.size
 go_enter Tryz.func101,Tryz.ntmps101
 go_wp2_with fail
 refine (HRP.out W0 HB.out).mono ?_
 rintro e v1 ⟨vp,rfl,inp,hb⟩
 have HIP:=hide inp
 clear inp
 replace z0:=bC hb z0 zz
 replace z1:=bC hb z1 zz
 replace z2:=bC hb z2 zz
 replace z3:=bC hb z3 zz
 replace z4:=bC hb z4 zz
 replace z5:=bC hb z5 zz
 replace z6:=bC hb z6 zz
 replace zz:=Nat.lt_of_lt_of_le zz hb.size
 replace r0:=bC hb r0 zr
 replace r1:=bC hb r1 zr
 replace r2:=bC hb r2 zr
 replace r3:=bC hb r3 zr
 replace r4:=bC hb r4 zr
 replace r5:=bC hb r5 zr
 replace r6:=bC hb r6 zr
 replace fr0:=bF hb fr0 zr
 replace fr1:=bF hb fr1 zr
 replace fr2:=bF hb fr2 zr
 replace fr3:=bF hb fr3 zr
 replace fr4:=bF hb fr4 zr
 replace fr5:=bF hb fr5 zr
 replace fr6:=bF hb fr6 zr
 replace zr:=Nat.lt_of_lt_of_le zr hb.size
 replace HB:=hide (HB.out.trans (hb.mono HB.out.size))
 clear hb
 dsimp only at HIP ⊢
 obtain ⟨pm,hpm⟩:∃p,replayM ⟨kj,lj,sj⟩=p:=⟨_,rfl⟩
 rw [hpm] at HIP HSP HBB
 have HPM:=hide hpm
 clear hpm HRP
 obtain ⟨po,pc,qo,qc,hve⟩:=HIP.out.opn
 obtain ⟨pk,hpk⟩:∃x,pm.key=x:=⟨_,rfl⟩
 obtain ⟨pn,hpn⟩:∃x,pm.l.length=x:=⟨_,rfl⟩
 obtain ⟨qn,hqn⟩:∃x,pm.ring.length=x:=⟨_,rfl⟩
 rw [hpk,hpn,hqn] at hve
 subst hve
 have HPK:=hide hpk
 clear hpk hpn hqn
 have hs1:W0.heap.size≤v1.heap.size:=by have:=HIP.out;obtain ⟨_,_,mid,_,k1,k2,_⟩:=this;omega
 obtain ⟨W2,hW2⟩:∃W,(v1.alloc (.cells #[.int .i64 pk,.slice po pn pc,.slice qo qn qc] 46))=W:=⟨_,rfl⟩
 have hb_W2:Below v1.heap.size v1 W2:=by rw [←hW2];exact ((Below.refl _ _).alloc (Nat.le_refl _) _)
 replace z0:=bC hb_W2 z0 zz
 replace z1:=bC hb_W2 z1 zz
 replace z2:=bC hb_W2 z2 zz
 replace z3:=bC hb_W2 z3 zz
 replace z4:=bC hb_W2 z4 zz
 replace z5:=bC hb_W2 z5 zz
 replace z6:=bC hb_W2 z6 zz
 replace zz:=Nat.lt_of_lt_of_le zz hb_W2.size
 replace r0:=bC hb_W2 r0 zr
 replace r1:=bC hb_W2 r1 zr
 replace r2:=bC hb_W2 r2 zr
 replace r3:=bC hb_W2 r3 zr
 replace r4:=bC hb_W2 r4 zr
 replace r5:=bC hb_W2 r5 zr
 replace r6:=bC hb_W2 r6 zr
 replace fr0:=bF hb_W2 fr0 zr
 replace fr1:=bF hb_W2 fr1 zr
 replace fr2:=bF hb_W2 fr2 zr
 replace fr3:=bF hb_W2 fr3 zr
 replace fr4:=bF hb_W2 fr4 zr
 replace fr5:=bF hb_W2 fr5 zr
 replace fr6:=bF hb_W2 fr6 zr
 replace zr:=Nat.lt_of_lt_of_le zr hb_W2.size
 replace HB:=hide (HB.out.trans (hb_W2.mono HB.out.size))
 clear hb_W2
 have zp:v1.heap.size < W2.heap.size:=by rw [←hW2];simp
 have p0:W2.cell? ⟨v1.heap.size,0,none⟩=some (.int .i64 pk):=by rw [←hW2];simp [go_sem]
 have p1:W2.cell? ⟨v1.heap.size,1,none⟩=some (.slice po pn pc):=by rw [←hW2];simp [go_sem]
 have p2:W2.cell? ⟨v1.heap.size,2,none⟩=some (.slice qo qn qc):=by rw [←hW2];simp [go_sem]
 replace HIP:=hide (HIP.out.step (Stp.of (lo:=0) (hi:=0) (show Below v1.heap.size v1 W2 by rw [←hW2];exact (Below.refl _ _).alloc (Nat.le_refl _) _)) (.inl (Nat.zero_le _)))
 have hs2:v1.heap.size≤W2.heap.size:=by rw [←hW2];simp
 go_wp2_with fail
 refine (HHF.out W2 HB.out).mono ?_
 rintro e v2 ⟨ho,hn,hc,rfl,hown,hb⟩
 have HOH:=hide hown
 clear hown HHF
 replace HIP:=hide (HIP.out.step (Stp.of (lo:=0) (hi:=0) hb) (.inl (Nat.zero_le _)))
 have hs3:W2.heap.size≤v2.heap.size:=hb.size
 replace z0:=bC hb z0 zz
 replace z1:=bC hb z1 zz
 replace z2:=bC hb z2 zz
 replace z3:=bC hb z3 zz
 replace z4:=bC hb z4 zz
 replace z5:=bC hb z5 zz
 replace z6:=bC hb z6 zz
 replace zz:=Nat.lt_of_lt_of_le zz hb.size
 replace r0:=bC hb r0 zr
 replace r1:=bC hb r1 zr
 replace r2:=bC hb r2 zr
 replace r3:=bC hb r3 zr
 replace r4:=bC hb r4 zr
 replace r5:=bC hb r5 zr
 replace r6:=bC hb r6 zr
 replace fr0:=bF hb fr0 zr
 replace fr1:=bF hb fr1 zr
 replace fr2:=bF hb fr2 zr
 replace fr3:=bF hb fr3 zr
 replace fr4:=bF hb fr4 zr
 replace fr5:=bF hb fr5 zr
 replace fr6:=bF hb fr6 zr
 replace zr:=Nat.lt_of_lt_of_le zr hb.size
 replace p0:=bC hb p0 zp
 replace p1:=bC hb p1 zp
 replace p2:=bC hb p2 zp
 replace zp:=Nat.lt_of_lt_of_le zp hb.size
 replace HB:=hide (HB.out.trans (hb.mono HB.out.size))
 clear hb
 obtain ⟨kb,hkb⟩:∃b,journalB kj lj sj=b:=⟨_,rfl⟩
 obtain ⟨tb,htb⟩:∃b,hintB lt=b:=⟨_,rfl⟩
 rw [hkb,htb] at HBB
 rw [htb] at HHB ⊢
 rw [hkb]
 clear hkb htb
 obtain ⟨W4,hW4⟩:∃W,(v2.alloc (.cells #[.slice ho hn hc] 130))=W:=⟨_,rfl⟩
 have hb_W4:Below v2.heap.size v2 W4:=by rw [←hW4];exact ((Below.refl _ _).alloc (Nat.le_refl _) _)
 replace z0:=bC hb_W4 z0 zz
 replace z1:=bC hb_W4 z1 zz
 replace z2:=bC hb_W4 z2 zz
 replace z3:=bC hb_W4 z3 zz
 replace z4:=bC hb_W4 z4 zz
 replace z5:=bC hb_W4 z5 zz
 replace z6:=bC hb_W4 z6 zz
 replace zz:=Nat.lt_of_lt_of_le zz hb_W4.size
 replace r0:=bC hb_W4 r0 zr
 replace r1:=bC hb_W4 r1 zr
 replace r2:=bC hb_W4 r2 zr
 replace r3:=bC hb_W4 r3 zr
 replace r4:=bC hb_W4 r4 zr
 replace r5:=bC hb_W4 r5 zr
 replace r6:=bC hb_W4 r6 zr
 replace fr0:=bF hb_W4 fr0 zr
 replace fr1:=bF hb_W4 fr1 zr
 replace fr2:=bF hb_W4 fr2 zr
 replace fr3:=bF hb_W4 fr3 zr
 replace fr4:=bF hb_W4 fr4 zr
 replace fr5:=bF hb_W4 fr5 zr
 replace fr6:=bF hb_W4 fr6 zr
 replace zr:=Nat.lt_of_lt_of_le zr hb_W4.size
 replace p0:=bC hb_W4 p0 zp
 replace p1:=bC hb_W4 p1 zp
 replace p2:=bC hb_W4 p2 zp
 replace zp:=Nat.lt_of_lt_of_le zp hb_W4.size
 replace HB:=hide (HB.out.trans (hb_W4.mono HB.out.size))
 clear hb_W4
 have zt:v2.heap.size < W4.heap.size:=by rw [←hW4];simp
 have t0:W4.cell? ⟨v2.heap.size,0,none⟩=some (.slice ho hn hc):=by rw [←hW4];simp [go_sem]
 replace HIP:=hide (HIP.out.step (Stp.of (lo:=0) (hi:=0) (show Below v2.heap.size v2 W4 by rw [←hW4];exact (Below.refl _ _).alloc (Nat.le_refl _) _)) (.inl (Nat.zero_le _)))
 have hs4:v2.heap.size≤W4.heap.size:=by rw [←hW4];simp
 have hb24:Below v2.heap.size v2 W4:=(show Below v2.heap.size v2 W4 by rw [←hW4];exact (Below.refl _ _).alloc (Nat.le_refl _) _)
 cases kb with
 |false=>
  go_wp2
  refine bodyPost_ret (v:=.tuple #[balr (.slice none 0 0) 0 (.slice none 0 0) 0 0 (.slice none 0 0) (.slice none 0 0),.bool false]) (by simp [results,Tryz.results101,go_sem,r0,r1,r2,r3,r4,r5,r6]) rfl ⟨none,0,0,0,none,0,0,0,0,none,0,0,none,0,0,by rw [HBB.out];rfl,fun h9=> (by rw [HBB.out] at h9;cases h9),setB_below HB.out (Nat.le_succ _) _ _ _ _ _ _ _⟩
 |true=>
  cases tb with
  |false=>
   go_wp2
   refine bodyPost_ret (v:=.tuple #[balr (.slice none 0 0) 0 (.slice none 0 0) 0 0 (.slice none 0 0) (.slice none 0 0),.bool false]) (by simp [results,Tryz.results101,go_sem,r0,r1,r2,r3,r4,r5,r6]) rfl ⟨none,0,0,0,none,0,0,0,0,none,0,0,none,0,0,by rw [HBB.out];rfl,fun h9=> (by rw [HBB.out] at h9;cases h9),setB_below HB.out (Nat.le_succ _) _ _ _ _ _ _ _⟩
  |true=>
   have HSQ:=hide (HSP.out W4 HB.out _ (HIP.out.rd.le (by omega)))
   clear HSP
   obtain ⟨sb,hsb⟩:∃b,samePB pm ⟨kp,lb,lr⟩=b:=⟨_,rfl⟩
   rw [hsb] at HSQ HBB
   clear hsb
   go_wp2_with fail
   refine (HSQ.out).mono ?_
   rintro e v3 ⟨rfl,hb⟩
   replace HIP:=hide (HIP.out.step (Stp.of (lo:=0) (hi:=0) hb) (.inl (Nat.zero_le _)))
   have hs5:W4.heap.size≤v3.heap.size:=hb.size
   have hb23:Below v2.heap.size v2 v3:=hb24.trans (hb.mono hs4)
   replace z0:=bC hb z0 zz
   replace z1:=bC hb z1 zz
   replace z2:=bC hb z2 zz
   replace z3:=bC hb z3 zz
   replace z4:=bC hb z4 zz
   replace z5:=bC hb z5 zz
   replace z6:=bC hb z6 zz
   replace zz:=Nat.lt_of_lt_of_le zz hb.size
   replace r0:=bC hb r0 zr
   replace r1:=bC hb r1 zr
   replace r2:=bC hb r2 zr
   replace r3:=bC hb r3 zr
   replace r4:=bC hb r4 zr
   replace r5:=bC hb r5 zr
   replace r6:=bC hb r6 zr
   replace fr0:=bF hb fr0 zr
   replace fr1:=bF hb fr1 zr
   replace fr2:=bF hb fr2 zr
   replace fr3:=bF hb fr3 zr
   replace fr4:=bF hb fr4 zr
   replace fr5:=bF hb fr5 zr
   replace fr6:=bF hb fr6 zr
   replace zr:=Nat.lt_of_lt_of_le zr hb.size
   replace p0:=bC hb p0 zp
   replace p1:=bC hb p1 zp
   replace p2:=bC hb p2 zp
   replace zp:=Nat.lt_of_lt_of_le zp hb.size
   replace t0:=bC hb t0 zt
   replace zt:=Nat.lt_of_lt_of_le zt hb.size
   replace HB:=hide (HB.out.trans (hb.mono HB.out.size))
   clear hb
   cases sb with
   |false=>
    go_wp2
    refine bodyPost_ret (v:=.tuple #[balr (.slice none 0 0) 0 (.slice none 0 0) 0 0 (.slice none 0 0) (.slice none 0 0),.bool false]) (by simp [results,Tryz.results101,go_sem,r0,r1,r2,r3,r4,r5,r6]) rfl ⟨none,0,0,0,none,0,0,0,0,none,0,0,none,0,0,by rw [HBB.out];rfl,fun h9=> (by rw [HBB.out] at h9;cases h9),setB_below HB.out (Nat.le_succ _) _ _ _ _ _ _ _⟩
   |true=>
    have hne0:w.heap.size≠w.heap.size+1:=by omega
    have hne1:v1.heap.size≠w.heap.size+1:=by omega
    have hne2:v2.heap.size≠w.heap.size+1:=by omega
    go_wp2
    go_region_held3 (fun w'=> w'.cell? ⟨v2.heap.size,0,none⟩=some (.slice ho hn hc)∧w'.cell? ⟨w.heap.size,0,none⟩=some (.int .i64 kj)∧w'.cell? ⟨w.heap.size,1,none⟩=some (.slice o nj c)∧w'.cell? ⟨w.heap.size,2,none⟩=some (.int .i64 sj)∧w'.cell? ⟨v1.heap.size,0,none⟩=some (.int .i64 pk)∧w'.cell? ⟨v1.heap.size,1,none⟩=some (.slice po pn pc)∧w'.cell? ⟨v1.heap.size,2,none⟩=some (.slice qo qn qc)) (first|with_reducible exact ⟨t0,z0,z1,z2,p0,p1,p2⟩|with_reducible exact ⟨kt0,kz0,kz1,kz2,kp0,kp1,kp2⟩|with_reducible exact hks _ _ _ _ _ _ _|go_keep) (first|(go_at_call 160;(with_reducible refine (HCJ.out v3.drew (Below.drew HB.out)).mono ?_);rintro e v4 ⟨o2,c2,rfl,ow2,hq0⟩;have hx:Below v3.heap.size v3 v4:=(Below.drew (Below.refl _ _)).trans hq0;have kt0:=bC hx t0 zt;have kz0:=bC hx z0 zz;have kz1:=bC hx z1 zz;have kz2:=bC hx z2 zz;have kp0:=bC hx p0 zp;have kp1:=bC hx p1 zp;have kp2:=bC hx p2 zp;have rr0:=bC hx r0 zr;have rf0:=bF hx fr0 zr;have rr1:=bC hx r1 zr;have rf1:=bF hx fr1 zr;have rr2:=bC hx r2 zr;have rf2:=bF hx fr2 zr;have rr3:=bC hx r3 zr;have rf3:=bF hx fr3 zr;have rr4:=bC hx r4 zr;have rf4:=bF hx fr4 zr;have rr5:=bC hx r5 zr;have rf5:=bF hx fr5 zr;have rr6:=bC hx r6 zr;have rf6:=bF hx fr6 zr;have hks:=(fun x0 x1 x2 x3 x4 x5 x6=> And.intro (setB_cell kt0 hne2 x0 x1 x2 x3 x4 x5 x6) (And.intro (setB_cell kz0 hne0 x0 x1 x2 x3 x4 x5 x6) (And.intro (setB_cell kz1 hne0 x0 x1 x2 x3 x4 x5 x6) (And.intro (setB_cell kz2 hne0 x0 x1 x2 x3 x4 x5 x6) (And.intro (setB_cell kp0 hne1 x0 x1 x2 x3 x4 x5 x6) (And.intro (setB_cell kp1 hne1 x0 x1 x2 x3 x4 x5 x6) (setB_cell kp2 hne1 x0 x1 x2 x3 x4 x5 x6)))))));have HBc:=HB.out.trans (hx.mono HB.out.size)))
    have hs6:v3.heap.size≤v4.heap.size:=hx.size
    have hb29:Below v2.heap.size v2 v4:=hb23.trans (hx.mono (Nat.le_trans hs4 hs5))
    replace HIP:=hide (HIP.out.step (Stp.of (lo:=0) (hi:=0) hx) (.inl (Nat.zero_le _)))
    replace HB:=hide HBc
    have HOJ:=hide ow2
    have hdr:v3.drew.heap.size=v3.heap.size:=rfl
    have HFI:Hid (InBl w.heap.size (setB v4 (w.heap.size+1) (.slice ho hn hc) (.int .i64 kj) (.slice o2 nj c2) (.int .i64 sj) (.int .i64 pk) (.slice po pn pc) (.slice qo qn qc)).heap.size (setB v4 (w.heap.size+1) (.slice ho hn hc) (.int .i64 kj) (.slice o2 nj c2) (.int .i64 sj) (.int .i64 pk) (.slice po pn pc) (.slice qo qn qc)) (balr (.slice ho hn hc) kj (.slice o2 nj c2) sj pk (.slice po pn pc) (.slice qo qn qc)) ⟨kj,lj,sj⟩ pm lt):=by
     have s9:=stp_setB v4 (w.heap.size+1) (.slice ho hn hc) (.int .i64 kj) (.slice o2 nj c2) (.int .i64 sj) (.int .i64 pk) (.slice po pn pc) (.slice qo qn qc)
     have e9:pm.key=pk:=HPK.out
     obtain ⟨g,hg,hn9,hc9,hw9⟩:=HOH.out (by first|exact HHB.out rfl|exact HHB.out trivial|simpa using HHB.out)
     subst hg hn9 hc9
     refine ⟨_,_,_,_,W2.heap.size,v2.heap.size,by rw [e9],by omega,by omega,by rw [setB_size];omega, ?_, ?_, ?_⟩
     ·rw [e9]
      exact inPm_wide (HIP.out.step s9 (.inl (by omega))) (by omega) (by omega)
     ·exact InRow.step ((InRow.of hw9).step (Stp.of (lo:=0) (hi:=0) hb29) (.inl (Nat.zero_le _))) s9 (.inl (by omega))
     ·refine ⟨_,rfl, ?_⟩
      have j9:=InRow.step (InRow.of HOJ.out) s9 (.inl (by omega))
      rw [HNJ.out] at j9 ⊢
      exact InRow.mono j9 (by omega) (by rw [setB_size];exact Nat.le_refl _)
    clear hks hx hq0 HBc ow2 hb23 hb29 t0 kt0 z0 kz0 z1 kz1 z2 kz2 p0 kp0 p1 kp1 p2 kp2 r0 fr0 r1 fr1 r2 fr2 r3 fr3 r4 fr4 r5 fr5 r6 fr6
    go_wp2
    refine bodyPost_ret (v:=.tuple #[balr (.slice ho hn hc) kj (.slice o2 nj c2) sj pk (.slice po pn pc) (.slice qo qn qc),.bool true]) (by simp [results,Tryz.results101,go_sem,rr0,rr1,rr2,rr3,rr4,rr5,rr6]) rfl ⟨ho,hn,hc,kj,o2,nj,c2,sj,pk,po,pn,pc,qo,qn,qc,by rw [HBB.out];rfl,fun _=> (by rw [HPM.out];exact HFI.out),setB_below HB.out (Nat.le_succ _) _ _ _ _ _ _ _⟩
theorem movedTo_comm (aa bb:List (List Int)):∀k,movedTo aa bb k=movedTo bb aa k
 |0=> rfl
 |k+1=> by
  unfold movedTo
  rw [movedTo_comm aa bb k]
  by_cases h:aa.getD k []=bb.getD k []
  ·rw [if_pos h,if_pos h.symm]
  ·rw [if_neg h,if_neg (fun e=> h e.symm)]
theorem movedI_comm (aa bb:List (List Int)):movedI aa bb=movedI bb aa:=by
 unfold movedI
 by_cases h:aa.length=8∧bb.length=8
 ·rw [if_pos h,if_pos h.symm,movedTo_comm]
 ·rw [if_neg h,if_neg (fun e=> h e.symm)]
theorem ringSame_comm (R1 R2:List (List (List Int))):ringSame R1 R2=ringSame R2 R1:=by
 unfold ringSame
 by_cases h:R1.length=R2.length
 ·rw [h]
  congr 1
  congr 1
  funext i
  rw [movedI_comm]
 ·rw [decide_eq_false h,decide_eq_false (fun e=> h e.symm)];rfl
theorem samePB_comm (m1 m2:Pm):samePB m1 m2=samePB m2 m1:=by
 unfold samePB
 rw [ringSame_comm,show decide (m1.key=m2.key)=decide (m2.key=m1.key) from decide_eq_decide.2 ⟨Eq.symm,Eq.symm⟩,show decide (m1.l=m2.l)=decide (m2.l=m1.l) from decide_eq_decide.2 ⟨Eq.symm,Eq.symm⟩]
def isL (s:Sl):Bool:=decide (s.v < 6)
theorem slotB_v {s:Sl} (h:slotB s=true):0≤s.v:=by
 unfold slotB at h
 split at h
 ·simp only [Bool.and_eq_true,decide_eq_true_eq] at h;exact h.1.1.1.2
 ·simp only [Bool.and_eq_true,decide_eq_true_eq] at h;omega
theorem isV_low {l:List Sl} (h:tableOkB l=true):l.all isV=l.all isL:=by
 have h3:=(tableOkB_iff.1 h).2.2
 have hs:∀s∈l,isV s=isL s:=fun s hs=> by
  obtain ⟨i,hi,rfl⟩:=List.getElem_of_mem hs
  have h4:=h3 i hi
  unfold tabAt at h4
  rw [Bool.and_eq_true] at h4
  have h5:=slotB_v h4.1
  have e:l.getD i sl0=l[i]:=by simp [hi]
  rw [e] at h5
  unfold isV isL
  rw [decide_eq_true h5];rfl
 rw [Bool.eq_iff_iff,List.all_eq_true,List.all_eq_true]
 exact ⟨fun q s m=> (hs s m) ▸ q s m,fun q s m=> (hs s m).symm ▸ q s m⟩
theorem balB_spec (m:Bm):balB m=(journalB m.j.key m.j.l m.j.safe && (tableOkB m.t && (samePB m.p (replayM m.j) && m.t.all isL))):=by
 unfold balB hintB
 rw [samePB_comm]
 cases ht:tableOkB m.t with
 |false=> simp
 |true=> rw [isV_low ht];cases m.t.all isL <;> simp
theorem take_allL (l:List Sl) (k:Nat) (h:k < l.length):(l.take (k+1)).all isL=((l.take k).all isL && isL (l.getD k sl0)):=by
 rw [List.take_succ_eq_append_getElem h,List.all_append]
 simp [h]
theorem all_noL {l:List Sl} {k:Nat} (h:k < l.length) (hv:isL (l.getD k sl0)=false):l.all isL=false:=by
 rw [Bool.eq_false_iff];intro ha
 rw [List.all_eq_true] at ha
 have:=ha (l.getD k sl0) (by simp [h])
 rw [hv] at this;cases this
theorem l4replay_pm (key safe:Int) (o:Option Addr) (n cap:Nat) (cs:List Cd) (w:World) (hn:n=cs.length) (hR:RdC w.heap.size w o cs) (h:journalB key cs safe=true):
  Calls Tryz.prog 91 #[.int .i64 key,.slice o n cap] w fun e w'=> ∃v,e=.returned v∧RdPm w'.heap.size w' v (replayM ⟨key,cs,safe⟩)∧Below w.heap.size w w':=by
 subst hn
 have h0:=h
 unfold journalB at h
 simp only [Bool.and_eq_true,decide_eq_true_eq] at h
 refine (l4replay_any key o cap cs w hR h.1.1.1.1 h.1.1.1.2 h.2).mono ?_
 rintro e w' ⟨oB,cB,oR,cR,hs,rfl,owB,owR,pt,hs3,hb⟩
 refine ⟨_,rfl, ?_,hb⟩
 have e9:replayM ⟨key,cs,safe⟩=⟨key,servedOf cs cs.length,ringT key (ringR cs cs.length)⟩:=if_pos h0
 rw [e9]
 exact (GTabs.pm (lo:=0) owB owR (ptabs_g pt)).rd
theorem specBalOk_any (kj:Int) (o:Option Addr) (nj c:Nat) (sj kp:Int) (ob:Option Addr) (np cb:Nat) (oR:Option Addr) (nr cR:Nat) (ot:Option Addr) (nt ct:Nat) (lj:List Cd) (lb:List Bk) (lr:List (List (List Int))) (lt:List Sl) (w:World)
  (hnj:nj=lj.length) (hnt:nt=lt.length) (h1:RdC w.heap.size w o lj) (h1c:o=none→c=0) (h2:RdPm w.heap.size w (plv kp (.slice ob np cb) (.slice oR nr cR)) ⟨kp,lb,lr⟩) (h4:RdS w.heap.size w ot lt) (hf:fitB0 ⟨⟨kj,lj,sj⟩,⟨kp,lb,lr⟩,lt⟩):
  Calls Tryz.prog 41 #[balv kj (.slice o nj c) sj kp (.slice ob np cb) (.slice oR nr cR) (.slice ot nt ct)] w fun e w'=> e=.returned (.bool (balB ⟨⟨kj,lj,sj⟩,⟨kp,lb,lr⟩,lt⟩))∧Below w.heap.size w w':=by
 obtain ⟨f1,f2,f7⟩:=hf
 dsimp only at f1 f2 f7
 have hfj:lj.length≤1048576:=by omega
 have HJ:=hide (fun W (hb:Below w.heap.size w W)=> specJournalOk_any kj sj o c lj W ((h1.kept hb (Nat.le_refl _)).le hb.size) hfj)
 have HT:=hide (fun W (hb:Below w.heap.size w W)=> specTableOk_any ot ct lt W ((h4.kept hb (Nat.le_refl _)).le hb.size) f7)
 rw [←hnj] at HJ
 rw [←hnt] at HT
 have HRP:=hide (fun (hj:journalB kj lj sj=true) W (hb:Below w.heap.size w W)=> l4replay_pm kj sj o nj c lj W hnj ((h1.kept hb (Nat.le_refl _)).le hb.size) hj)
 have HSM:=hide (fun W (hb:Below w.heap.size w W) v (h:RdPm W.heap.size W v (replayM ⟨kj,lj,sj⟩))=> l7same_any (plv kp (.slice ob np cb) (.slice oR nr cR)) v ⟨kp,lb,lr⟩ (replayM ⟨kj,lj,sj⟩) W ((h2.kept hb (Nat.le_refl _)).le hb.size) h f2 (replay_fit _))
 have HBB:=hide (balB_spec ⟨⟨kj,lj,sj⟩,⟨kp,lb,lr⟩,lt⟩)
 dsimp only at HBB
 have HRT:=hide h4
 have HNT:=hide hnt
 clear h1 h2 h4 f2 hnj hnt
 generalize samePB ⟨kp,lb,lr⟩ (replayM ⟨kj,lj,sj⟩)=sb at *
 obtain ⟨rp,hrp⟩:∃r,replayM ⟨kj,lj,sj⟩=r:=⟨_,rfl⟩
 rw [hrp] at HRP HSM
 clear hrp
 obtain ⟨W0,hW0⟩:∃W,(w.alloc (.cells #[.int .i64 kj,.slice o nj c,.int .i64 sj,.int .i64 kp,.slice ob np cb,.slice oR nr cR,.slice ot nt ct] 51))=W:=⟨_,rfl⟩
 have hb_W0:Below w.heap.size w W0:=by rw [←hW0];exact ((Below.refl _ _).alloc (Nat.le_refl _) _)
 have HB:=hide hb_W0
 clear hb_W0
 have zz:w.heap.size < W0.heap.size:=by rw [←hW0];simp
 have z0:W0.cell? ⟨w.heap.size,0,none⟩=some (.int .i64 kj):=by rw [←hW0];simp [go_sem]
 have z1:W0.cell? ⟨w.heap.size,1,none⟩=some (.slice o nj c):=by rw [←hW0];simp [go_sem]
 have z2:W0.cell? ⟨w.heap.size,2,none⟩=some (.int .i64 sj):=by rw [←hW0];simp [go_sem]
 have z3:W0.cell? ⟨w.heap.size,3,none⟩=some (.int .i64 kp):=by rw [←hW0];simp [go_sem]
 have z4:W0.cell? ⟨w.heap.size,4,none⟩=some (.slice ob np cb):=by rw [←hW0];simp [go_sem]
 have z5:W0.cell? ⟨w.heap.size,5,none⟩=some (.slice oR nr cR):=by rw [←hW0];simp [go_sem]
 have z6:W0.cell? ⟨w.heap.size,6,none⟩=some (.slice ot nt ct):=by rw [←hW0];simp [go_sem]
 have hbw:=HB.out.size
 obtain ⟨jb,hjb⟩:∃b,journalB kj lj sj=b:=⟨_,rfl⟩
 rw [hjb] at HJ HBB HRP
 clear hjb
 cases jb with
 |false=>
  have HJg:=hide (fun p:Grown W0=> HJ.out p.v (HB.out.trans (p.b.mono HB.out.size)))
  have G0:=Grown.cell z0 zz
  have G1:=Grown.cell z1 zz
  have G2:=Grown.cell z2 zz
  have G3:=Grown.cell z3 zz
  have G4:=Grown.cell z4 zz
  have G5:=Grown.cell z5 zz
  have G6:=Grown.cell z6 zz
  clear HJ HT HRP HSM
  go_enter Tryz.func41,Tryz.ntmps41
  go_wp2
  (refine wp_region_grown (by kernel_rfl) (by kernel_rfl) ?_;intro hne9;(repeat (go_big_quiet_step ((go_at_call 88;exact grown_of _ (HJg.out _)))));(with_reducible refine wpQuiet_nil ?_);intro _ hw9;obtain ⟨pq,hw8⟩:=hw9;subst hw8)
  have HB9:=hide (HB.out.trans (pq.b.mono HB.out.size))
  go_wp2
  go_ret
  exact ⟨ret_bool (by rw [HBB.out];rfl),HB9.out⟩
 |true=>
  replace HRP:=hide (HRP.out (by first|rfl|trivial))
  obtain ⟨tb,htb⟩:∃b,tableOkB lt=b:=⟨_,rfl⟩
  rw [htb] at HT HBB
  have HTB:=hide htb
  clear htb
  cases tb with
  |false=>
   have HJg:=hide (fun p:Grown W0=> HJ.out p.v (HB.out.trans (p.b.mono HB.out.size)))
   have HTg:=hide (fun p:Grown W0=> HT.out p.v (HB.out.trans (p.b.mono HB.out.size)))
   have G0:=Grown.cell z0 zz
   have G1:=Grown.cell z1 zz
   have G2:=Grown.cell z2 zz
   have G3:=Grown.cell z3 zz
   have G4:=Grown.cell z4 zz
   have G5:=Grown.cell z5 zz
   have G6:=Grown.cell z6 zz
   clear HJ HT HRP HSM
   go_enter Tryz.func41,Tryz.ntmps41
   go_wp2
   (refine wp_region_grown (by kernel_rfl) (by kernel_rfl) ?_;intro hne9;(repeat (go_big_quiet_step ((first|(go_at_call 88;exact grown_of _ (HJg.out _))|(go_at_call 89;exact grown_of _ (HTg.out _))))));(with_reducible refine wpQuiet_nil ?_);intro _ hw9;obtain ⟨pq,hw8⟩:=hw9;subst hw8)
   have HB9:=hide (HB.out.trans (pq.b.mono HB.out.size))
   go_wp2
   go_ret
   exact ⟨ret_bool (by rw [HBB.out];rfl),HB9.out⟩
  |true=>
   cases sb with
   |false=>
    go_enter Tryz.func41,Tryz.ntmps41
    go_wp2
    go_region_held3 (fun w'=> w'.cell? ⟨w.heap.size,0,none⟩=some (.int .i64 kj)∧w'.cell? ⟨w.heap.size,1,none⟩=some (.slice o nj c)∧w'.cell? ⟨w.heap.size,2,none⟩=some (.int .i64 sj)∧w'.cell? ⟨w.heap.size,3,none⟩=some (.int .i64 kp)∧w'.cell? ⟨w.heap.size,4,none⟩=some (.slice ob np cb)∧w'.cell? ⟨w.heap.size,5,none⟩=some (.slice oR nr cR)∧w'.cell? ⟨w.heap.size,6,none⟩=some (.slice ot nt ct)) (first|with_reducible exact ⟨z0,z1,z2,z3,z4,z5,z6⟩|with_reducible exact ⟨ka0,ka1,ka2,ka3,ka4,ka5,ka6⟩|with_reducible exact ⟨kb0,kb1,kb2,kb3,kb4,kb5,kb6⟩|with_reducible exact ⟨kc0,kc1,kc2,kc3,kc4,kc5,kc6⟩|with_reducible exact ⟨kd0,kd1,kd2,kd3,kd4,kd5,kd6⟩|go_keep) (first|(go_at_call 88;(with_reducible refine (HJ.out W0.drew (Below.drew HB.out)).mono ?_);rintro e x0 ⟨rfl,hq0⟩;have hx0:Below W0.heap.size W0 x0:=(Below.drew (Below.refl _ _)).trans hq0;have ka0:=bC hx0 z0 zz;have ka1:=bC hx0 z1 zz;have ka2:=bC hx0 z2 zz;have ka3:=bC hx0 z3 zz;have ka4:=bC hx0 z4 zz;have ka5:=bC hx0 z5 zz;have ka6:=bC hx0 z6 zz;have HBa:=HB.out.trans (hx0.mono hbw);clear hq0)|(go_at_call 89;(with_reducible refine (HT.out x0 HBa).mono ?_);rintro e x1 ⟨rfl,hq1⟩;have hx1:Below W0.heap.size W0 x1:=hx0.trans (hq1.mono hx0.size);have kb0:=bC hx1 z0 zz;have kb1:=bC hx1 z1 zz;have kb2:=bC hx1 z2 zz;have kb3:=bC hx1 z3 zz;have kb4:=bC hx1 z4 zz;have kb5:=bC hx1 z5 zz;have kb6:=bC hx1 z6 zz;have HBb:=HB.out.trans (hx1.mono hbw))|(go_at_call 91;(with_reducible refine (HRP.out x1 HBb).mono ?_);rintro e x2 ⟨v8,rfl,rd8,hq2⟩;have hx2:Below W0.heap.size W0 x2:=hx1.trans (hq2.mono hx1.size);have kc0:=bC hx2 z0 zz;have kc1:=bC hx2 z1 zz;have kc2:=bC hx2 z2 zz;have kc3:=bC hx2 z3 zz;have kc4:=bC hx2 z4 zz;have kc5:=bC hx2 z5 zz;have kc6:=bC hx2 z6 zz;have HBc:=HB.out.trans (hx2.mono hbw))|(go_at_call 90;(with_reducible refine (HSM.out x2 HBc v8 rd8).mono ?_);rintro e x3 ⟨rfl,hq3⟩;have hx3:Below W0.heap.size W0 x3:=hx2.trans (hq3.mono hx2.size);have kd0:=bC hx3 z0 zz;have kd1:=bC hx3 z1 zz;have kd2:=bC hx3 z2 zz;have kd3:=bC hx3 z3 zz;have kd4:=bC hx3 z4 zz;have kd5:=bC hx3 z5 zz;have kd6:=bC hx3 z6 zz;have HBd:=HB.out.trans (hx3.mono hbw)))
    have HB9:=hide HBd
    clear hx0 hx1 hx2 hx3 hq1 hq2 hq3 rd8 HBa HBb HBc ka0 kb0 kc0 ka1 kb1 kc1 ka2 kb2 kc2 ka3 kb3 kc3 ka4 kb4 kc4 ka5 kb5 kc5 ka6 kb6 kc6
    go_wp2
    go_ret
    exact ⟨ret_bool (by rw [HBB.out];rfl),HB9.out⟩
   |true=>
    have hne:lt≠[]:=by intro h;subst h;exact absurd HTB.out (by decide)
    rcases HRT.out with h|⟨bt,ft,rfl,hbt,hcell⟩
    ·exact absurd h hne
    have HCE:=hide hcell
    clear hcell hne HRT
    go_enter Tryz.func41,Tryz.ntmps41
    go_wp2
    go_region_held3 (fun w'=> w'.cell? ⟨w.heap.size,0,none⟩=some (.int .i64 kj)∧w'.cell? ⟨w.heap.size,1,none⟩=some (.slice o nj c)∧w'.cell? ⟨w.heap.size,2,none⟩=some (.int .i64 sj)∧w'.cell? ⟨w.heap.size,3,none⟩=some (.int .i64 kp)∧w'.cell? ⟨w.heap.size,4,none⟩=some (.slice ob np cb)∧w'.cell? ⟨w.heap.size,5,none⟩=some (.slice oR nr cR)∧w'.cell? ⟨w.heap.size,6,none⟩=some (.slice (some ⟨bt,ft,none⟩) nt ct)) (first|with_reducible exact ⟨z0,z1,z2,z3,z4,z5,z6⟩|with_reducible exact ⟨ka0,ka1,ka2,ka3,ka4,ka5,ka6⟩|with_reducible exact ⟨kb0,kb1,kb2,kb3,kb4,kb5,kb6⟩|with_reducible exact ⟨kc0,kc1,kc2,kc3,kc4,kc5,kc6⟩|with_reducible exact ⟨kd0,kd1,kd2,kd3,kd4,kd5,kd6⟩|go_keep) (first|(go_at_call 88;(with_reducible refine (HJ.out W0.drew (Below.drew HB.out)).mono ?_);rintro e x0 ⟨rfl,hq0⟩;have hx0:Below W0.heap.size W0 x0:=(Below.drew (Below.refl _ _)).trans hq0;have ka0:=bC hx0 z0 zz;have ka1:=bC hx0 z1 zz;have ka2:=bC hx0 z2 zz;have ka3:=bC hx0 z3 zz;have ka4:=bC hx0 z4 zz;have ka5:=bC hx0 z5 zz;have ka6:=bC hx0 z6 zz;have HBa:=HB.out.trans (hx0.mono hbw);clear hq0)|(go_at_call 89;(with_reducible refine (HT.out x0 HBa).mono ?_);rintro e x1 ⟨rfl,hq1⟩;have hx1:Below W0.heap.size W0 x1:=hx0.trans (hq1.mono hx0.size);have kb0:=bC hx1 z0 zz;have kb1:=bC hx1 z1 zz;have kb2:=bC hx1 z2 zz;have kb3:=bC hx1 z3 zz;have kb4:=bC hx1 z4 zz;have kb5:=bC hx1 z5 zz;have kb6:=bC hx1 z6 zz;have HBb:=HB.out.trans (hx1.mono hbw))|(go_at_call 91;(with_reducible refine (HRP.out x1 HBb).mono ?_);rintro e x2 ⟨v8,rfl,rd8,hq2⟩;have hx2:Below W0.heap.size W0 x2:=hx1.trans (hq2.mono hx1.size);have kc0:=bC hx2 z0 zz;have kc1:=bC hx2 z1 zz;have kc2:=bC hx2 z2 zz;have kc3:=bC hx2 z3 zz;have kc4:=bC hx2 z4 zz;have kc5:=bC hx2 z5 zz;have kc6:=bC hx2 z6 zz;have HBc:=HB.out.trans (hx2.mono hbw))|(go_at_call 90;(with_reducible refine (HSM.out x2 HBc v8 rd8).mono ?_);rintro e x3 ⟨rfl,hq3⟩;have hx3:Below W0.heap.size W0 x3:=hx2.trans (hq3.mono hx2.size);have kd0:=bC hx3 z0 zz;have kd1:=bC hx3 z1 zz;have kd2:=bC hx3 z2 zz;have kd3:=bC hx3 z3 zz;have kd4:=bC hx3 z4 zz;have kd5:=bC hx3 z5 zz;have kd6:=bC hx3 z6 zz;have HBd:=HB.out.trans (hx3.mono hbw)))
    have HB9:=hide HBd
    have hwx:=hx3.size
    clear hx0 hx1 hx2 hx3 hq1 hq2 hq3 rd8 HBa HBb HBc ka0 kb0 kc0 ka1 kb1 kc1 ka2 kb2 kc2 ka3 kb3 kc3 ka4 kb4 kc4 ka5 kb5 kc5 ka6 kb6 kc6
    clear HBd HJ HT HRP HSM
    go_wp2
    go_loopw [2,3] (fun rv iv wr=> ∃k:Nat,k≤nt∧iv=.int .i64 (k:Int)∧rv=.bool false∧Hid ((lt.take k).all isL=true)∧Hid (Below x3.heap.size x3 wr))
     (fun _ iv _=> nt - (intOf iv).toNat)
    case atStart=> exact ⟨0,Nat.zero_le _,rfl,rfl,(by unfold Hid;rfl),Below.refl _ _⟩
    case round=>
     rename World=> wr
     obtain ⟨k,hk',rfl,rfl,HTA,HBr⟩:=hrel
     have zzx:w.heap.size < x3.heap.size:=Nat.lt_of_lt_of_le zz hwx
     have y6:=(HBr.out.cell (p:=⟨w.heap.size,6,none⟩) zzx).trans kd6
     have HBw:=hide (HB9.out.trans (HBr.out.mono HB9.out.size))
     by_cases hlt:k < nt
     ·have hlt':(k:Int) < (nt:Int):=by omega
      have hkl:k < lt.length:=by rw [←HNT.out];exact hlt
      have a3:wr.cell? ⟨bt,ft+k * 5+3,none⟩=some (.int .i64 (lt.getD k sl0).v):=(HBw.out.cell (p:=⟨bt,ft+k * layS.k+3,none⟩) hbt).trans (HCE.out k hkl 3 (by decide))
      have HTS:=hide (take_allL lt k hkl)
      have HNO:=hide (fun h=> all_noL (l:=lt) hkl h)
      generalize lt.getD k sl0=s at *
      have HIL:=hide (show isL s=decide (s.v < 6) from rfl)
      obtain ⟨sv,hsv⟩:∃x,s.v=x:=⟨_,rfl⟩
      rw [hsv] at a3 HIL
      clear hsv
      by_cases h6:sv < 6
      ·have h6':¬(6≤sv):=by omega
       go_wp2
       go_roundw
       case rel=> exact ⟨k+1,by omega,by go_num,rfl,(by unfold Hid;rw [HTS.out,HTA.out,HIL.out,decide_eq_true h6];rfl),HBr.out⟩
       case measure=> simp [intOf];omega
      ·have h6':6≤sv:=by omega
       have HE:=hide (HNO.out (by rw [HIL.out];exact decide_eq_false h6))
       go_wp2
       go_ret
       exact ⟨ret_bool (by rw [HBB.out,HE.out];rfl),HBw.out⟩
     ·have e:k=nt:=by omega
      subst e
      have HE:Hid (lt.all isL=true):=by have h:=HTA.out;rw [HNT.out,List.take_length] at h;exact h
      go_wp2
      go_ret
      exact ⟨ret_bool (by rw [HBB.out,HE.out];rfl),HBw.out⟩
end Go.Proofs.YtgplppfbinfelaaGreat
