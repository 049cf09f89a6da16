/- Several texts in one: SBFrom2, SBOk. -/
import Derived.Test.YtpneolgdghbinaaGreatQSends11
import Derived.Test.YtpneolgdghbinaaGreatQSends28
namespace Go.Proofs.YtpneolgdghbinaaGreat
open Go.ChangeShapes Go.WideShapes Go.ChangeAt Go.RowKit Go.Joins
set_option linter.unusedVariables false
set_option linter.unusedSimpArgs false
set_option maxRecDepth 100000
set_option maxHeartbeats 40000000
theorem Q16 {W:World} {R b j:Nat} {u:Value} (h:W.cell? ⟨b,j,none⟩=some u) (hb:b≠R) (x0 x1 x2 x3 x4 x5 x6:Value):(Q1Q W R x0 x1 x2 x3 x4 x5 x6).cell? ⟨b,j,none⟩=some u:=(Q1a W R x0 x1 x2 x3 x4 x5 x6).cellP h (Nat.lt_or_gt_of_ne hb)
def Q2i (m:Bm):Bool:=Q0p m.j.key m.j.l m.j.safe && (Q6d m.t && Q3i (Q0I m.j) m.p)
abbrev QaU (vt:Value) (kj:Int) (vl:Value) (sj kp:Int) (vb vr:Value):Value:=.agg #[vt,.int .i64 kj,vl,.int .i64 sj,.int .i64 kp,vb,vr]
def QhK (lo hi:Nat) (w:World) (v:Value) (j:Jm) (p:Pm) (t:List Sl):Prop:=∃vt vl vb vr a b,v=QaU vt j.key vl j.safe p.key vb vr∧lo≤a∧a≤b∧b≤hi∧InPm lo a w (plv p.key vb vr) p∧InL Q0h Q4l a b w vt t∧InJm b hi w (jrn j.key vl j.safe) j
theorem Q4J (kj:Int) (o:Option Addr) (nj c:Nat) (sj kp:Int) (ob:Option Addr) (np cb:Nat) (oR:Option Addr) (nr cR:Nat) (ot:Option Addr) (nt ct:Nat) (lj:List Cd) (lb:List Bk) (lr:List (List (List Int))) (lt:List Sl) (w:World)
  (hnj:nj=lj.length) (hnt:nt=lt.length) (h1:RdC w.heap.size w o lj) (h1c:o=none→c=0) (h2:Q9S w.heap.size w (plv kp (.slice ob np cb) (.slice oR nr cR)) ⟨kp,lb,lr⟩) (h4:RdS w.heap.size w ot lt) (hf:Q9U ⟨⟨kj,lj,sj⟩,⟨kp,lb,lr⟩,lt⟩):
  Calls Tryz.prog 37 #[Q1d kj (.slice o nj c) sj kp (.slice ob np cb) (.slice oR nr cR) (.slice ot nt ct)] w fun e w'=> ∃(xo:Option Addr) (xn xc:Nat) (kq:Int) (yo:Option Addr) (yn yc:Nat) (sq kr:Int) (uo:Option Addr) (un uc:Nat) (vo:Option Addr) (vn vc:Nat),e=.returned (.tuple #[QaU (.slice xo xn xc) kq (.slice yo yn yc) sq kr (.slice uo un uc) (.slice vo vn vc),.bool (Q2i ⟨⟨kj,lj,sj⟩,⟨kp,lb,lr⟩,lt⟩)])∧(Q2i ⟨⟨kj,lj,sj⟩,⟨kp,lb,lr⟩,lt⟩=true→QhK w.heap.size w'.heap.size w' (QaU (.slice xo xn xc) kq (.slice yo yn yc) sq kr (.slice uo un uc) (.slice vo vn vc)) ⟨kj,lj,sj⟩ (Q0I ⟨kj,lj,sj⟩) lt)∧Below w.heap.size w w':=by
 obtain ⟨f1,f2,f7⟩:=hf
 dsimp only at f1 f2 f7
 have hfj:lj.length≤1048576:=by omega
 have HRP:=Q02 (fun W (hb:Below w.heap.size w W)=> Q8K (jrn kj (.slice o nj c) sj) ⟨kj,lj,sj⟩ W ⟨_,rfl,o,c,(by rw [hnj]),(h1.kept hb (Kaq _)).le hb.size⟩ ⟨_,_,_,rfl,fun n9 c9 e9=> by injection e9 with e1 e2 e3;rw [←e3];exact h1c e1⟩ hfj)
 have HHF:=Q02 (fun W (hb:Below w.heap.size w W)=> Q8r ot nt ct lt W hnt ((h4.kept hb (Kaq _)).le hb.size) f7)
 have HCJ:=Q02 (fun W (hb:Below w.heap.size w W)=> Q3I kj sj o c lj W ((h1.kept hb (Kaq _)).le hb.size) h1c hfj)
 rw [←hnj] at HCJ
 have HSP:=Q02 (fun W (hb:Below w.heap.size w W) v (h:Q9S W.heap.size W v (Q0I ⟨kj,lj,sj⟩))=> Q68 v (plv kp (.slice ob np cb) (.slice oR nr cR)) (Q0I ⟨kj,lj,sj⟩) ⟨kp,lb,lr⟩ W h ((h2.kept hb (Kaq _)).le hb.size) (Q5r _) f2)
 have HBB:=Q02 (show Q2i ⟨⟨kj,lj,sj⟩,⟨kp,lb,lr⟩,lt⟩=(Q0p kj lj sj && (Q6d lt && Q3i (Q0I ⟨kj,lj,sj⟩) ⟨kp,lb,lr⟩)) from rfl)
 have HHB:=Q02 (show Q6d lt=true→Q0l lt=true from fun h=> by unfold Q6d at h;cases ht:Q0l lt <;> simp_all)
 have HNJ:=Q02 hnj;have HNT:=Q02 hnt;clear h1 h2 h4 f2 hnj hnt;obtain ⟨W0,hW0⟩:∃W,((w.alloc (.cells #[.int .i64 kj,.slice o nj c,.int .i64 sj,.int .i64 kp,.slice ob np cb,.slice oR nr cR,.slice ot nt ct] 34)).alloc (.cells #[.slice none 0 0,.int .i64 0,.slice none 0 0,.int .i64 0,.int .i64 0,.slice none 0 0,.slice none 0 0] 93))=W:=⟨_,rfl⟩
 have hb_W0:Below w.heap.size w W0:=by rw [←hW0];exact (((Below.refl _ _).alloc (Kaq _) _).alloc (by simp <;> omega) _)
 have HB:=Q02 hb_W0;clear hb_W0
 have zz:w.heap.size < W0.heap.size:=by rw [←hW0];simp <;> omega
 obtain ⟨z0,z1,z2,z3,z4,z5,z6⟩:=alc7v0v2 hW0
 have zr:w.heap.size+1 < W0.heap.size:=by rw [←hW0];simp
 obtain ⟨r0,r1,r2,r3,r4,r5,r6⟩:=alc7v1v2 hW0;obtain ⟨fr0,fr1,fr2,fr3,fr4,fr5,fr6⟩:=alf7v1v2 hW0;have hzr:=zr;have hsw:w.heap.size≤W0.heap.size:=HB.out.size
 go_enter Tryz.func37,Tryz.ntmps37
 go_wp2_with fail
 refine (HRP.out W0 HB.out).mono ?_
 rintro e v1 ⟨vp,rfl,inp,hb⟩
 have HIP:=Q02 inp;clear inp;replace z0:=bC hb z0 zz;replace z1:=bC hb z1 zz;replace z2:=bC hb z2 zz;replace z3:=bC hb z3 zz;replace z4:=bC hb z4 zz;replace z5:=bC hb z5 zz;replace z6:=bC hb z6 zz;replace zz:=Kbq zz hb.size;replace r0:=bC hb r0 zr;replace r1:=bC hb r1 zr;replace r2:=bC hb r2 zr;replace r3:=bC hb r3 zr;replace r4:=bC hb r4 zr;replace r5:=bC hb r5 zr;replace r6:=bC hb r6 zr;replace fr0:=bF hb fr0 zr;replace fr1:=bF hb fr1 zr;replace fr2:=bF hb fr2 zr;replace fr3:=bF hb fr3 zr;replace fr4:=bF hb fr4 zr;replace fr5:=bF hb fr5 zr;replace fr6:=bF hb fr6 zr;replace zr:=Kbq zr hb.size
 replace HB:=Q02 (HB.out.trans (hb.mono HB.out.size));clear hb
 dsimp only at HIP ⊢
 obtain ⟨pm,hpm⟩:∃p,Q0I ⟨kj,lj,sj⟩=p:=⟨_,rfl⟩
 rw [hpm] at HIP HSP HBB
 have HPM:=Q02 hpm;clear hpm HRP;obtain ⟨po,pc,qo,qc,hve⟩:=HIP.out.opn;obtain ⟨pk,hpk⟩:∃x,pm.key=x:=⟨_,rfl⟩;obtain ⟨pn,hpn⟩:∃x,pm.l.length=x:=⟨_,rfl⟩;obtain ⟨qn,hqn⟩:∃x,pm.ring.length=x:=⟨_,rfl⟩
 rw [hpk,hpn,hqn] at hve
 subst hve;have HPK:=Q02 hpk;clear hpk hpn hqn
 have hs1:W0.heap.size≤v1.heap.size:=by have:=HIP.out;obtain ⟨_,_,mid,_,k1,k2,_⟩:=this;omega
 obtain ⟨W2,hW2⟩:∃W,(v1.alloc (.cells #[.int .i64 pk,.slice po pn pc,.slice qo qn qc] 29))=W:=⟨_,rfl⟩
 have hb_W2:Below v1.heap.size v1 W2:=by rw [←hW2];exact ((Below.refl _ _).alloc (Kaq _) _)
 replace z0:=bC hb_W2 z0 zz;replace z1:=bC hb_W2 z1 zz;replace z2:=bC hb_W2 z2 zz;replace z3:=bC hb_W2 z3 zz;replace z4:=bC hb_W2 z4 zz;replace z5:=bC hb_W2 z5 zz;replace z6:=bC hb_W2 z6 zz;replace zz:=Kbq zz hb_W2.size;replace r0:=bC hb_W2 r0 zr;replace r1:=bC hb_W2 r1 zr;replace r2:=bC hb_W2 r2 zr;replace r3:=bC hb_W2 r3 zr;replace r4:=bC hb_W2 r4 zr;replace r5:=bC hb_W2 r5 zr;replace r6:=bC hb_W2 r6 zr;replace fr0:=bF hb_W2 fr0 zr;replace fr1:=bF hb_W2 fr1 zr;replace fr2:=bF hb_W2 fr2 zr;replace fr3:=bF hb_W2 fr3 zr;replace fr4:=bF hb_W2 fr4 zr;replace fr5:=bF hb_W2 fr5 zr
 replace fr6:=bF hb_W2 fr6 zr;replace zr:=Kbq zr hb_W2.size;replace HB:=Q02 (HB.out.trans (hb_W2.mono HB.out.size));clear hb_W2
 have zp:v1.heap.size < W2.heap.size:=by rw [←hW2];simp
 obtain ⟨p0,p1,p2⟩:=alc3v0v1 hW2
 replace HIP:=Q02 (HIP.out.step (Stp.of (lo:=0) (hi:=0) (show Below v1.heap.size v1 W2 by rw [←hW2];exact (Below.refl _ _).alloc (Kaq _) _)) (.inl (Kcq _)))
 have hs2:v1.heap.size≤W2.heap.size:=by rw [←hW2];simp
 go_wp2_with fail
 refine (HHF.out W2 HB.out).mono ?_
 rintro e v2 ⟨ho,hn,hc,rfl,hown,hb⟩
 have HOH:=Q02 hown;clear hown HHF;replace HIP:=Q02 (HIP.out.step (Stp.of (lo:=0) (hi:=0) hb) (.inl (Kcq _)));have hs3:W2.heap.size≤v2.heap.size:=hb.size;replace z0:=bC hb z0 zz;replace z1:=bC hb z1 zz;replace z2:=bC hb z2 zz;replace z3:=bC hb z3 zz;replace z4:=bC hb z4 zz;replace z5:=bC hb z5 zz;replace z6:=bC hb z6 zz;replace zz:=Kbq zz hb.size;replace r0:=bC hb r0 zr;replace r1:=bC hb r1 zr;replace r2:=bC hb r2 zr;replace r3:=bC hb r3 zr;replace r4:=bC hb r4 zr;replace r5:=bC hb r5 zr;replace r6:=bC hb r6 zr;replace fr0:=bF hb fr0 zr;replace fr1:=bF hb fr1 zr;replace fr2:=bF hb fr2 zr
 replace fr3:=bF hb fr3 zr;replace fr4:=bF hb fr4 zr;replace fr5:=bF hb fr5 zr;replace fr6:=bF hb fr6 zr;replace zr:=Kbq zr hb.size;replace p0:=bC hb p0 zp;replace p1:=bC hb p1 zp;replace p2:=bC hb p2 zp;replace zp:=Kbq zp hb.size;replace HB:=Q02 (HB.out.trans (hb.mono HB.out.size));clear hb;obtain ⟨kb,hkb⟩:∃b,Q0p kj lj sj=b:=⟨_,rfl⟩;obtain ⟨tb,htb⟩:∃b,Q6d lt=b:=⟨_,rfl⟩
 rw [hkb,htb] at HBB
 rw [htb] at HHB ⊢
 rw [hkb]
 clear hkb htb;obtain ⟨W4,hW4⟩:∃W,(v2.alloc (.cells #[.slice ho hn hc] 91))=W:=⟨_,rfl⟩
 have hb_W4:Below v2.heap.size v2 W4:=by rw [←hW4];exact ((Below.refl _ _).alloc (Kaq _) _)
 replace z0:=bC hb_W4 z0 zz;replace z1:=bC hb_W4 z1 zz;replace z2:=bC hb_W4 z2 zz;replace z3:=bC hb_W4 z3 zz;replace z4:=bC hb_W4 z4 zz;replace z5:=bC hb_W4 z5 zz;replace z6:=bC hb_W4 z6 zz;replace zz:=Kbq zz hb_W4.size;replace r0:=bC hb_W4 r0 zr;replace r1:=bC hb_W4 r1 zr;replace r2:=bC hb_W4 r2 zr;replace r3:=bC hb_W4 r3 zr;replace r4:=bC hb_W4 r4 zr;replace r5:=bC hb_W4 r5 zr;replace r6:=bC hb_W4 r6 zr;replace fr0:=bF hb_W4 fr0 zr;replace fr1:=bF hb_W4 fr1 zr;replace fr2:=bF hb_W4 fr2 zr;replace fr3:=bF hb_W4 fr3 zr;replace fr4:=bF hb_W4 fr4 zr;replace fr5:=bF hb_W4 fr5 zr
 replace fr6:=bF hb_W4 fr6 zr;replace zr:=Kbq zr hb_W4.size;replace p0:=bC hb_W4 p0 zp;replace p1:=bC hb_W4 p1 zp;replace p2:=bC hb_W4 p2 zp;replace zp:=Kbq zp hb_W4.size;replace HB:=Q02 (HB.out.trans (hb_W4.mono HB.out.size));clear hb_W4
 have zt:v2.heap.size < W4.heap.size:=by rw [←hW4];simp
 have t0:W4.cell? ⟨v2.heap.size,0,none⟩=some (.slice ho hn hc):=by rw [←hW4];simp [go_sem]
 replace HIP:=Q02 (HIP.out.step (Stp.of (lo:=0) (hi:=0) (show Below v2.heap.size v2 W4 by rw [←hW4];exact (Below.refl _ _).alloc (Kaq _) _)) (.inl (Kcq _)))
 have hs4:v2.heap.size≤W4.heap.size:=by rw [←hW4];simp
 have hb24:Below v2.heap.size v2 W4:=(show Below v2.heap.size v2 W4 by rw [←hW4];exact (Below.refl _ _).alloc (Kaq _) _)
 cases kb with
 |false=>
  go_wp2
  refine bodyPost_ret (v:=.tuple #[QaU (.slice none 0 0) 0 (.slice none 0 0) 0 0 (.slice none 0 0) (.slice none 0 0),.bool false]) (by simp [results,Tryz.results37,go_sem,r0,r1,r2,r3,r4,r5,r6]) rfl ⟨none,0,0,0,none,0,0,0,0,none,0,0,none,0,0,by rw [HBB.out];rfl,fun h9=> (by rw [HBB.out] at h9;cases h9),Q0z HB.out (Nat.le_succ _) _ _ _ _ _ _ _⟩
 |true=>
  cases tb with
  |false=>
   go_wp2
   refine bodyPost_ret (v:=.tuple #[QaU (.slice none 0 0) 0 (.slice none 0 0) 0 0 (.slice none 0 0) (.slice none 0 0),.bool false]) (by simp [results,Tryz.results37,go_sem,r0,r1,r2,r3,r4,r5,r6]) rfl ⟨none,0,0,0,none,0,0,0,0,none,0,0,none,0,0,by rw [HBB.out];rfl,fun h9=> (by rw [HBB.out] at h9;cases h9),Q0z HB.out (Nat.le_succ _) _ _ _ _ _ _ _⟩
  |true=>
   have HSQ:=Q02 (HSP.out W4 HB.out _ (HIP.out.rd.le (by omega)))
   clear HSP;obtain ⟨sb,hsb⟩:∃b,Q3i pm ⟨kp,lb,lr⟩=b:=⟨_,rfl⟩
   rw [hsb] at HSQ HBB
   clear hsb
   go_wp2_with fail
   refine (HSQ.out).mono ?_
   rintro e v3 ⟨rfl,hb⟩
   replace HIP:=Q02 (HIP.out.step (Stp.of (lo:=0) (hi:=0) hb) (.inl (Kcq _)));have hs5:W4.heap.size≤v3.heap.size:=hb.size;have hb23:Below v2.heap.size v2 v3:=hb24.trans (hb.mono hs4);replace z0:=bC hb z0 zz;replace z1:=bC hb z1 zz;replace z2:=bC hb z2 zz;replace z3:=bC hb z3 zz;replace z4:=bC hb z4 zz;replace z5:=bC hb z5 zz;replace z6:=bC hb z6 zz;replace zz:=Kbq zz hb.size;replace r0:=bC hb r0 zr;replace r1:=bC hb r1 zr;replace r2:=bC hb r2 zr;replace r3:=bC hb r3 zr;replace r4:=bC hb r4 zr;replace r5:=bC hb r5 zr;replace r6:=bC hb r6 zr;replace fr0:=bF hb fr0 zr;replace fr1:=bF hb fr1 zr
   replace fr2:=bF hb fr2 zr;replace fr3:=bF hb fr3 zr;replace fr4:=bF hb fr4 zr;replace fr5:=bF hb fr5 zr;replace fr6:=bF hb fr6 zr;replace zr:=Kbq zr hb.size;replace p0:=bC hb p0 zp;replace p1:=bC hb p1 zp;replace p2:=bC hb p2 zp;replace zp:=Kbq zp hb.size;replace t0:=bC hb t0 zt;replace zt:=Kbq zt hb.size;replace HB:=Q02 (HB.out.trans (hb.mono HB.out.size));clear hb
   cases sb with
   |false=>
    go_wp2
    refine bodyPost_ret (v:=.tuple #[QaU (.slice none 0 0) 0 (.slice none 0 0) 0 0 (.slice none 0 0) (.slice none 0 0),.bool false]) (by simp [results,Tryz.results37,go_sem,r0,r1,r2,r3,r4,r5,r6]) rfl ⟨none,0,0,0,none,0,0,0,0,none,0,0,none,0,0,by rw [HBB.out];rfl,fun h9=> (by rw [HBB.out] at h9;cases h9),Q0z HB.out (Nat.le_succ _) _ _ _ _ _ _ _⟩
   |true=>
    have hne0:w.heap.size≠w.heap.size+1:=by omega
    have hne1:v1.heap.size≠w.heap.size+1:=by omega
    have hne2:v2.heap.size≠w.heap.size+1:=by omega
    go_wp2
    go_region_held3 (fun w'=> w'.cell? ⟨v2.heap.size,0,none⟩=some (.slice ho hn hc)∧w'.cell? ⟨w.heap.size,0,none⟩=some (.int .i64 kj)∧w'.cell? ⟨w.heap.size,1,none⟩=some (.slice o nj c)∧w'.cell? ⟨w.heap.size,2,none⟩=some (.int .i64 sj)∧w'.cell? ⟨v1.heap.size,0,none⟩=some (.int .i64 pk)∧w'.cell? ⟨v1.heap.size,1,none⟩=some (.slice po pn pc)∧w'.cell? ⟨v1.heap.size,2,none⟩=some (.slice qo qn qc)) (first|with_reducible exact ⟨t0,z0,z1,z2,p0,p1,p2⟩|with_reducible exact ⟨kt0,kz0,kz1,kz2,kp0,kp1,kp2⟩|with_reducible exact hks _ _ _ _ _ _ _|go_keep) (first|(go_at_call 87;(with_reducible refine (HCJ.out v3.drew (Below.drew HB.out)).mono ?_);rintro e v4 ⟨o2,c2,rfl,ow2,hq0⟩;have hx:Below v3.heap.size v3 v4:=(Below.drew (Below.refl _ _)).trans hq0;have kt0:=bC hx t0 zt;have kz0:=bC hx z0 zz;have kz1:=bC hx z1 zz;have kz2:=bC hx z2 zz;have kp0:=bC hx p0 zp;have kp1:=bC hx p1 zp;have kp2:=bC hx p2 zp;have rr0:=bC hx r0 zr;have rf0:=bF hx fr0 zr;have rr1:=bC hx r1 zr;have rf1:=bF hx fr1 zr;have rr2:=bC hx r2 zr;have rf2:=bF hx fr2 zr;have rr3:=bC hx r3 zr;have rf3:=bF hx fr3 zr;have rr4:=bC hx r4 zr;have rf4:=bF hx fr4 zr;have rr5:=bC hx r5 zr;have rf5:=bF hx fr5 zr;have rr6:=bC hx r6 zr;have rf6:=bF hx fr6 zr;have hks:=(fun x0 x1 x2 x3 x4 x5 x6=> And.intro (Q16 kt0 hne2 x0 x1 x2 x3 x4 x5 x6) (And.intro (Q16 kz0 hne0 x0 x1 x2 x3 x4 x5 x6) (And.intro (Q16 kz1 hne0 x0 x1 x2 x3 x4 x5 x6) (And.intro (Q16 kz2 hne0 x0 x1 x2 x3 x4 x5 x6) (And.intro (Q16 kp0 hne1 x0 x1 x2 x3 x4 x5 x6) (And.intro (Q16 kp1 hne1 x0 x1 x2 x3 x4 x5 x6) (Q16 kp2 hne1 x0 x1 x2 x3 x4 x5 x6)))))));have HBc:=HB.out.trans (hx.mono HB.out.size)))
    have hs6:v3.heap.size≤v4.heap.size:=hx.size;have hb29:Below v2.heap.size v2 v4:=hb23.trans (hx.mono (Kdq hs4 hs5));replace HIP:=Q02 (HIP.out.step (Stp.of (lo:=0) (hi:=0) hx) (.inl (Kcq _)));replace HB:=Q02 HBc;have HOJ:=Q02 ow2;have hdr:v3.drew.heap.size=v3.heap.size:=rfl
    have HFI:Hid (QhK w.heap.size (Q1Q v4 (w.heap.size+1) (.slice ho hn hc) (.int .i64 kj) (.slice o2 nj c2) (.int .i64 sj) (.int .i64 pk) (.slice po pn pc) (.slice qo qn qc)).heap.size (Q1Q v4 (w.heap.size+1) (.slice ho hn hc) (.int .i64 kj) (.slice o2 nj c2) (.int .i64 sj) (.int .i64 pk) (.slice po pn pc) (.slice qo qn qc)) (QaU (.slice ho hn hc) kj (.slice o2 nj c2) sj pk (.slice po pn pc) (.slice qo qn qc)) ⟨kj,lj,sj⟩ pm lt):=by
     have s9:=Q1a v4 (w.heap.size+1) (.slice ho hn hc) (.int .i64 kj) (.slice o2 nj c2) (.int .i64 sj) (.int .i64 pk) (.slice po pn pc) (.slice qo qn qc);have e9:pm.key=pk:=HPK.out
     obtain ⟨g,hg,hn9,hc9,hw9⟩:=HOH.out (by first|exact HHB.out rfl|exact HHB.out trivial|simpa using HHB.out)
     subst hg hn9 hc9
     refine ⟨_,_,_,_,W2.heap.size,v2.heap.size,by rw [e9],by omega,by omega,by rw [Q0F];omega, ?_, ?_, ?_⟩
     ·rw [e9]
      exact Q9R (HIP.out.step s9 (.inl (by omega))) (by omega) (by omega)
     ·exact InRow.step ((InRow.of hw9).step (Stp.of (lo:=0) (hi:=0) hb29) (.inl (Kcq _))) s9 (.inl (by omega))
     ·refine ⟨_,rfl, ?_⟩
      have j9:=InRow.step (InRow.of HOJ.out) s9 (.inl (by omega))
      rw [HNJ.out] at j9 ⊢
      exact InRow.mono j9 (by omega) (by rw [Q0F];exact Kaq _)
    clear hks hx hq0 HBc ow2 hb23 hb29 t0 kt0 z0 kz0 z1 kz1 z2 kz2 p0 kp0 p1 kp1 p2 kp2 r0 fr0 r1 fr1 r2 fr2 r3 fr3 r4 fr4 r5 fr5 r6 fr6
    go_wp2
    refine bodyPost_ret (v:=.tuple #[QaU (.slice ho hn hc) kj (.slice o2 nj c2) sj pk (.slice po pn pc) (.slice qo qn qc),.bool true]) (by simp [results,Tryz.results37,go_sem,rr0,rr1,rr2,rr3,rr4,rr5,rr6]) rfl ⟨ho,hn,hc,kj,o2,nj,c2,sj,pk,po,pn,pc,qo,qn,qc,by rw [HBB.out];rfl,fun _=> (by rw [HPM.out];exact HFI.out),Q0z HB.out (Nat.le_succ _) _ _ _ _ _ _ _⟩
theorem Q67 (aa bb:List (List Int)):∀k,Q0U aa bb k=Q0U bb aa k
 |0=> rfl
 |k+1=> by
  unfold Q0U
  rw [Q67 aa bb k]
  by_cases h:aa.getD k []=bb.getD k []
  ·rw [if_pos h,if_pos h.symm]
  ·rw [if_neg h,if_neg (fun e=> h e.symm)]
theorem Qao (aa bb:List (List Int)):Q1s aa bb=Q1s bb aa:=by
 unfold Q1s
 by_cases h:aa.length=8∧bb.length=8
 ·rw [if_pos h,if_pos h.symm,Q67]
 ·rw [if_neg h,if_neg (fun e=> h e.symm)]
theorem Q8t (R1 R2:List (List (List Int))):Q1l R1 R2=Q1l R2 R1:=by
 unfold Q1l
 by_cases h:R1.length=R2.length
 ·rw [h]
  congr 1
  congr 1
  funext i
  rw [Qao]
 ·rw [decide_eq_false h,decide_eq_false (fun e=> h e.symm)];rfl
theorem Qav (m1 m2:Pm):Q3i m1 m2=Q3i m2 m1:=by
 unfold Q3i
 rw [Q8t,show decide (m1.key=m2.key)=decide (m2.key=m1.key) from decide_eq_decide.2 ⟨Eq.symm,Eq.symm⟩,show decide (m1.l=m2.l)=decide (m2.l=m1.l) from decide_eq_decide.2 ⟨Eq.symm,Eq.symm⟩]
def isL (s:Sl):Bool:=decide (s.v < 6)
theorem Qe4 {s:Sl} (h:Q34 s=true):0≤s.v:=by
 unfold Q34 at h
 split at h
 ·simp only [Bool.and_eq_true,decide_eq_true_eq] at h;exact h.1.1.1.2
 ·simp only [Bool.and_eq_true,decide_eq_true_eq] at h;omega
theorem QgL {l:List Sl} (h:Q0l l=true):l.all isV=l.all isL:=by
 have h3:=(Q0i.1 h).2.2
 have hs:∀s∈l,isV s=isL s:=fun s hs=> by
  obtain ⟨i,hi,rfl⟩:=List.getElem_of_mem hs;have h4:=h3 i hi
  unfold Q5m at h4
  rw [Bool.and_eq_true] at h4
  have h5:=Qe4 h4.1
  have e:l.getD i sl0=l[i]:=by simp [hi]
  rw [e] at h5
  unfold isV isL
  rw [decide_eq_true h5];rfl
 rw [Bool.eq_iff_iff,List.all_eq_true,List.all_eq_true]
 exact ⟨fun q s m=> (hs s m) ▸ q s m,fun q s m=> (hs s m).symm ▸ q s m⟩
theorem Qd4 (m:Bm):Q2i m=(Q0p m.j.key m.j.l m.j.safe && (Q0l m.t && (Q3i m.p (Q0I m.j) && m.t.all isL))):=by
 unfold Q2i Q6d
 rw [Qav]
 cases ht:Q0l m.t with
 |false=> simp
 |true=> rw [QgL ht];cases m.t.all isL <;> simp
end Go.Proofs.YtpneolgdghbinaaGreat
