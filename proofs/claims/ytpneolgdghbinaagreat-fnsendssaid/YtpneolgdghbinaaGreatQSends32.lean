/- Several texts in one: SBNew, SBPlain, SBOwn, SCrash, SBNewS. -/
import Derived.Laws.MakeOwn
import Derived.Test.YtpneolgdghbinaaGreatQSends31
namespace Go.Proofs.YtpneolgdghbinaaGreat
open Go.ChangeShapes Go.WideShapes Go.ChangeAt Go.RowKit Go.Joins
set_option linter.unusedVariables false
set_option linter.unusedSimpArgs false
set_option maxRecDepth 100000
set_option maxHeartbeats 40000000
def bm0:Bm:=⟨jm0,pm0,[]⟩
def Qe5 (key size:Int):Bool:=Q1C key && Qbn size
def Q1b (key size:Int):Bm:=if Qe5 key size=true then ⟨⟨key,[],0⟩,Q7w key,Q7z size⟩ else bm0
theorem QaS (lo hi:Nat) (w:World) (h:lo≤hi):InBm lo hi w (Q1d 0 (.slice none 0 0) 0 0 (.slice none 0 0) (.slice none 0 0) (.slice none 0 0)) bm0:=InBm.asc (m:=bm0) (a:=lo) (b:=lo) (Kaq _) (Kaq _) h ⟨_,rfl,World.ownsRow_nil _ _ _ _,fun b e=> by cases e⟩ (Q90 lo lo w (Kaq _)) ⟨_,rfl,World.ownsRow_nil _ _ _ _,fun b e=> by cases e⟩
theorem QfQ (key size:Int):fitBm (Q1b key size):=by
 unfold Q1b
 split
 ·exact ⟨by simp,Qbt key,by have:=Qg3 size;dsimp only;omega⟩
 ·exact ⟨by simp [bm0,jm0],by have h:=Qbt (-1);have e:Q7w (-1)=pm0:=(by rfl);rw [e] at h;exact h,by simp [bm0]⟩
theorem QhZ (m:Nat) (hm:m≤16):∃cs:Array Value,(∀W:World,(Instr.makeSlice 30 (.int .i64 (m:Int)) (.int .i64 (m:Int))).run Tryz.prog W=.ok (.slice (some ⟨W.heap.size,0,none⟩) m m) (W.alloc (.cells cs 101)))∧∀W:World,Qfn (W.alloc (.cells cs 101)) W.heap.size (.slice (some ⟨W.heap.size,0,none⟩) m m) (List.replicate m sl0):=by
 obtain ⟨i0,hi,hz0,hz1,hz2⟩:=info_parts Q6l
 have h1:∀W:World,(Instr.makeSlice 30 (.int .i64 (m:Int)) (.int .i64 (m:Int))).run Tryz.prog W=.ok (.slice (some ⟨W.heap.size,0,none⟩) m m) (W.alloc (.cells (madeCells (slot sl0).cells (m * i0.size)) 101)):=fun W=> by
  have h:=run_make (P:=Tryz.prog) W 30 101 i0 (slot sl0) Tryz.underlying30 hi hz0 .i64 .i64 (m:Int) (m:Int) (by omega) (by omega) (by rw [hz2];omega) (by omega)
  simpa using h
 refine ⟨_,h1,fun W=> ?_⟩
 obtain ⟨w',hrun,r1,r2⟩:=run_make_full (P:=Tryz.prog) W W.heap.size 30 101 i0 (slot sl0) 5 Tryz.underlying30 hi hz0 hz1 .i64 .i64 m (by rw [hz2];omega) (by unfold maxLen;omega) (Kaq _)
 have h2:=(h1 W).symm.trans hrun
 injection h2 with _ h2
 rw [h2]
 unfold Qfn ownL
 rw [List.length_replicate]
 show w'.ownsRow _ _ _ _ m ((List.replicate m Q0h.d).flatMap Q0h.cs)
 rw [←Q3q Q0h (slot sl0) rfl]
 exact r1
theorem Q7u (key size:Int) (w:World):
  Calls Tryz.prog 45 #[.int .i64 key,.int .i64 size] w fun e w'=> ∃v,e=.returned (.tuple #[v,.bool (Qe5 key size)])∧InBm w.heap.size w'.heap.size w' v (Q1b key size)∧Below w.heap.size w w':=by
 have HBM:=Q02 (show Q1b key size=if Qe5 key size=true then ⟨⟨key,[],0⟩,Q7w key,Q7z size⟩ else bm0 from rfl);have HBB:=Q02 (show Qe5 key size=(Q1C key && Qbn size) from rfl)
 have HKY:=Q02 (show Q1C key=true→(Q7w key).key=key from fun h=> by unfold Q7w;rw [if_pos h])
 obtain ⟨W0,hW0⟩:∃W,(w.alloc (.cells #[.int .i64 0,.slice none 0 0,.int .i64 0,.int .i64 0,.slice none 0 0,.slice none 0 0,.slice none 0 0] 34))=W:=⟨_,rfl⟩
 have hb_W0:Below w.heap.size w W0:=by rw [←hW0];exact ((Below.refl _ _).alloc (Kaq _) _)
 have HB:=Q02 hb_W0;clear hb_W0
 have zr:w.heap.size < W0.heap.size:=by rw [←hW0];simp
 obtain ⟨r0,r1,r2,r3,r4,r5,r6⟩:=alc7v0v1 hW0;obtain ⟨fr0,fr1,fr2,fr3,fr4,fr5,fr6⟩:=alf7v0v1 hW0;have hzr:=zr
 go_enter Tryz.func45,Tryz.ntmps45
 go_wp2_with fail
 refine (Q7g key W0).mono ?_
 rintro e v1 ⟨vp,rfl,inp,hb⟩
 have HIP:=Q02 inp;clear inp;replace r0:=bC hb r0 zr;replace r1:=bC hb r1 zr;replace r2:=bC hb r2 zr;replace r3:=bC hb r3 zr;replace r4:=bC hb r4 zr;replace r5:=bC hb r5 zr;replace r6:=bC hb r6 zr;replace fr0:=bF hb fr0 zr;replace fr1:=bF hb fr1 zr;replace fr2:=bF hb fr2 zr;replace fr3:=bF hb fr3 zr;replace fr4:=bF hb fr4 zr;replace fr5:=bF hb fr5 zr;replace fr6:=bF hb fr6 zr;replace zr:=Kbq zr hb.size;replace HB:=Q02 (HB.out.trans (hb.mono HB.out.size));clear hb;obtain ⟨pm,hpm⟩:∃p,Q7w key=p:=⟨_,rfl⟩
 rw [hpm] at HIP HBM HKY
 clear hpm;obtain ⟨po,pc,qo,qc,hve⟩:=HIP.out.opn;obtain ⟨pk,hpk⟩:∃x,pm.key=x:=⟨_,rfl⟩;obtain ⟨pn,hpn⟩:∃x,pm.l.length=x:=⟨_,rfl⟩;obtain ⟨qn,hqn⟩:∃x,pm.ring.length=x:=⟨_,rfl⟩
 rw [hpk,hpn,hqn] at hve
 subst hve;have HPK:=Q02 hpk;clear hpk hpn hqn
 have hs1:W0.heap.size≤v1.heap.size:=by have:=HIP.out;obtain ⟨_,_,mid,_,k1,k2,_⟩:=this;omega
 obtain ⟨W2,hW2⟩:∃W,(v1.alloc (.cells #[.int .i64 pk,.slice po pn pc,.slice qo qn qc] 29))=W:=⟨_,rfl⟩
 have hb_W2:Below v1.heap.size v1 W2:=by rw [←hW2];exact ((Below.refl _ _).alloc (Kaq _) _)
 replace r0:=bC hb_W2 r0 zr;replace r1:=bC hb_W2 r1 zr;replace r2:=bC hb_W2 r2 zr;replace r3:=bC hb_W2 r3 zr;replace r4:=bC hb_W2 r4 zr;replace r5:=bC hb_W2 r5 zr;replace r6:=bC hb_W2 r6 zr;replace fr0:=bF hb_W2 fr0 zr;replace fr1:=bF hb_W2 fr1 zr;replace fr2:=bF hb_W2 fr2 zr;replace fr3:=bF hb_W2 fr3 zr;replace fr4:=bF hb_W2 fr4 zr;replace fr5:=bF hb_W2 fr5 zr;replace fr6:=bF hb_W2 fr6 zr;replace zr:=Kbq zr hb_W2.size;replace HB:=Q02 (HB.out.trans (hb_W2.mono HB.out.size));clear hb_W2
 have zp:v1.heap.size < W2.heap.size:=by rw [←hW2];simp
 obtain ⟨p0,p1,p2⟩:=alc3v0v1 hW2
 replace HIP:=Q02 (HIP.out.step (Stp.of (lo:=0) (hi:=0) (show Below v1.heap.size v1 W2 by rw [←hW2];exact (Below.refl _ _).alloc (Kaq _) _)) (.inl (Kcq _)))
 have hs2:v1.heap.size≤W2.heap.size:=by rw [←hW2];simp
 go_wp2_with fail
 refine (Q6h size W2).mono ?_
 rintro e v2 ⟨vt,rfl,int,hb⟩
 have HIT:=Q02 int;clear int;replace HIP:=Q02 (HIP.out.step (Stp.of (lo:=0) (hi:=0) hb) (.inl (Kcq _)));have hs3:W2.heap.size≤v2.heap.size:=hb.size;replace r0:=bC hb r0 zr;replace r1:=bC hb r1 zr;replace r2:=bC hb r2 zr;replace r3:=bC hb r3 zr;replace r4:=bC hb r4 zr;replace r5:=bC hb r5 zr;replace r6:=bC hb r6 zr;replace fr0:=bF hb fr0 zr;replace fr1:=bF hb fr1 zr;replace fr2:=bF hb fr2 zr;replace fr3:=bF hb fr3 zr;replace fr4:=bF hb fr4 zr;replace fr5:=bF hb fr5 zr;replace fr6:=bF hb fr6 zr;replace zr:=Kbq zr hb.size;replace p0:=bC hb p0 zp;replace p1:=bC hb p1 zp;replace p2:=bC hb p2 zp
 replace zp:=Kbq zp hb.size;replace HB:=Q02 (HB.out.trans (hb.mono HB.out.size));clear hb;obtain ⟨tm,htm⟩:∃p,Q7z size=p:=⟨_,rfl⟩
 rw [htm] at HIT HBM
 clear htm;obtain ⟨vt',hvt,ot,ct,hvt',_⟩:=HIT.out.rd;subst hvt' hvt;obtain ⟨nt,hnt⟩:∃x,tm.length=x:=⟨_,rfl⟩
 rw [hnt] at HIT ⊢
 clear hnt;obtain ⟨kb,hkb⟩:∃b,Q1C key=b:=⟨_,rfl⟩;obtain ⟨tb,htb⟩:∃b,Qbn size=b:=⟨_,rfl⟩
 rw [hkb,htb] at HBB
 rw [hkb] at HKY ⊢
 rw [htb]
 rw [HBB.out] at HBM
 clear hkb htb;obtain ⟨W4,hW4⟩:∃W,(v2.alloc (.cells #[.slice ot nt ct] 32))=W:=⟨_,rfl⟩
 have hb_W4:Below v2.heap.size v2 W4:=by rw [←hW4];exact ((Below.refl _ _).alloc (Kaq _) _)
 replace r0:=bC hb_W4 r0 zr;replace r1:=bC hb_W4 r1 zr;replace r2:=bC hb_W4 r2 zr;replace r3:=bC hb_W4 r3 zr;replace r4:=bC hb_W4 r4 zr;replace r5:=bC hb_W4 r5 zr;replace r6:=bC hb_W4 r6 zr;replace fr0:=bF hb_W4 fr0 zr;replace fr1:=bF hb_W4 fr1 zr;replace fr2:=bF hb_W4 fr2 zr;replace fr3:=bF hb_W4 fr3 zr;replace fr4:=bF hb_W4 fr4 zr;replace fr5:=bF hb_W4 fr5 zr;replace fr6:=bF hb_W4 fr6 zr;replace zr:=Kbq zr hb_W4.size;replace p0:=bC hb_W4 p0 zp;replace p1:=bC hb_W4 p1 zp;replace p2:=bC hb_W4 p2 zp;replace zp:=Kbq zp hb_W4.size;replace HB:=Q02 (HB.out.trans (hb_W4.mono HB.out.size))
 clear hb_W4
 have zt:v2.heap.size < W4.heap.size:=by rw [←hW4];simp
 have t0:W4.cell? ⟨v2.heap.size,0,none⟩=some (.slice ot nt ct):=by rw [←hW4];simp [go_sem]
 replace HIP:=Q02 (HIP.out.step (Stp.of (lo:=0) (hi:=0) (show Below v2.heap.size v2 W4 by rw [←hW4];exact (Below.refl _ _).alloc (Kaq _) _)) (.inl (Kcq _)))
 replace HIT:=Q02 (HIT.out.step (Stp.of (lo:=0) (hi:=0) (show Below v2.heap.size v2 W4 by rw [←hW4];exact (Below.refl _ _).alloc (Kaq _) _)) (.inl (Kcq _)))
 have hs4:v2.heap.size≤W4.heap.size:=by rw [←hW4];simp
 cases kb with
 |false=>
  go_wp2
  refine bodyPost_ret (v:=.tuple #[Q1d 0 (.slice none 0 0) 0 0 (.slice none 0 0) (.slice none 0 0) (.slice none 0 0),.bool false]) (by simp [results,Tryz.results45,go_sem,r0,r1,r2,r3,r4,r5,r6]) rfl ⟨_,by rw [HBB.out];rfl, ?_,Q0z HB.out (Kaq _) _ _ _ _ _ _ _⟩
  rw [HBM.out,Q0F]
  exact QaS _ _ _ (by omega)
 |true=>
  cases tb with
  |false=>
   go_wp2
   refine bodyPost_ret (v:=.tuple #[Q1d 0 (.slice none 0 0) 0 0 (.slice none 0 0) (.slice none 0 0) (.slice none 0 0),.bool false]) (by simp [results,Tryz.results45,go_sem,r0,r1,r2,r3,r4,r5,r6]) rfl ⟨_,by rw [HBB.out];rfl, ?_,Q0z HB.out (Kaq _) _ _ _ _ _ _ _⟩
   rw [HBM.out,Q0F]
   exact QaS _ _ _ (by omega)
  |true=>
   have hkk:pk=key:=by rw [←HPK.out];exact HKY.out rfl
   subst hkk
   go_wp2
   refine bodyPost_ret (v:=.tuple #[Q1d pk (.slice none 0 0) 0 pk (.slice po pn pc) (.slice qo qn qc) (.slice ot nt ct),.bool true]) (by simp [results,Tryz.results45,go_sem,r0,r1,r2,r3,r4,r5,r6]) rfl ⟨_,by rw [HBB.out];rfl, ?_,Q0z HB.out (Kaq _) _ _ _ _ _ _ _⟩
   rw [HBM.out,Q0F]
   have s9:=Q1a W4 w.heap.size (.int .i64 pk) (.slice none 0 0) (.int .i64 0) (.int .i64 pk) (.slice po pn pc) (.slice qo qn qc) (.slice ot nt ct);have e9:pm.key=pk:=HPK.out
   refine ⟨.slice none 0 0,.slice po pn pc,.slice qo qn qc,.slice ot nt ct,w.heap.size,w.heap.size,w.heap.size,W2.heap.size,W2.heap.size,W4.heap.size, ?_,by omega,⟨_,rfl,World.ownsRow_nil _ _ _ _,fun b e=> by cases e⟩, ?_, ?_⟩
   ·show Q1d pk _ _ _ _ _ _=Q1d pk _ 0 pm.key _ _ _
    rw [e9]
   ·show InPm w.heap.size W2.heap.size _ (plv pm.key (.slice po pn pc) (.slice qo qn qc)) pm
    rw [e9]
    exact Q9R (HIP.out.step s9 (.inl (by omega))) (by omega) (by omega)
   ·exact HIT.out.step s9 (.inl (by omega))|> QdT (by omega)
structure Bx (lo:Nat) (w:World) (g xc:Nat) (kj:Int) (vl:Value) (sj kp:Int) (vb vr:Value) (m:Bm):Prop where
 ek:kj=m.j.key
 es:sj=m.j.safe
 ep:kp=m.p.key
 row:∃base,lo≤base∧w.ownsRow base Q4l 5 (.slice (some ⟨g,0,none⟩) m.t.length xc) m.t.length (m.t.flatMap Q0h.cs)
 mem:∃j0 j1 p0 p1,lo≤j0∧j1≤w.heap.size∧lo≤p0∧p1≤w.heap.size∧(j1≤p0∨p1≤j0)∧(g < j0∨j1≤g)∧(g < p0∨p1≤g)∧InJm j0 j1 w (jrn m.j.key vl m.j.safe) m.j∧InPm p0 p1 w (plv m.p.key vb vr) m.p
theorem Bx.kept {lo:Nat} {w w':World} {g xc:Nat} {kj:Int} {vl:Value} {sj kp:Int} {vb vr:Value} {m:Bm} (h:Bx lo w g xc kj vl sj kp vb vr m) (hb:Below w.heap.size w w'):Bx lo w' g xc kj vl sj kp vb vr m:=by
 obtain ⟨h1,h2,h3,⟨base,h4,h5⟩,⟨j0,j1,p0,p1,k1,k2,k3,k4,k5,k6,k7,i1,i2⟩⟩:=h;have hs:=hb.size
 exact ⟨h1,h2,h3,⟨base,h4,Q03 h5 hb⟩,⟨j0,j1,p0,p1,k1,by omega,k3,by omega,k5,k6,k7,i1.step (Stp.of (lo:=0) (hi:=0) hb) (.inl (Kcq _)),i2.step (Stp.of (lo:=0) (hi:=0) hb) (.inl (Kcq _))⟩⟩
theorem Bx.of {lo:Nat} {w:World} {xo:Option Addr} {xn xc:Nat} {kq:Int} {yo:Option Addr} {yn yc:Nat} {sq kr:Int} {uo:Option Addr} {un uc:Nat} {vo:Option Addr} {vn vc:Nat} {j:Jm} {p:Pm} {t:List Sl} (h:QhK lo w.heap.size w (QaU (.slice xo xn xc) kq (.slice yo yn yc) sq kr (.slice uo un uc) (.slice vo vn vc)) j p t) (ht:0 < t.length):
  ∃g,xo=some ⟨g,0,none⟩∧xn=t.length∧lo≤g∧Bx lo w g xc kq (.slice yo yn yc) sq kr (.slice uo un uc) (.slice vo vn vc) ⟨j,p,t⟩:=by
 obtain ⟨g,a,b,k1,k2,k3,k4,e1,e2,e3,e4,e5,i1,i2,i3⟩:=Q6Y h ht
 exact ⟨g,e4,e5,by omega,e1,e2,e3,⟨a,by omega,i2⟩,⟨b,w.heap.size,lo,a,by omega,Kaq _,Kaq _,by omega,by omega,by omega,by omega,i3,i1⟩⟩
theorem Qcu (lo g nt xc:Nat) (kq:Int) (yo:Option Addr) (yn yc:Nat) (sq kr:Int) (uo:Option Addr) (un uc:Nat) (vo:Option Addr) (vn vc:Nat) (m:Bm) (w:World) (hnt:nt=m.t.length) (hl:m.t.length≤1048576) (hlo:lo≤w.heap.size) (h:Bx lo w g xc kq (.slice yo yn yc) sq kr (.slice uo un uc) (.slice vo vn vc) m):
  Calls Tryz.prog 63 #[QaU (.slice (some ⟨g,0,none⟩) nt xc) kq (.slice yo yn yc) sq kr (.slice uo un uc) (.slice vo vn vc)] w fun e w'=> ∃tO tn tc,e=.returned (Q1d kq (.slice yo yn yc) sq kr (.slice uo un uc) (.slice vo vn vc) (.slice tO tn tc))∧InBm lo w'.heap.size w' (Q1d kq (.slice yo yn yc) sq kr (.slice uo un uc) (.slice vo vn vc) (.slice tO tn tc)) m∧Below w.heap.size w w':=by
 obtain ⟨base,hbs,ho⟩:=h.row
 have HPT:=Q02 (fun W (hb:Below w.heap.size w W)=> Q4t g 0 xc m.t W (Kbq (ho.lt g rfl).2 hb.size) (Q1M (Q03 ho hb) rfl) hl)
 rw [←hnt] at HPT
 have HNT:=Q02 hnt;have HX:=Q02 h
 have HMM:=Q02 (show ∀W:World,Below w.heap.size w W→∃j0 j1 p0 p1,lo≤j0∧j1≤w.heap.size∧lo≤p0∧p1≤w.heap.size∧(j1≤p0∨p1≤j0)∧(g < j0∨j1≤g)∧(g < p0∨p1≤g)∧InJm j0 j1 W (jrn m.j.key (.slice yo yn yc) m.j.safe) m.j∧InPm p0 p1 W (plv m.p.key (.slice uo un uc) (.slice vo vn vc)) m.p from fun W hb=> by
  obtain ⟨j0,j1,p0,p1,k1,k2,k3,k4,k5,k6,k7,i1,i2⟩:=h.mem
  exact ⟨j0,j1,p0,p1,k1,k2,k3,k4,k5,k6,k7,i1.step (Stp.of (lo:=0) (hi:=0) hb) (.inl (Kcq _)),i2.step (Stp.of (lo:=0) (hi:=0) hb) (.inl (Kcq _))⟩)
 clear ho h hnt;obtain ⟨W0,hW0⟩:∃W,((w.alloc (.cells #[.slice (some ⟨g,0,none⟩) nt xc,.int .i64 kq,.slice yo yn yc,.int .i64 sq,.int .i64 kr,.slice uo un uc,.slice vo vn vc] 93)).alloc (.cells #[.int .i64 0,.slice none 0 0,.int .i64 0,.int .i64 0,.slice none 0 0,.slice none 0 0,.slice none 0 0] 34))=W:=⟨_,rfl⟩
 have hb_W0:Below w.heap.size w W0:=by rw [←hW0];exact (((Below.refl _ _).alloc (Kaq _) _).alloc (by simp <;> omega) _)
 have HB:=Q02 hb_W0;clear hb_W0
 have zx:w.heap.size < W0.heap.size:=by rw [←hW0];simp <;> omega
 obtain ⟨x0,x1,x2,x3,x4,x5,x6⟩:=alc7v0v2 hW0
 have zr:w.heap.size+1 < W0.heap.size:=by rw [←hW0];simp
 obtain ⟨r0,r1,r2,r3,r4,r5,r6⟩:=alc7v1v2 hW0;obtain ⟨fr0,fr1,fr2,fr3,fr4,fr5,fr6⟩:=alf7v1v2 hW0
 have hne0:w.heap.size≠w.heap.size+1:=by omega
 have hsw:w.heap.size+1 < W0.heap.size:=zr
 go_enter Tryz.func63,Tryz.ntmps63
 go_wp2
 go_region_held3 (fun w'=> w'.cell? ⟨w.heap.size,0,none⟩=some (.slice (some ⟨g,0,none⟩) nt xc)∧w'.cell? ⟨w.heap.size,1,none⟩=some (.int .i64 kq)∧w'.cell? ⟨w.heap.size,2,none⟩=some (.slice yo yn yc)∧w'.cell? ⟨w.heap.size,3,none⟩=some (.int .i64 sq)∧w'.cell? ⟨w.heap.size,4,none⟩=some (.int .i64 kr)∧w'.cell? ⟨w.heap.size,5,none⟩=some (.slice uo un uc)∧w'.cell? ⟨w.heap.size,6,none⟩=some (.slice vo vn vc)) (first|with_reducible exact ⟨x0,x1,x2,x3,x4,x5,x6⟩|with_reducible exact ⟨kx0,kx1,kx2,kx3,kx4,kx5,kx6⟩|with_reducible exact hks _ _ _ _ _ _ _|go_keep) (first|(go_at_call 112;(with_reducible refine (HPT.out W0.drew (Below.drew HB.out)).mono ?_);rintro e v4 ⟨tg,rfl,ow2,hq0⟩;have hx:Below W0.heap.size W0 v4:=(Below.drew (Below.refl _ _)).trans hq0;have kx0:=bC hx x0 zx;have kx1:=bC hx x1 zx;have kx2:=bC hx x2 zx;have kx3:=bC hx x3 zx;have kx4:=bC hx x4 zx;have kx5:=bC hx x5 zx;have kx6:=bC hx x6 zx;have rr0:=bC hx r0 zr;have rf0:=bF hx fr0 zr;have rr1:=bC hx r1 zr;have rf1:=bF hx fr1 zr;have rr2:=bC hx r2 zr;have rf2:=bF hx fr2 zr;have rr3:=bC hx r3 zr;have rf3:=bF hx fr3 zr;have rr4:=bC hx r4 zr;have rf4:=bF hx fr4 zr;have rr5:=bC hx r5 zr;have rf5:=bF hx fr5 zr;have rr6:=bC hx r6 zr;have rf6:=bF hx fr6 zr;have hks:=(fun x0 x1 x2 x3 x4 x5 x6=> (And.intro (Q16 kx0 hne0 x0 x1 x2 x3 x4 x5 x6) (And.intro (Q16 kx1 hne0 x0 x1 x2 x3 x4 x5 x6) (And.intro (Q16 kx2 hne0 x0 x1 x2 x3 x4 x5 x6) (And.intro (Q16 kx3 hne0 x0 x1 x2 x3 x4 x5 x6) (And.intro (Q16 kx4 hne0 x0 x1 x2 x3 x4 x5 x6) (And.intro (Q16 kx5 hne0 x0 x1 x2 x3 x4 x5 x6) (Q16 kx6 hne0 x0 x1 x2 x3 x4 x5 x6))))))));have HBc:=HB.out.trans (hx.mono HB.out.size)))
 have hs6:W0.heap.size≤v4.heap.size:=hx.size;have HO:=Q02 ow2;replace HB:=Q02 HBc;replace HX:=Q02 (HX.out.kept HBc)
 have HFI:Hid (InBm lo (Q1Q v4 (w.heap.size+1) (.int .i64 kq) (.slice yo yn yc) (.int .i64 sq) (.int .i64 kr) (.slice uo un uc) (.slice vo vn vc) (.slice (some ⟨tg,0,none⟩) nt nt)).heap.size (Q1Q v4 (w.heap.size+1) (.int .i64 kq) (.slice yo yn yc) (.int .i64 sq) (.int .i64 kr) (.slice uo un uc) (.slice vo vn vc) (.slice (some ⟨tg,0,none⟩) nt nt)) (Q1d kq (.slice yo yn yc) sq kr (.slice uo un uc) (.slice vo vn vc) (.slice (some ⟨tg,0,none⟩) nt nt)) m):=by
  have s9:=Q1a v4 (w.heap.size+1) (.int .i64 kq) (.slice yo yn yc) (.int .i64 sq) (.int .i64 kr) (.slice uo un uc) (.slice vo vn vc) (.slice (some ⟨tg,0,none⟩) nt nt);obtain ⟨e1,e2,e3,_,_⟩:=HX.out;obtain ⟨j0,j1,p0,p1,k1,k2,k3,k4,k5,k6,k7,i1,i2⟩:∃j0 j1 p0 p1,lo≤j0∧j1≤w.heap.size∧lo≤p0∧p1≤w.heap.size∧(j1≤p0∨p1≤j0)∧(g < j0∨j1≤g)∧(g < p0∨p1≤g)∧InJm j0 j1 v4 (jrn m.j.key (.slice yo yn yc) m.j.safe) m.j∧InPm p0 p1 v4 (plv m.p.key (.slice uo un uc) (.slice vo vn vc)) m.p:=HMM.out v4 HB.out
  refine ⟨_,_,_,_,j0,j1,p0,p1,W0.heap.size,v4.heap.size,by rw [e1,e2,e3],by rw [Q0F];omega,i1.step s9 (by omega),i2.step s9 (by omega),⟨_,rfl, ?_⟩⟩
  have t9:=InRow.step (InRow.of HO.out) s9 (.inl (show w.heap.size+1+1≤W0.heap.size by omega))
  rw [HNT.out] at t9 ⊢
  exact t9
 clear hks hx hq0 HBc ow2 x0 kx0 x1 kx1 x2 kx2 x3 kx3 x4 kx4 x5 kx5 x6 kx6 r0 fr0 r1 fr1 r2 fr2 r3 fr3 r4 fr4 r5 fr5 r6 fr6
 go_wp2
 refine bodyPost_ret (v:=Q1d kq (.slice yo yn yc) sq kr (.slice uo un uc) (.slice vo vn vc) (.slice (some ⟨tg,0,none⟩) nt nt)) (by simp [results,Tryz.results63,go_sem,rr0,rr1,rr2,rr3,rr4,rr5,rr6]) rfl ⟨_,_,_,rfl,HFI.out,Q0z HB.out (Nat.le_succ _) _ _ _ _ _ _ _⟩
def OwBm (lo hi:Nat) (w:World) (v:Value) (m:Bm):Prop:=∃vl vb vr vt,v=Q1d m.j.key vl m.j.safe m.p.key vb vr vt∧InJm lo hi w (jrn m.j.key vl m.j.safe) m.j∧RcPm lo hi w (plv m.p.key vb vr) m.p∧InTb lo hi w (tab vt) m.t
theorem OwBm.step {x y lo hi:Nat} {w w':World} {v:Value} {m:Bm} (h:OwBm x y w v m) (s:Stp lo hi w w') (hd:hi≤x∨y≤lo):OwBm x y w' v m:=by
 obtain ⟨vl,vb,vr,vt,e,h1,h2,h3⟩:=h
 exact ⟨vl,vb,vr,vt,e,h1.step s hd,h2.step s hd,h3.step s hd⟩
theorem OwBm.rd {x y:Nat} {w:World} {v:Value} {m:Bm} (h:OwBm x y w v m):RdBm y w v m:=by
 obtain ⟨vl,vb,vr,vt,e,h1,h2,h3⟩:=h
 exact ⟨vl,vb,vr,vt,e,h1.rd,h2.rd,h3.rd⟩
theorem OwBm.mono {x y x' y':Nat} {w:World} {v:Value} {m:Bm} (h:OwBm x y w v m) (h1:x'≤x) (h2:y≤y'):OwBm x' y' w v m:=by
 obtain ⟨vl,vb,vr,vt,e,⟨vl',e1,i1⟩,i2,⟨vt',e3,i3⟩⟩:=h
 exact ⟨vl,vb,vr,vt,e,⟨vl',e1,InRow.mono i1 h1 h2⟩,i2.mono h1 h2,⟨vt',e3,InRow.mono i3 h1 h2⟩⟩
theorem QeS {kp:Int} {lb:List Bk} {lr:List (List (List Int))} {np nr a b:Nat} {w:World} {v:Value} (h1:np=lb.length) (h2:nr=lr.length) (h:RcPm a b w v ⟨kp,lb,lr⟩):∃(o:Option Addr) (c:Nat) (oR:Option Addr) (cR:Nat),v=plv kp (.slice o np c) (.slice oR nr cR):=by
 obtain ⟨o,c,oR,cR,e⟩:=h.opn
 exact ⟨o,c,oR,cR,by rw [e,h1,h2]⟩
theorem QcN {x:World} {B:Nat} {u0 u1 u2 u3 u4 u5 u6:Value} (h0:x.cell? ⟨B,0,none⟩=some u0) (h1:x.cell? ⟨B,1,none⟩=some u1) (h2:x.cell? ⟨B,2,none⟩=some u2) (h3:x.cell? ⟨B,3,none⟩=some u3) (h4:x.cell? ⟨B,4,none⟩=some u4) (h5:x.cell? ⟨B,5,none⟩=some u5) (h6:x.cell? ⟨B,6,none⟩=some u6) (x0 x1 x2 x3 x4 x5 x6:Value):(Q1Q x (B+1) x0 x1 x2 x3 x4 x5 x6).cell? ⟨B,0,none⟩=some u0∧(Q1Q x (B+1) x0 x1 x2 x3 x4 x5 x6).cell? ⟨B,1,none⟩=some u1∧(Q1Q x (B+1) x0 x1 x2 x3 x4 x5 x6).cell? ⟨B,2,none⟩=some u2∧(Q1Q x (B+1) x0 x1 x2 x3 x4 x5 x6).cell? ⟨B,3,none⟩=some u3∧(Q1Q x (B+1) x0 x1 x2 x3 x4 x5 x6).cell? ⟨B,4,none⟩=some u4∧(Q1Q x (B+1) x0 x1 x2 x3 x4 x5 x6).cell? ⟨B,5,none⟩=some u5∧(Q1Q x (B+1) x0 x1 x2 x3 x4 x5 x6).cell? ⟨B,6,none⟩=some u6:=
 have s:=Q1a x (B+1) x0 x1 x2 x3 x4 x5 x6
 ⟨s.cellP h0 (.inl (Nat.lt_succ_self _)),s.cellP h1 (.inl (Nat.lt_succ_self _)),s.cellP h2 (.inl (Nat.lt_succ_self _)),s.cellP h3 (.inl (Nat.lt_succ_self _)),s.cellP h4 (.inl (Nat.lt_succ_self _)),s.cellP h5 (.inl (Nat.lt_succ_self _)),s.cellP h6 (.inl (Nat.lt_succ_self _))⟩
theorem QfU (kj:Int) (o:Option Addr) (nj c:Nat) (sj kp:Int) (ob:Option Addr) (np cb:Nat) (oR:Option Addr) (nr cR:Nat) (bt ft nt ct:Nat) (lj:List Cd) (lb:List Bk) (lr:List (List (List Int))) (lt:List Sl) (w:World)
  (hnj:nj=lj.length) (hnp:np=lb.length) (hnr:nr=lr.length) (hnt:nt=lt.length) (h1:RdC w.heap.size w o lj) (h1c:o=none→c=0) (h2:RdK w.heap.size w ob lb) (h2c:ob=none→cb=0) (h3:RcR 0 w.heap.size w (.slice oR nr cR) lr) (h4:bt < w.heap.size) (h5:∀i,i < lt.length→∀j,j < Q0h.k→w.cell? ⟨bt,ft+i * Q0h.k+j,none⟩=(Q0h.cs (lt.getD i Q0h.d))[j]?) (hf:fitBm ⟨⟨kj,lj,sj⟩,⟨kp,lb,lr⟩,lt⟩):
  Calls Tryz.prog 131 #[Q1d kj (.slice o nj c) sj kp (.slice ob np cb) (.slice oR nr cR) (.slice (some ⟨bt,ft,none⟩) nt ct)] w fun e w'=> ∃v,e=.returned v∧OwBm w.heap.size w'.heap.size w' v ⟨⟨kj,lj,sj⟩,⟨kp,lb,lr⟩,lt⟩∧Below w.heap.size w w':=by
 obtain ⟨f1,⟨f2,f3,f4,f5,f6⟩,f7⟩:=hf
 dsimp only at f1 f2 f3 f4 f5 f6 f7
 have HJ:=Q02 (fun W (hb:Below w.heap.size w W)=> Qc2 kj sj o c lj nj hnj W ((h1.kept hb (Kaq _)).le hb.size) h1c (by omega))
 have HP:=Q02 (fun W (hb:Below w.heap.size w W)=> Qbx kp ob cb lb oR cR lr nr hnr W ((h2.kept hb (Kaq _)).le hb.size) h2c f2 (RcR.mon.go (RcR.stp.go h3 (Stp.of (lo:=0) (hi:=0) hb) (.inl (Kcq _))) (Kaq _) hb.size) (by omega) f5 f6)
 have HT:=Q02 (fun W (hb:Below w.heap.size w W)=> Q4W bt ft ct lt W (Kbq h4 hb.size) (fun i hi j hj=> (hb.cell (p:=⟨bt,ft+i * Q0h.k+j,none⟩) h4).trans (h5 i hi j hj)) f7)
 rw [←hnp] at HP
 rw [←hnt] at HT
 have HNJ:=Q02 hnj;have HNP:=Q02 hnp;have HNR:=Q02 hnr;have HNT:=Q02 hnt;clear h1 h2 h3 h5 f5 f6 f4 f2 f3 f7 f1 hnj hnp hnr hnt;obtain ⟨W0,hW0⟩:∃W,((w.alloc (.cells #[.int .i64 kj,.slice o nj c,.int .i64 sj,.int .i64 kp,.slice ob np cb,.slice oR nr cR,.slice (some ⟨bt,ft,none⟩) nt ct] 34)).alloc (.cells #[.int .i64 0,.slice none 0 0,.int .i64 0,.int .i64 0,.slice none 0 0,.slice none 0 0,.slice none 0 0] 34))=W:=⟨_,rfl⟩
 have hb_W0:Below w.heap.size w W0:=by rw [←hW0];exact (((Below.refl _ _).alloc (Kaq _) _).alloc (by simp <;> omega) _)
 have HB:=Q02 hb_W0;clear hb_W0
 have zz:w.heap.size < W0.heap.size:=by rw [←hW0];simp <;> omega
 obtain ⟨z0,z1,z2,z3,z4,z5,z6⟩:=alc7v0v2 hW0
 have zr:w.heap.size+1 < W0.heap.size:=by rw [←hW0];simp
 obtain ⟨r0,r1,r2,r3,r4,r5,r6⟩:=alc7v1v2 hW0;obtain ⟨fr0,fr1,fr2,fr3,fr4,fr5,fr6⟩:=alf7v1v2 hW0
 have HR0:=Q02 (show W0.heap[w.heap.size+1]? =some (.cells #[.int .i64 0,.slice none 0 0,.int .i64 0,.int .i64 0,.slice none 0 0,.slice none 0 0,.slice none 0 0] 34 (0,0)) by rw [←hW0];exact Q1N w _ _ _)
 have hbw:=HB.out.size
 go_enter Tryz.func131,Tryz.ntmps131
 go_wp2
 go_region_held3 (fun w'=> w'.cell? ⟨w.heap.size,0,none⟩=some (.int .i64 kj)∧w'.cell? ⟨w.heap.size,1,none⟩=some (.slice o nj c)∧w'.cell? ⟨w.heap.size,2,none⟩=some (.int .i64 sj)∧w'.cell? ⟨w.heap.size,3,none⟩=some (.int .i64 kp)∧w'.cell? ⟨w.heap.size,4,none⟩=some (.slice ob np cb)∧w'.cell? ⟨w.heap.size,5,none⟩=some (.slice oR nr cR)∧w'.cell? ⟨w.heap.size,6,none⟩=some (.slice (some ⟨bt,ft,none⟩) nt ct)) (first|with_reducible exact ⟨z0,z1,z2,z3,z4,z5,z6⟩|with_reducible exact ⟨ka0,ka1,ka2,ka3,ka4,ka5,ka6⟩|with_reducible exact ⟨kb0,kb1,kb2,kb3,kb4,kb5,kb6⟩|with_reducible exact ⟨kc0,kc1,kc2,kc3,kc4,kc5,kc6⟩|with_reducible exact hks _ _ _ _ _ _ _|go_keep) (first|(go_at_call 169;(with_reducible refine (HJ.out W0.drew (Below.drew HB.out)).mono ?_);rintro e x0 ⟨o7,c7,rfl,ow7,hq0⟩;have hx0:Below W0.heap.size W0 x0:=(Below.drew (Below.refl _ _)).trans hq0;have ka0:=bC hx0 z0 zz;have ka1:=bC hx0 z1 zz;have ka2:=bC hx0 z2 zz;have ka3:=bC hx0 z3 zz;have ka4:=bC hx0 z4 zz;have ka5:=bC hx0 z5 zz;have ka6:=bC hx0 z6 zz;have HBa:=HB.out.trans (hx0.mono hbw);clear hq0)|(go_at_call 165;(with_reducible refine (HP.out x0 HBa).mono ?_);rintro e x1 ⟨v8,rfl,in8,hq1⟩;have hx1:Below W0.heap.size W0 x1:=hx0.trans (hq1.mono hx0.size);have ow7':=Q03 ow7 hq1;obtain ⟨o8,c8,oR8,cR8,e8⟩:=QeS HNP.out HNR.out in8;subst e8;have kb0:=bC hx1 z0 zz;have kb1:=bC hx1 z1 zz;have kb2:=bC hx1 z2 zz;have kb3:=bC hx1 z3 zz;have kb4:=bC hx1 z4 zz;have kb5:=bC hx1 z5 zz;have kb6:=bC hx1 z6 zz;have HBb:=HB.out.trans (hx1.mono hbw))|(go_at_call 170;(with_reducible refine (HT.out x1 HBb).mono ?_);rintro e x2 ⟨o9,c9,rfl,ow9,hq2⟩;have hx2:Below W0.heap.size W0 x2:=hx1.trans (hq2.mono hx1.size);have ow7'':=Q03 ow7' hq2;have in8':=in8.kept hq2 (Kaq _);have kc0:=bC hx2 z0 zz;have kc1:=bC hx2 z1 zz;have kc2:=bC hx2 z2 zz;have kc3:=bC hx2 z3 zz;have kc4:=bC hx2 z4 zz;have kc5:=bC hx2 z5 zz;have kc6:=bC hx2 z6 zz;have rr0:=bC hx2 r0 zr;have rf0:=bF hx2 fr0 zr;have rr1:=bC hx2 r1 zr;have rf1:=bF hx2 fr1 zr;have rr2:=bC hx2 r2 zr;have rf2:=bF hx2 fr2 zr;have rr3:=bC hx2 r3 zr;have rf3:=bF hx2 fr3 zr;have rr4:=bC hx2 r4 zr;have rf4:=bF hx2 fr4 zr;have rr5:=bC hx2 r5 zr;have rf5:=bF hx2 fr5 zr;have rr6:=bC hx2 r6 zr;have rf6:=bF hx2 fr6 zr;have hks:=QcN (x:=x2) kc0 kc1 kc2 kc3 kc4 kc5 kc6;have HBc:=HB.out.trans (hx2.mono hbw)))
 have hq0:=hx0.size;have hq1':=hq1.size;have hq2':=hq2.size
 have HFI:Hid (OwBm w.heap.size (Q1Q x2 (w.heap.size+1) (.int .i64 kj) (.slice o7 nj c7) (.int .i64 sj) (.int .i64 kp) (.slice o8 np c8) (.slice oR8 nr cR8) (.slice o9 nt c9)).heap.size (Q1Q x2 (w.heap.size+1) (.int .i64 kj) (.slice o7 nj c7) (.int .i64 sj) (.int .i64 kp) (.slice o8 np c8) (.slice oR8 nr cR8) (.slice o9 nt c9)) (Q1d kj (.slice o7 nj c7) sj kp (.slice o8 np c8) (.slice oR8 nr cR8) (.slice o9 nt c9)) ⟨⟨kj,lj,sj⟩,⟨kp,lb,lr⟩,lt⟩∧Below w.heap.size w (Q1Q x2 (w.heap.size+1) (.int .i64 kj) (.slice o7 nj c7) (.int .i64 sj) (.int .i64 kp) (.slice o8 np c8) (.slice oR8 nr cR8) (.slice o9 nt c9))):=by
  have s9:=Q1a x2 (w.heap.size+1) (.int .i64 kj) (.slice o7 nj c7) (.int .i64 sj) (.int .i64 kp) (.slice o8 np c8) (.slice oR8 nr cR8) (.slice o9 nt c9)
  have j9:=InRow.step (InRow.of ow7'') s9 (.inl (show w.heap.size+1+1≤W0.heap.size by omega))
  have p9:=(in8'.step s9 (.inl (show w.heap.size+1+1≤x0.heap.size by omega)))
  have t9:=InRow.step (InRow.of ow9) s9 (.inl (show w.heap.size+1+1≤x1.heap.size by omega))
  refine ⟨⟨_,_,_,_,rfl,⟨_,rfl,InRow.mono j9 (show w.heap.size≤W0.heap.size by omega) (by rw [Q0F];exact Kaq _)⟩,p9.mono (by omega) (by rw [Q0F];exact hq2'),⟨_,rfl,InRow.mono t9 (by omega) (by rw [Q0F];exact Kaq _)⟩⟩,Q0z HBc (Nat.le_succ _) _ _ _ _ _ _ _⟩
 clear ow7 ow7' ow7'' in8 in8' ow9 hks hx0 hx1 hx2 hq1 hq2 HBa HBb HBc ka0 kb0 ka1 kb1 ka2 kb2 ka3 kb3 ka4 kb4 ka5 kb5 ka6 kb6
 go_wp2
 refine bodyPost_ret (v:=Q1d kj (.slice o7 nj c7) sj kp (.slice o8 np c8) (.slice oR8 nr cR8) (.slice o9 nt c9)) (by simp [results,Tryz.results131,go_sem,rr0,rr1,rr2,rr3,rr4,rr5,rr6]) rfl ⟨_,rfl,HFI.out.1,HFI.out.2⟩
theorem InBm.mono {lo hi lo' hi':Nat} {w:World} {v:Value} {m:Bm} (h:InBm lo hi w v m) (h1:lo'≤lo) (h2:hi≤hi'):InBm lo' hi' w v m:=by
 obtain ⟨vl,vb,vr,vt,j0,j1,p0,p1,t0,t1,e,k,i1,i2,i3⟩:=h
 exact ⟨vl,vb,vr,vt,j0,j1,p0,p1,t0,t1,e,by omega,i1,i2,i3⟩
abbrev Qgn (W:World) (P j:Nat) (a b c:Value):World:=((W.setCell ⟨P,j,none⟩ a).setCell ⟨P,j+1,none⟩ b).setCell ⟨P,j+2,none⟩ c
theorem Q8I (W:World) (P j:Nat) (a b c:Value):Stp P (P+1) W (Qgn W P j a b c):=((Q0t W P j a).trans (Q0t _ P (j+1) b)).trans (Q0t _ P (j+2) c)
def Qie (key:Int) (m:Nat) (w:World) (e:Ending) (w':World):Prop:=∃g tb,e=.returned (Q1d key (.slice none 0 0) 0 key (.slice none 0 0) (.slice (some ⟨g,0,none⟩) 1 1) (.slice (some ⟨tb,0,none⟩) m m))∧RcR w.heap.size w'.heap.size w' (.slice (some ⟨g,0,none⟩) 1 1) (Q13 key [[]])∧Qfn w' w.heap.size (.slice (some ⟨tb,0,none⟩) m m) (List.replicate m sl0)∧Below w.heap.size w w'
theorem QbL {W:World} {R:Nat} {z0 z1 z2 z3 z4 z5 z6:Value} {T:TypeId} (h:W.heap[R]? =some (.cells #[z0,z1,z2,z3,z4,z5,z6] T (0,0))) (x0 x1 x2 x3 x4 x5 x6:Value) (O:Obj):((Q1Q W R x0 x1 x2 x3 x4 x5 x6).alloc O).heap[R]? =some (.cells #[x0,x1,x2,x3,x4,x5,x6] T (0,0)):=by
 have h1:(W.setCell ⟨R,0,none⟩ x0).heap[R]? =some (.cells #[x0,z1,z2,z3,z4,z5,z6] T (0,0)):=Q06 h 0 x0;have h2:((W.setCell ⟨R,0,none⟩ x0).setCell ⟨R,1,none⟩ x1).heap[R]? =some (.cells #[x0,x1,z2,z3,z4,z5,z6] T (0,0)):=Q06 h1 1 x1;have h3:(((W.setCell ⟨R,0,none⟩ x0).setCell ⟨R,1,none⟩ x1).setCell ⟨R,2,none⟩ x2).heap[R]? =some (.cells #[x0,x1,x2,z3,z4,z5,z6] T (0,0)):=Q06 h2 2 x2;have h4:((((W.setCell ⟨R,0,none⟩ x0).setCell ⟨R,1,none⟩ x1).setCell ⟨R,2,none⟩ x2).setCell ⟨R,3,none⟩ x3).heap[R]? =some (.cells #[x0,x1,x2,x3,z4,z5,z6] T (0,0)):=Q06 h3 3 x3
 have h5:(((((W.setCell ⟨R,0,none⟩ x0).setCell ⟨R,1,none⟩ x1).setCell ⟨R,2,none⟩ x2).setCell ⟨R,3,none⟩ x3).setCell ⟨R,4,none⟩ x4).heap[R]? =some (.cells #[x0,x1,x2,x3,x4,z5,z6] T (0,0)):=Q06 h4 4 x4;have h6:((((((W.setCell ⟨R,0,none⟩ x0).setCell ⟨R,1,none⟩ x1).setCell ⟨R,2,none⟩ x2).setCell ⟨R,3,none⟩ x3).setCell ⟨R,4,none⟩ x4).setCell ⟨R,5,none⟩ x5).heap[R]? =some (.cells #[x0,x1,x2,x3,x4,x5,z6] T (0,0)):=Q06 h5 5 x5
 have h7:(((((((W.setCell ⟨R,0,none⟩ x0).setCell ⟨R,1,none⟩ x1).setCell ⟨R,2,none⟩ x2).setCell ⟨R,3,none⟩ x3).setCell ⟨R,4,none⟩ x4).setCell ⟨R,5,none⟩ x5).setCell ⟨R,6,none⟩ x6).heap[R]? =some (.cells #[x0,x1,x2,x3,x4,x5,x6] T (0,0)):=Q06 h6 6 x6
 exact (((Below.refl _ _).alloc (Kaq _) O).block R (Array.getElem?_eq_some_iff.1 h7).1).trans h7
theorem Q0T {w:World} {b j:Nat} {u:Value} (h:w.cell? ⟨b,j,none⟩=some u) (hz:b < w.heap.size) (O:Obj):(w.alloc O).cell? ⟨b,j,none⟩=some u:=bC ((Below.refl _ _).alloc (Kaq _) O) h hz
theorem Q0G {w:World} {b j:Nat} (h:w.frozen? ⟨b,j,none⟩=false) (hz:b < w.heap.size) (O:Obj):(w.alloc O).frozen? ⟨b,j,none⟩=false:=bF ((Below.refl _ _).alloc (Kaq _) O) h hz
theorem Qb3 {key:Int} {w:World} {base g:Nat} {l:List Bk} (h:RingO w base (.slice (some ⟨g,0,none⟩) 1 1) (fun b=> Q0Z key b l) []):RcR base w.heap.size w (.slice (some ⟨g,0,none⟩) 1 1) (Q13 key [l]):=by
 obtain ⟨o3,c3,hs3,h1,h2,h3⟩:=h
 have h4:GTabs w base [(o3,8,c3)] (Q13 key [l]):=by
  have:=(GTabs.nil w base).snoc (ll:=Q2Q key l) (by rw [Q1B];exact h2) (Qae h3)
  rw [Q1B] at this
  exact this
 exact h4.rc h1
theorem QdW (key:Int) (m:Nat) (w:World) (hk:Q1C key=true) (hm:m≤16):
  Calls Tryz.prog 127 #[.int .i64 key,.int .i64 (m:Int)] w fun e w'=> Qie key m w e w':=by
 obtain ⟨cs,hmk,hown⟩:=QhZ m hm;have HO:=Q02 hown;clear hown
 have HN:=Q02 (fun W=> Q9A key W hk)
 obtain ⟨W0,hW0⟩:∃W,(w.alloc (.cells #[.int .i64 0,.slice none 0 0,.int .i64 0,.int .i64 0,.slice none 0 0,.slice none 0 0,.slice none 0 0] 34))=W:=⟨_,rfl⟩
 have hb_W0:Below w.heap.size w W0:=by rw [←hW0];exact ((Below.refl _ _).alloc (Kaq _) _)
 have HB:=Q02 hb_W0;clear hb_W0
 have zr:w.heap.size < W0.heap.size:=by rw [←hW0];simp
 obtain ⟨r0,r1,r2,r3,r4,r5,r6⟩:=alc7v0v1 hW0;obtain ⟨fr0,fr1,fr2,fr3,fr4,fr5,fr6⟩:=alf7v0v1 hW0;have hbw:=HB.out.size
 have HX0:Hid (W0.heap[w.heap.size]? =some (.cells #[.int .i64 0,.slice none 0 0,.int .i64 0,.int .i64 0,.slice none 0 0,.slice none 0 0,.slice none 0 0] 34 (0,0))):=by rw [←hW0];exact World.alloc_heap_new w _
 have zr0:=zr;clear hk
 go_enter Tryz.func127,Tryz.ntmps127
 go_wp2
 go_region_with (first|(go_at_call 93;(with_reducible refine (HN.out W0.drew).mono ?_);rintro e x0 ⟨g,rfl,hring,hq⟩;have hx:Below W0.heap.size W0 x0:=(Below.drew (Below.refl _ _)).trans hq;have zq:w.heap.size < x0.heap.size:=Kbq zr hx.size;have q0:=bC hx r0 zr;have qf0:=bF hx fr0 zr;have a0:=Q0T q0 zq;have af0:=Q0G qf0 zq;have q1:=bC hx r1 zr;have qf1:=bF hx fr1 zr;have a1:=Q0T q1 zq;have af1:=Q0G qf1 zq;have q2:=bC hx r2 zr;have qf2:=bF hx fr2 zr;have a2:=Q0T q2 zq;have af2:=Q0G qf2 zq;have q3:=bC hx r3 zr;have qf3:=bF hx fr3 zr;have a3:=Q0T q3 zq;have af3:=Q0G qf3 zq;have q4:=bC hx r4 zr;have qf4:=bF hx fr4 zr;have a4:=Q0T q4 zq;have af4:=Q0G qf4 zq;have q5:=bC hx r5 zr;have qf5:=bF hx fr5 zr;have a5:=Q0T q5 zq;have af5:=Q0G qf5 zq;have q6:=bC hx r6 zr;have qf6:=bF hx fr6 zr;have a6:=Q0T q6 zq;have af6:=Q0G qf6 zq;have way:True:=trivial;clear hq)|(go_at_call 93;(with_reducible refine (HN.out (W0.alloc (.cells cs 101)).drew).mono ?_);rintro e x0 ⟨g,rfl,hring,hq⟩;have hx:Below W0.heap.size W0 x0:=(Below.drew ((Below.refl _ _).alloc (Kaq _) _)).trans (hq.mono (by simp));have zq:w.heap.size < x0.heap.size:=Kbq zr hx.size;have q0:=bC hx r0 zr;have qf0:=bF hx fr0 zr;have a0:=Q0T q0 zq;have af0:=Q0G qf0 zq;have q1:=bC hx r1 zr;have qf1:=bF hx fr1 zr;have a1:=Q0T q1 zq;have af1:=Q0G qf1 zq;have q2:=bC hx r2 zr;have qf2:=bF hx fr2 zr;have a2:=Q0T q2 zq;have af2:=Q0G qf2 zq;have q3:=bC hx r3 zr;have qf3:=bF hx fr3 zr;have a3:=Q0T q3 zq;have af3:=Q0G qf3 zq;have q4:=bC hx r4 zr;have qf4:=bF hx fr4 zr;have a4:=Q0T q4 zq;have af4:=Q0G qf4 zq;have q5:=bC hx r5 zr;have qf5:=bF hx fr5 zr;have a5:=Q0T q5 zq;have af5:=Q0G qf5 zq;have q6:=bC hx r6 zr;have qf6:=bF hx fr6 zr;have a6:=Q0T q6 zq;have af6:=Q0G qf6 zq;have ho:=Q03 (HO.out W0) ((Below.drew (Below.refl _ _)).trans hq)))
 ·have HFI:Hid (RcR w.heap.size (((Q1Q x0 w.heap.size (.int .i64 key) (.slice none 0 0) (.int .i64 0) (.int .i64 key) (.slice none 0 0) (.slice (some ⟨g,0,none⟩) 1 1) (.slice (some ⟨x0.heap.size,0,none⟩) m m)).alloc (.cells cs 101))).heap.size ((Q1Q x0 w.heap.size (.int .i64 key) (.slice none 0 0) (.int .i64 0) (.int .i64 key) (.slice none 0 0) (.slice (some ⟨g,0,none⟩) 1 1) (.slice (some ⟨x0.heap.size,0,none⟩) m m)).alloc (.cells cs 101)) (.slice (some ⟨g,0,none⟩) 1 1) (Q13 key [[]])∧Qfn ((Q1Q x0 w.heap.size (.int .i64 key) (.slice none 0 0) (.int .i64 0) (.int .i64 key) (.slice none 0 0) (.slice (some ⟨g,0,none⟩) 1 1) (.slice (some ⟨x0.heap.size,0,none⟩) m m)).alloc (.cells cs 101)) w.heap.size (.slice (some ⟨x0.heap.size,0,none⟩) m m) (List.replicate m sl0)∧Below w.heap.size w ((Q1Q x0 w.heap.size (.int .i64 key) (.slice none 0 0) (.int .i64 0) (.int .i64 key) (.slice none 0 0) (.slice (some ⟨g,0,none⟩) 1 1) (.slice (some ⟨x0.heap.size,0,none⟩) m m)).alloc (.cells cs 101))):=by
   have s9:=Q1a x0 w.heap.size (.int .i64 key) (.slice none 0 0) (.int .i64 0) (.int .i64 key) (.slice none 0 0) (.slice (some ⟨g,0,none⟩) 1 1) (.slice (some ⟨x0.heap.size,0,none⟩) m m);have hx0:=hx.size
   have ro:=RcR.stp.go (RcR.mon.go (Qb3 hring) (show w.heap.size+1≤_ by (try simp) <;> omega) (Kaq _)) s9 (.inl (Kaq _))
   have hb9:=Q0z (HB.out.trans (hx.mono hbw)) (Kaq _) (.int .i64 key) (.slice none 0 0) (.int .i64 0) (.int .i64 key) (.slice none 0 0) (.slice (some ⟨g,0,none⟩) 1 1) (.slice (some ⟨x0.heap.size,0,none⟩) m m)
   have hal:Below (Q1Q x0 w.heap.size (.int .i64 key) (.slice none 0 0) (.int .i64 0) (.int .i64 key) (.slice none 0 0) (.slice (some ⟨g,0,none⟩) 1 1) (.slice (some ⟨x0.heap.size,0,none⟩) m m)).heap.size (Q1Q x0 w.heap.size (.int .i64 key) (.slice none 0 0) (.int .i64 0) (.int .i64 key) (.slice none 0 0) (.slice (some ⟨g,0,none⟩) 1 1) (.slice (some ⟨x0.heap.size,0,none⟩) m m)) ((Q1Q x0 w.heap.size (.int .i64 key) (.slice none 0 0) (.int .i64 0) (.int .i64 key) (.slice none 0 0) (.slice (some ⟨g,0,none⟩) 1 1) (.slice (some ⟨x0.heap.size,0,none⟩) m m)).alloc (.cells cs 101)):=(Below.refl _ _).alloc (Kaq _) _
   have h:=HO.out (Q1Q x0 w.heap.size (.int .i64 key) (.slice none 0 0) (.int .i64 0) (.int .i64 key) (.slice none 0 0) (.slice (some ⟨g,0,none⟩) 1 1) (.slice (some ⟨x0.heap.size,0,none⟩) m m))
   rw [Q0F] at h
   exact ⟨RcR.mon.go (RcR.stp.go ro (Stp.of (lo:=0) (hi:=0) hal) (.inl (Kcq _))) (Nat.le_succ _) (by rw [World.size_alloc,Q0F];omega),Q04 h (by omega),hb9.trans (hal.mono hb9.size)⟩
  have hxr:=QbL ((hx.block _ zr0).trans HX0.out) (.int .i64 key) (.slice none 0 0) (.int .i64 0) (.int .i64 key) (.slice none 0 0) (.slice (some ⟨g,0,none⟩) 1 1) (.slice (some ⟨x0.heap.size,0,none⟩) m m) (.cells cs 101);have y0:=Q00 hxr 0 _ rfl;have y1:=Q00 hxr 1 _ rfl;have y2:=Q00 hxr 2 _ rfl;have y3:=Q00 hxr 3 _ rfl;have y4:=Q00 hxr 4 _ rfl;have y5:=Q00 hxr 5 _ rfl;have y6:=Q00 hxr 6 _ rfl;clear hxr;clear hmk hring hx
  go_wp2
  refine bodyPost_ret (v:=Q1d key (.slice none 0 0) 0 key (.slice none 0 0) (.slice (some ⟨g,0,none⟩) 1 1) (.slice (some ⟨x0.heap.size,0,none⟩) m m)) (by simp [results,Tryz.results127,go_sem,q0,q1,q2,q3,q4,q5,q6,y0,y1,y2,y3,y4,y5,y6]) rfl ⟨g,x0.heap.size,rfl,HFI.out.1,HFI.out.2.1,HFI.out.2.2⟩
 ·have HFI:Hid (RcR w.heap.size ((Q1Q x0 w.heap.size (.int .i64 key) (.slice none 0 0) (.int .i64 0) (.int .i64 key) (.slice none 0 0) (.slice (some ⟨g,0,none⟩) 1 1) (.slice (some ⟨W0.heap.size,0,none⟩) m m))).heap.size (Q1Q x0 w.heap.size (.int .i64 key) (.slice none 0 0) (.int .i64 0) (.int .i64 key) (.slice none 0 0) (.slice (some ⟨g,0,none⟩) 1 1) (.slice (some ⟨W0.heap.size,0,none⟩) m m)) (.slice (some ⟨g,0,none⟩) 1 1) (Q13 key [[]])∧Qfn (Q1Q x0 w.heap.size (.int .i64 key) (.slice none 0 0) (.int .i64 0) (.int .i64 key) (.slice none 0 0) (.slice (some ⟨g,0,none⟩) 1 1) (.slice (some ⟨W0.heap.size,0,none⟩) m m)) w.heap.size (.slice (some ⟨W0.heap.size,0,none⟩) m m) (List.replicate m sl0)∧Below w.heap.size w (Q1Q x0 w.heap.size (.int .i64 key) (.slice none 0 0) (.int .i64 0) (.int .i64 key) (.slice none 0 0) (.slice (some ⟨g,0,none⟩) 1 1) (.slice (some ⟨W0.heap.size,0,none⟩) m m))):=by
   have s9:=Q1a x0 w.heap.size (.int .i64 key) (.slice none 0 0) (.int .i64 0) (.int .i64 key) (.slice none 0 0) (.slice (some ⟨g,0,none⟩) 1 1) (.slice (some ⟨W0.heap.size,0,none⟩) m m);have hx0:=hx.size
   have ro:=RcR.stp.go (RcR.mon.go (Qb3 hring) (show w.heap.size+1≤_ by (try simp) <;> omega) (Kaq _)) s9 (.inl (Kaq _))
   have hb9:=Q0z (HB.out.trans (hx.mono hbw)) (Kaq _) (.int .i64 key) (.slice none 0 0) (.int .i64 0) (.int .i64 key) (.slice none 0 0) (.slice (some ⟨g,0,none⟩) 1 1) (.slice (some ⟨W0.heap.size,0,none⟩) m m)
   exact ⟨RcR.mon.go ro (Nat.le_succ _) (by rw [Q0F];exact Kaq _),Q04 (InRow.step (InRow.of ho) s9 (.inl (by omega))).1 (by omega),hb9⟩
  clear hmk hring hx ho
  go_wp2
  refine bodyPost_ret (v:=Q1d key (.slice none 0 0) 0 key (.slice none 0 0) (.slice (some ⟨g,0,none⟩) 1 1) (.slice (some ⟨W0.heap.size,0,none⟩) m m)) (by simp [results,Tryz.results127,go_sem,q0,q1,q2,q3,q4,q5,q6]) rfl ⟨g,W0.heap.size,rfl,HFI.out.1,HFI.out.2.1,HFI.out.2.2⟩
end Go.Proofs.YtpneolgdghbinaaGreat
