/- Several texts in one: SSend, CutC. -/
import Derived.Test.YtpneolgdghbinaaGreatQSends48
namespace Go.Proofs.YtpneolgdghbinaaGreat
open Go.ChangeShapes Go.WideShapes Go.ChangeAt Go.RowKit Go.Joins
set_option linter.unusedVariables false
set_option linter.unusedSimpArgs false
set_option maxRecDepth 100000
set_option maxHeartbeats 40000000
def QgG (n:Int):Bool:=decide (0≤n) && decide (n≤100000)
def cm0:Cm:=⟨0,0,0,0,[],[],0,0⟩
def Q5t (m:Bm) (now a b f s:Int) (n:Nat):Bool:=(Q2i m && (QgG now && Q0q a b f s n)) && decide (0 < (Q1S m.p.key m.p.ring m.t a b f).length)
def Q2R (m:Bm) (now a b f s:Int) (l:List Int):Cm:=if Q5t m now a b f s l.length=true then ⟨a,b,f,s,l,Q1S m.p.key m.p.ring m.t a b f,0,now⟩ else cm0
abbrev Qbe (W:World) (R:Nat) (x0 x1 x2 x3 x4 x5 x6 x7:Value):World:=((((((((W.setCell ⟨R,0,none⟩ x0).setCell ⟨R,1,none⟩ x1).setCell ⟨R,2,none⟩ x2).setCell ⟨R,3,none⟩ x3).setCell ⟨R,4,none⟩ x4).setCell ⟨R,5,none⟩ x5).setCell ⟨R,6,none⟩ x6).setCell ⟨R,7,none⟩ x7)
theorem Q6o (W:World) (R:Nat) (x0 x1 x2 x3 x4 x5 x6 x7:Value):Stp R (R+1) W (Qbe W R x0 x1 x2 x3 x4 x5 x6 x7):=(((((((Q0t W R 0 x0).trans (Q0t _ R 1 x1)).trans (Q0t _ R 2 x2)).trans (Q0t _ R 3 x3)).trans (Q0t _ R 4 x4)).trans (Q0t _ R 5 x5)).trans (Q0t _ R 6 x6)).trans (Q0t _ R 7 x7)
theorem Q5d (W:World) (R:Nat) (x0 x1 x2 x3 x4 x5 x6 x7:Value):(Qbe W R x0 x1 x2 x3 x4 x5 x6 x7).heap.size=W.heap.size:=by simp [World.setCell]
theorem Q26 {C:Nat} {w W:World} {R:Nat} (h:Below C w W) (hB:C≤R) (x0 x1 x2 x3 x4 x5 x6 x7:Value):Below C w (Qbe W R x0 x1 x2 x3 x4 x5 x6 x7):=((((((((h.setCell (p:=⟨R,0,none⟩) hB _).setCell (p:=⟨R,1,none⟩) hB _).setCell (p:=⟨R,2,none⟩) hB _).setCell (p:=⟨R,3,none⟩) hB _).setCell (p:=⟨R,4,none⟩) hB _).setCell (p:=⟨R,5,none⟩) hB _).setCell (p:=⟨R,6,none⟩) hB _).setCell (p:=⟨R,7,none⟩) hB _)
theorem Qbb (lo hi:Nat) (w:World):InCm lo hi w (crr 0 0 0 0 (.slice none 0 0) (.slice none 0 0) 0 0) cm0:=⟨_,_,rfl,⟨World.ownsRow_nil _ _ _ _,fun b e=> by cases e⟩,⟨World.ownsRow_nil _ _ _ _,fun b e=> by cases e⟩⟩
theorem Qdo {m:Bm} {a b f s:Int} {n:Nat} (h:Q2i m=true) (hp:Q0q a b f s n=true):(Q1S m.p.key m.p.ring m.t a b f).length≤100:=by
 have hp':=Q2O h;have hr:=Ring.of hp';obtain ⟨qn,hq,hq8⟩:=Q4D (Q1q hp').1 (Q2D hp)
 unfold Q1S
 rw [hq]
 have h6:=hr.six hq8;have h2:=hr.two 0 hr.pos qn hq8
 rw [show ((qn:Int)).toNat=qn from rfl]
 have h7:=Q2u (Q1o m.t a b).2 (Q8m m.t a b).v (Q2h m.p.ring qn) (Q2h m.p.ring qn).length
 unfold Q65
 split
 ·have h8:=Q5T (Q1n (Q1o m.t a b).2 (Q8m m.t a b).v (Q2h m.p.ring qn) (Q2h m.p.ring qn).length) ((m.p.ring.getD 0 []).getD qn []) ((m.p.ring.getD 0 []).getD qn []).length
  omega
 ·omega
theorem Qd6 (g nt xc:Nat) (kq:Int) (yo:Option Addr) (yn yc:Nat) (sq kp:Int) (uo:Option Addr) (un uc:Nat) (vo:Option Addr) (vn vc:Nat) (now a b f s:Int) (po:Option Addr) (pn pc:Nat) (l:List Int) (rt:List (Int × Int)) (db:Bool) (mr:Cm) (w:World) (hdb:decide (0 < rt.length)=db) (hmr:mr=if db=true then ⟨a,b,f,s,l,rt,0,now⟩ else cm0) (hpn:pn=l.length) (hR:Rd w po l) (hnil:po=none→pc=0) (hll:l.length≤1048576) (hrl:rt.length≤100)
  (hrt:∀W:World,Below w.heap.size w W→Calls Tryz.prog 39 #[QaU (.slice (some ⟨g,0,none⟩) nt xc) kq (.slice yo yn yc) sq kp (.slice uo un uc) (.slice vo vn vc),pkt a b f s (.slice po pn pc)] W fun e w'=> ∃v,e=.returned v∧ownL Q4P 50 w' W.heap.size v rt∧Below W.heap.size W w'):
  Calls Tryz.prog 57 #[QaU (.slice (some ⟨g,0,none⟩) nt xc) kq (.slice yo yn yc) sq kp (.slice uo un uc) (.slice vo vn vc),.int .i64 now,pkt a b f s (.slice po pn pc)] w fun e w'=> ∃(xo:Option Addr) (xn xk:Nat) (yo2:Option Addr) (yn2 yk:Nat) (k1 k2 k3 k4 k5:Int),e=.returned (.tuple #[crr k1 k2 k3 k4 (.slice xo xn xk) (.slice yo2 yn2 yk) 0 k5,.bool db])∧InCm w.heap.size w'.heap.size w' (crr k1 k2 k3 k4 (.slice xo xn xk) (.slice yo2 yn2 yk) 0 k5) mr∧Below w.heap.size w w':=by
 have HRT:=Q02 hrt
 have HCL:=Q02 (fun W (hb:Below w.heap.size w W)=> Q6M a b f s po pc l W (hR.kept hb) hnil hll)
 rw [←hpn] at HCL
 have HPN:=Q02 hpn;have HDB:=Q02 hdb;have HMR:=Q02 hmr;clear hrt hR hnil hpn hdb hmr;obtain ⟨W0,hW0⟩:∃W,(((w.alloc (.cells #[.slice (some ⟨g,0,none⟩) nt xc,.int .i64 kq,.slice yo yn yc,.int .i64 sq,.int .i64 kp,.slice uo un uc,.slice vo vn vc] 93)).alloc (.cells #[.int .i64 a,.int .i64 b,.int .i64 f,.int .i64 s,.slice po pn pc] 38)).alloc (.cells #[.int .i64 0,.int .i64 0,.int .i64 0,.int .i64 0,.slice none 0 0,.slice none 0 0,.int .i64 0,.int .i64 0] 58))=W:=⟨_,rfl⟩
 have hb_W0:Below w.heap.size w W0:=by rw [←hW0];exact ((((Below.refl _ _).alloc (Kaq _) _).alloc (by simp <;> omega) _).alloc (by simp <;> omega) _)
 have HB:=Q02 hb_W0;clear hb_W0
 have zx:w.heap.size < W0.heap.size:=by rw [←hW0];simp <;> omega
 obtain ⟨x0,x1,x2,x3,x4,x5,x6⟩:=alc7v0v3 hW0
 have zp:w.heap.size+1 < W0.heap.size:=by rw [←hW0];simp <;> omega
 obtain ⟨p0,p1,p2,p3,p4⟩:=alc5v1v3 hW0
 have zr:w.heap.size+1+1 < W0.heap.size:=by rw [←hW0];simp
 obtain ⟨r0,r1,r2,r3,r4,r5,r6,r7⟩:=alc8v2v3 hW0;obtain ⟨fr0,fr1,fr2,fr3,fr4,fr5,fr6,fr7⟩:=alf8v2v3 hW0;have hzr:w.heap.size+1+1 < W0.heap.size:=zr
 go_enter Tryz.func57,Tryz.ntmps57
 go_wp2_with fail
 refine (HRT.out W0 HB.out).mono ?_
 rintro e v1 ⟨rv,rfl,hown,hb⟩
 have HO:Hid (ownL Q4P 50 v1 W0.heap.size rv rt):=hown;have hs1:=hb.size;clear hown;replace x0:=bC hb x0 zx;replace x1:=bC hb x1 zx;replace x2:=bC hb x2 zx;replace x3:=bC hb x3 zx;replace x4:=bC hb x4 zx;replace x5:=bC hb x5 zx;replace x6:=bC hb x6 zx;replace zx:=Kbq zx hb.size;replace p0:=bC hb p0 zp;replace p1:=bC hb p1 zp;replace p2:=bC hb p2 zp;replace p3:=bC hb p3 zp;replace p4:=bC hb p4 zp;replace zp:=Kbq zp hb.size;replace r0:=bC hb r0 zr;replace r1:=bC hb r1 zr;replace r2:=bC hb r2 zr;replace r3:=bC hb r3 zr;replace r4:=bC hb r4 zr;replace r5:=bC hb r5 zr;replace r6:=bC hb r6 zr
 replace r7:=bC hb r7 zr;replace fr0:=bF hb fr0 zr;replace fr1:=bF hb fr1 zr;replace fr2:=bF hb fr2 zr;replace fr3:=bF hb fr3 zr;replace fr4:=bF hb fr4 zr;replace fr5:=bF hb fr5 zr;replace fr6:=bF hb fr6 zr;replace fr7:=bF hb fr7 zr;replace zr:=Kbq zr hb.size;replace HB:=Q02 (HB.out.trans (hb.mono HB.out.size));clear hb;clear HRT;obtain ⟨ro,rc,e6,_⟩:=ownL.open (L:=Q4P) HO.out;subst e6;obtain ⟨rn,hrn⟩:∃x,rt.length=x:=⟨_,rfl⟩
 rw [hrn] at HO hrl ⊢
 have HRN:=Q02 hrn;clear hrn
 by_cases h0:rn=0
 ·subst h0
  have e0:db=false:=by rw [←HDB.out,HRN.out];rfl
  subst e0
  go_wp2
  refine bodyPost_ret (v:=.tuple #[crr 0 0 0 0 (.slice none 0 0) (.slice none 0 0) 0 0,.bool false]) (by simp [results,Tryz.results57,go_sem,r0,r1,r2,r3,r4,r5,r6,r7]) rfl ⟨none,0,0,none,0,0,0,0,0,0,0,rfl, ?_,Q26 HB.out (by omega) _ _ _ _ _ _ _ _⟩
  rw [HMR.out]
  exact Qbb _ _ _
 ·have h0':¬((rn:Int)=0):=by omega
  have e0:db=true:=by rw [←HDB.out,HRN.out];exact decide_eq_true (by omega)
  subst e0;clear h0
  go_wp2_with fail
  refine (HCL.out v1 HB.out).mono ?_
  rintro e v2 ⟨bv,rfl,howb,hb⟩
  have HOB:Hid (ownB v2 v1.heap.size bv l):=howb;have hs2:=hb.size;clear howb;replace x0:=bC hb x0 zx;replace x1:=bC hb x1 zx;replace x2:=bC hb x2 zx;replace x3:=bC hb x3 zx;replace x4:=bC hb x4 zx;replace x5:=bC hb x5 zx;replace x6:=bC hb x6 zx;replace zx:=Kbq zx hb.size;replace p0:=bC hb p0 zp;replace p1:=bC hb p1 zp;replace p2:=bC hb p2 zp;replace p3:=bC hb p3 zp;replace p4:=bC hb p4 zp;replace zp:=Kbq zp hb.size;replace r0:=bC hb r0 zr;replace r1:=bC hb r1 zr;replace r2:=bC hb r2 zr;replace r3:=bC hb r3 zr;replace r4:=bC hb r4 zr;replace r5:=bC hb r5 zr;replace r6:=bC hb r6 zr
  replace r7:=bC hb r7 zr;replace fr0:=bF hb fr0 zr;replace fr1:=bF hb fr1 zr;replace fr2:=bF hb fr2 zr;replace fr3:=bF hb fr3 zr;replace fr4:=bF hb fr4 zr;replace fr5:=bF hb fr5 zr;replace fr6:=bF hb fr6 zr;replace fr7:=bF hb fr7 zr;replace zr:=Kbq zr hb.size;replace HO:=Q02 (Q03 HO.out hb);replace HB:=Q02 (HB.out.trans (hb.mono HB.out.size));clear hb;clear HCL
  obtain ⟨bo,bc,e7⟩:∃o c,bv=.slice o l.length c:=by obtain ⟨o,c,e,_⟩:=ownL.open (L:=QeC) (Q8B.1 HOB.out);exact ⟨o,c,e⟩
  subst e7;obtain ⟨bn,hbn⟩:∃x,l.length=x:=⟨_,rfl⟩
  rw [hbn] at HOB ⊢
  clear hbn
  have HFI:Hid (InCm w.heap.size (Qbe v2 (w.heap.size+1+1) (.int .i64 a) (.int .i64 b) (.int .i64 f) (.int .i64 s) (.slice bo bn bc) (.slice ro rn rc) (.int .i64 0) (.int .i64 now)).heap.size (Qbe v2 (w.heap.size+1+1) (.int .i64 a) (.int .i64 b) (.int .i64 f) (.int .i64 s) (.slice bo bn bc) (.slice ro rn rc) (.int .i64 0) (.int .i64 now)) (crr a b f s (.slice bo bn bc) (.slice ro rn rc) 0 now) ⟨a,b,f,s,l,rt,0,now⟩):=by
   have s9:=Q6o v2 (w.heap.size+1+1) (.int .i64 a) (.int .i64 b) (.int .i64 f) (.int .i64 s) (.slice bo bn bc) (.slice ro rn rc) (.int .i64 0) (.int .i64 now)
   refine ⟨_,_,rfl,InRow.mono (InRow.step (InRow.of (Q8B.1 HOB.out)) s9 (.inl (by omega))) (by omega) (by rw [Q5d];exact Kaq _),InRow.mono (InRow.step (InRow.of (show ownL Q4P 50 v2 W0.heap.size _ rt from HO.out)) s9 (.inl (by omega))) (by omega) (by rw [Q5d];exact Kaq _)⟩
  clear HO HOB
  go_wp2
  refine bodyPost_ret (v:=.tuple #[crr a b f s (.slice bo bn bc) (.slice ro rn rc) 0 now,.bool true]) (by simp [results,Tryz.results57,go_sem,r0,r1,r2,r3,r4,r5,r6,r7]) rfl ⟨bo,bn,bc,ro,rn,rc,a,b,f,s,now,rfl,by rw [HMR.out];exact HFI.out,Q26 HB.out (by omega) _ _ _ _ _ _ _ _⟩
theorem Q5Y (kj:Int) (o:Option Addr) (nj c:Nat) (sj kp:Int) (ob:Option Addr) (np cb:Nat) (oR:Option Addr) (nr cR:Nat) (ot:Option Addr) (nt ct:Nat) (lj:List Cd) (lb:List Bk) (lr:List (List (List Int))) (lt:List Sl) (now a b f s:Int) (po:Option Addr) (pn pc:Nat) (l:List Int) (w:World)
  (hnj:nj=lj.length) (hnt:nt=lt.length) (h1:RdC w.heap.size w o lj) (h1c:o=none→c=0) (h2:Q9S w.heap.size w (plv kp (.slice ob np cb) (.slice oR nr cR)) ⟨kp,lb,lr⟩) (h4:RdS w.heap.size w ot lt) (hf:Q9U ⟨⟨kj,lj,sj⟩,⟨kp,lb,lr⟩,lt⟩) (hpn:pn=l.length) (hpR:Rd w po l) (hpc:po=none→pc=0) (hpl:l.length≤1048576):
  Calls Tryz.prog 18 #[Q1d kj (.slice o nj c) sj kp (.slice ob np cb) (.slice oR nr cR) (.slice ot nt ct),.int .i64 now,pkt a b f s (.slice po pn pc)] w fun e w'=> ∃v,e=.returned (.tuple #[v,.bool (Q5t ⟨⟨kj,lj,sj⟩,⟨kp,lb,lr⟩,lt⟩ now a b f s l.length)])∧InCm w.heap.size w'.heap.size w' v (Q2R ⟨⟨kj,lj,sj⟩,⟨kp,lb,lr⟩,lt⟩ now a b f s l)∧Below w.heap.size w w':=by
 have HBF:=Q02 (fun W (hb:Below w.heap.size w W)=> Q4J kj o nj c sj kp ob np cb oR nr cR ot nt ct lj lb lr lt W hnj hnt ((h1.kept hb (Kaq _)).le hb.size) h1c ((h2.kept hb (Kaq _)).le hb.size) ((h4.kept hb (Kaq _)).le hb.size) hf)
 have f7:lt.length≤1048576:=hf.2.2
 have hpm:pn≤maxLen:=by unfold maxLen;omega
 have HBP:=Q02 (fun h=> Q4d (m:=⟨⟨kj,lj,sj⟩,⟨kp,lb,lr⟩,lt⟩) h)
 have HPB:=Q02 (fun h=> Q2O (m:=⟨⟨kj,lj,sj⟩,⟨kp,lb,lr⟩,lt⟩) h)
 have HSM:=Q02 (fun h=> Q2g (m:=⟨⟨kj,lj,sj⟩,⟨kp,lb,lr⟩,lt⟩) h)
 have HVL:=Q02 (fun h=> Qb9 (m:=⟨⟨kj,lj,sj⟩,⟨kp,lb,lr⟩,lt⟩) h a b)
 have HFT:=Q02 (fun h=> Q4Z (m:=⟨⟨kj,lj,sj⟩,⟨kp,lb,lr⟩,lt⟩) h)
 have HSX:=Q02 (fun h h2=> Qdo (m:=⟨⟨kj,lj,sj⟩,⟨kp,lb,lr⟩,lt⟩) (a:=a) (b:=b) (f:=f) (s:=s) (n:=pn) h h2)
 have HPF:=Q02 (fun h=> Q2D (a:=a) (b:=b) (f:=f) (s:=s) (n:=pn) h)
 have HSB:=Q02 (show Q5t ⟨⟨kj,lj,sj⟩,⟨kp,lb,lr⟩,lt⟩ now a b f s l.length=((Q2i ⟨⟨kj,lj,sj⟩,⟨kp,lb,lr⟩,lt⟩ && (QgG now && Q0q a b f s l.length)) && decide (0 < (Q1S kp lr lt a b f).length)) from rfl);have HM:=Q02 (show Q2R ⟨⟨kj,lj,sj⟩,⟨kp,lb,lr⟩,lt⟩ now a b f s l=if Q5t ⟨⟨kj,lj,sj⟩,⟨kp,lb,lr⟩,lt⟩ now a b f s l.length=true then ⟨a,b,f,s,l,Q1S kp lr lt a b f,0,now⟩ else cm0 from rfl)
 dsimp only at HPB HSM HVL HBP HFT HSX
 rw [←hpn] at HSB HM
 rw [←hpn]
 have HPR:=Q02 (And.intro hpR (And.intro hpc hpn));clear h1 h2 h4 hnj hnt hf hpR hpc hpn;obtain ⟨bb,hbb⟩:∃x,Q2i ⟨⟨kj,lj,sj⟩,⟨kp,lb,lr⟩,lt⟩=x:=⟨_,rfl⟩;obtain ⟨mr,hmr⟩:∃r,Q2R ⟨⟨kj,lj,sj⟩,⟨kp,lb,lr⟩,lt⟩ now a b f s l=r:=⟨_,rfl⟩;obtain ⟨sb,hsb⟩:∃r,Q5t ⟨⟨kj,lj,sj⟩,⟨kp,lb,lr⟩,lt⟩ now a b f s pn=r:=⟨_,rfl⟩
 rw [hmr,hsb]
 rw [hbb] at HBF HBP HPB HSM HVL HFT HSX HSB
 rw [hmr,hsb] at HM
 rw [hsb] at HSB
 clear hbb hmr hsb;obtain ⟨nb,hnb⟩:∃x,QgG now=x:=⟨_,rfl⟩;obtain ⟨pb,hpb⟩:∃x,Q0q a b f s pn=x:=⟨_,rfl⟩;have HPO:=Q02 hpb;have HNO:=Q02 hnb
 rw [hpb] at HPF HSX HSB
 rw [hnb] at HSB
 clear hpb hnb;obtain ⟨W0,hW0⟩:∃W,(((w.alloc (.cells #[.int .i64 kj,.slice o nj c,.int .i64 sj,.int .i64 kp,.slice ob np cb,.slice oR nr cR,.slice ot nt ct] 34)).alloc (.cells #[.int .i64 a,.int .i64 b,.int .i64 f,.int .i64 s,.slice po pn pc] 38)).alloc (.cells #[.int .i64 0,.int .i64 0,.int .i64 0,.int .i64 0,.slice none 0 0,.slice none 0 0,.int .i64 0,.int .i64 0] 58))=W:=⟨_,rfl⟩
 have hb_W0:Below w.heap.size w W0:=by rw [←hW0];exact ((((Below.refl _ _).alloc (Kaq _) _).alloc (by simp <;> omega) _).alloc (by simp <;> omega) _)
 have HB:=Q02 hb_W0;clear hb_W0
 have zz:w.heap.size < W0.heap.size:=by rw [←hW0];simp <;> omega
 obtain ⟨z0,z1,z2,z3,z4,z5,z6⟩:=alc7v0v3 hW0
 have zp:w.heap.size+1 < W0.heap.size:=by rw [←hW0];simp <;> omega
 obtain ⟨p0,p1,p2,p3,p4⟩:=alc5v1v3 hW0
 have zr:w.heap.size+1+1 < W0.heap.size:=by rw [←hW0];simp
 obtain ⟨r0,r1,r2,r3,r4,r5,r6,r7⟩:=alc8v2v3 hW0;obtain ⟨fr0,fr1,fr2,fr3,fr4,fr5,fr6,fr7⟩:=alf8v2v3 hW0;have hzr:w.heap.size+1+1 < W0.heap.size:=zr
 go_enter Tryz.func18,Tryz.ntmps18
 go_wp2_with fail
 refine (HBF.out W0 HB.out).mono ?_
 rintro e v1 ⟨xo,xn,xc,kq,yo,yn,yc,sq,kr,uo,un,uc,vo,vn,vc,rfl,hin,hb⟩
 have HIN:=Q02 hin;have hs1:=hb.size;clear hin HBF;replace z0:=bC hb z0 zz;replace z1:=bC hb z1 zz;replace z2:=bC hb z2 zz;replace z3:=bC hb z3 zz;replace z4:=bC hb z4 zz;replace z5:=bC hb z5 zz;replace z6:=bC hb z6 zz;replace zz:=Kbq zz hb.size;replace p0:=bC hb p0 zp;replace p1:=bC hb p1 zp;replace p2:=bC hb p2 zp;replace p3:=bC hb p3 zp;replace p4:=bC hb p4 zp;replace zp:=Kbq zp hb.size;replace r0:=bC hb r0 zr;replace r1:=bC hb r1 zr;replace r2:=bC hb r2 zr;replace r3:=bC hb r3 zr;replace r4:=bC hb r4 zr;replace r5:=bC hb r5 zr;replace r6:=bC hb r6 zr;replace r7:=bC hb r7 zr
 replace fr0:=bF hb fr0 zr;replace fr1:=bF hb fr1 zr;replace fr2:=bF hb fr2 zr;replace fr3:=bF hb fr3 zr;replace fr4:=bF hb fr4 zr;replace fr5:=bF hb fr5 zr;replace fr6:=bF hb fr6 zr;replace fr7:=bF hb fr7 zr;replace zr:=Kbq zr hb.size;replace HB:=Q02 (HB.out.trans (hb.mono HB.out.size));clear hb
 cases bb with
 |false=>
  obtain ⟨W2,hW2⟩:∃W,(v1.alloc (.cells #[.slice xo xn xc,.int .i64 kq,.slice yo yn yc,.int .i64 sq,.int .i64 kr,.slice uo un uc,.slice vo vn vc] 93))=W:=⟨_,rfl⟩
  have hb_W2:Below v1.heap.size v1 W2:=by rw [←hW2];exact ((Below.refl _ _).alloc (Kaq _) _)
  replace z0:=bC hb_W2 z0 zz;replace z1:=bC hb_W2 z1 zz;replace z2:=bC hb_W2 z2 zz;replace z3:=bC hb_W2 z3 zz;replace z4:=bC hb_W2 z4 zz;replace z5:=bC hb_W2 z5 zz;replace z6:=bC hb_W2 z6 zz;replace zz:=Kbq zz hb_W2.size;replace p0:=bC hb_W2 p0 zp;replace p1:=bC hb_W2 p1 zp;replace p2:=bC hb_W2 p2 zp;replace p3:=bC hb_W2 p3 zp;replace p4:=bC hb_W2 p4 zp;replace zp:=Kbq zp hb_W2.size;replace r0:=bC hb_W2 r0 zr;replace r1:=bC hb_W2 r1 zr;replace r2:=bC hb_W2 r2 zr;replace r3:=bC hb_W2 r3 zr;replace r4:=bC hb_W2 r4 zr;replace r5:=bC hb_W2 r5 zr;replace r6:=bC hb_W2 r6 zr
  replace r7:=bC hb_W2 r7 zr;replace fr0:=bF hb_W2 fr0 zr;replace fr1:=bF hb_W2 fr1 zr;replace fr2:=bF hb_W2 fr2 zr;replace fr3:=bF hb_W2 fr3 zr;replace fr4:=bF hb_W2 fr4 zr;replace fr5:=bF hb_W2 fr5 zr;replace fr6:=bF hb_W2 fr6 zr;replace fr7:=bF hb_W2 fr7 zr;replace zr:=Kbq zr hb_W2.size;replace HB:=Q02 (HB.out.trans (hb_W2.mono HB.out.size));clear hb_W2
  have zx:v1.heap.size < W2.heap.size:=by rw [←hW2];simp
  obtain ⟨x0,x1,x2,x3,x4,x5,x6⟩:=alc7v0v1 hW2;clear HIN
  have e0:sb=false:=by rw [HSB.out];simp
  subst e0
  go_wp2
  refine bodyPost_ret (v:=.tuple #[crr 0 0 0 0 (.slice none 0 0) (.slice none 0 0) 0 0,.bool false]) (by simp [results,Tryz.results18,go_sem,r0,r1,r2,r3,r4,r5,r6,r7]) rfl ⟨_,rfl, ?_,Q26 HB.out (by omega) _ _ _ _ _ _ _ _⟩
  rw [HM.out]
  exact Qbb _ _ _
 |true=>
  have hn:=HBP.out rfl;have hpo:=HPB.out rfl;have hsm:=HSM.out rfl;have hvl:=HVL.out rfl;have hft:=HFT.out rfl;obtain ⟨g,a2,b2,k1,k2,k3,k4,e1,e2,e3,rfl,rfl,i1,i2,i3⟩:=Q6Y (HIN.out rfl) hn
  rw [←hsm] at i1 e3
  dsimp only at i1 e3
  subst e3;have HO:=Q02 i2;have HIP:=Q02 i1
  have hk9:a2≤v1.heap.size:=by omega
  have HVF:=Q02 (And.intro hvl hft);clear i1 i2 i3 HIN e1 e2 hsm HSM hvl hft HVL HFT;obtain ⟨W2,hW2⟩:∃W,(v1.alloc (.cells #[.slice (some ⟨g,0,none⟩) lt.length xc,.int .i64 kq,.slice yo yn yc,.int .i64 sq,.int .i64 kr,.slice uo un uc,.slice vo vn vc] 93))=W:=⟨_,rfl⟩
  have hb_W2:Below v1.heap.size v1 W2:=by rw [←hW2];exact ((Below.refl _ _).alloc (Kaq _) _)
  replace z0:=bC hb_W2 z0 zz;replace z1:=bC hb_W2 z1 zz;replace z2:=bC hb_W2 z2 zz;replace z3:=bC hb_W2 z3 zz;replace z4:=bC hb_W2 z4 zz;replace z5:=bC hb_W2 z5 zz;replace z6:=bC hb_W2 z6 zz;replace zz:=Kbq zz hb_W2.size;replace p0:=bC hb_W2 p0 zp;replace p1:=bC hb_W2 p1 zp;replace p2:=bC hb_W2 p2 zp;replace p3:=bC hb_W2 p3 zp;replace p4:=bC hb_W2 p4 zp;replace zp:=Kbq zp hb_W2.size;replace r0:=bC hb_W2 r0 zr;replace r1:=bC hb_W2 r1 zr;replace r2:=bC hb_W2 r2 zr;replace r3:=bC hb_W2 r3 zr;replace r4:=bC hb_W2 r4 zr;replace r5:=bC hb_W2 r5 zr;replace r6:=bC hb_W2 r6 zr
  replace r7:=bC hb_W2 r7 zr;replace fr0:=bF hb_W2 fr0 zr;replace fr1:=bF hb_W2 fr1 zr;replace fr2:=bF hb_W2 fr2 zr;replace fr3:=bF hb_W2 fr3 zr;replace fr4:=bF hb_W2 fr4 zr;replace fr5:=bF hb_W2 fr5 zr;replace fr6:=bF hb_W2 fr6 zr;replace fr7:=bF hb_W2 fr7 zr;replace zr:=Kbq zr hb_W2.size;replace HO:=Q02 (Q03 HO.out hb_W2);replace HB:=Q02 (HB.out.trans (hb_W2.mono HB.out.size));clear hb_W2
  have zx:v1.heap.size < W2.heap.size:=by rw [←hW2];simp
  obtain ⟨x0,x1,x2,x3,x4,x5,x6⟩:=alc7v0v1 hW2
  replace HIP:=Q02 (HIP.out.step (Stp.of (lo:=0) (hi:=0) (show Below v1.heap.size v1 W2 by rw [←hW2];exact (Below.refl _ _).alloc (Kaq _) _)) (.inl (Kcq _)))
  have hk2:v1.heap.size < W2.heap.size:=zx
  cases nb with
  |false=>
   go_wp2_with fail
   have hnw:=Q3A now W2
   change Calls _ _ _ _ (fun e w'=> e=.returned (.bool (QgG now))∧_) at hnw
   rw [HNO.out] at hnw
   refine hnw.mono ?_
   rintro e _ ⟨rfl,rfl⟩
   clear hnw;clear HO HIP
   have e0:sb=false:=by rw [HSB.out];simp
   subst e0
   go_wp2
   refine bodyPost_ret (v:=.tuple #[crr 0 0 0 0 (.slice none 0 0) (.slice none 0 0) 0 0,.bool false]) (by simp [results,Tryz.results18,go_sem,r0,r1,r2,r3,r4,r5,r6,r7]) rfl ⟨_,rfl, ?_,Q26 HB.out (by omega) _ _ _ _ _ _ _ _⟩
   rw [HM.out]
   exact Qbb _ _ _
  |true=>
   go_wp2_with fail
   have hnw:=Q3A now W2
   change Calls _ _ _ _ (fun e w'=> e=.returned (.bool (QgG now))∧_) at hnw
   rw [HNO.out] at hnw
   refine hnw.mono ?_
   rintro e _ ⟨rfl,rfl⟩
   clear hnw;have hfl:=Q15 a b f s po pn pc W2 hpm
   rw [HPO.out] at hfl
   cases pb with
   |false=>
    go_wp2_with fail
    refine (hfl).mono ?_
    rintro e v2 ⟨rfl,hb⟩
    replace z0:=bC hb z0 zz;replace z1:=bC hb z1 zz;replace z2:=bC hb z2 zz;replace z3:=bC hb z3 zz;replace z4:=bC hb z4 zz;replace z5:=bC hb z5 zz;replace z6:=bC hb z6 zz;replace zz:=Kbq zz hb.size;replace p0:=bC hb p0 zp;replace p1:=bC hb p1 zp;replace p2:=bC hb p2 zp;replace p3:=bC hb p3 zp;replace p4:=bC hb p4 zp;replace zp:=Kbq zp hb.size;replace r0:=bC hb r0 zr;replace r1:=bC hb r1 zr;replace r2:=bC hb r2 zr;replace r3:=bC hb r3 zr;replace r4:=bC hb r4 zr;replace r5:=bC hb r5 zr;replace r6:=bC hb r6 zr;replace r7:=bC hb r7 zr;replace fr0:=bF hb fr0 zr;replace fr1:=bF hb fr1 zr
    replace fr2:=bF hb fr2 zr;replace fr3:=bF hb fr3 zr;replace fr4:=bF hb fr4 zr;replace fr5:=bF hb fr5 zr;replace fr6:=bF hb fr6 zr;replace fr7:=bF hb fr7 zr;replace zr:=Kbq zr hb.size;replace x0:=bC hb x0 zx;replace x1:=bC hb x1 zx;replace x2:=bC hb x2 zx;replace x3:=bC hb x3 zx;replace x4:=bC hb x4 zx;replace x5:=bC hb x5 zx;replace x6:=bC hb x6 zx;replace zx:=Kbq zx hb.size;replace HO:=Q02 (Q03 HO.out hb);replace HB:=Q02 (HB.out.trans (hb.mono HB.out.size));clear hb;clear hfl HO HIP
    have e0:sb=false:=by rw [HSB.out];simp
    subst e0
    go_wp2
    refine bodyPost_ret (v:=.tuple #[crr 0 0 0 0 (.slice none 0 0) (.slice none 0 0) 0 0,.bool false]) (by simp [results,Tryz.results18,go_sem,r0,r1,r2,r3,r4,r5,r6,r7]) rfl ⟨_,rfl, ?_,Q26 HB.out (by omega) _ _ _ _ _ _ _ _⟩
    rw [HM.out]
    exact Qbb _ _ _
   |true=>
    go_wp2_with fail
    refine (hfl).mono ?_
    rintro e v2 ⟨rfl,hb⟩
    replace HIP:=Q02 (HIP.out.step (Stp.of (lo:=0) (hi:=0) hb) (.inl (Kcq _)));have hk3:=hb.size;replace z0:=bC hb z0 zz;replace z1:=bC hb z1 zz;replace z2:=bC hb z2 zz;replace z3:=bC hb z3 zz;replace z4:=bC hb z4 zz;replace z5:=bC hb z5 zz;replace z6:=bC hb z6 zz;replace zz:=Kbq zz hb.size;replace p0:=bC hb p0 zp;replace p1:=bC hb p1 zp;replace p2:=bC hb p2 zp;replace p3:=bC hb p3 zp;replace p4:=bC hb p4 zp;replace zp:=Kbq zp hb.size;replace r0:=bC hb r0 zr;replace r1:=bC hb r1 zr;replace r2:=bC hb r2 zr;replace r3:=bC hb r3 zr;replace r4:=bC hb r4 zr;replace r5:=bC hb r5 zr
    replace r6:=bC hb r6 zr;replace r7:=bC hb r7 zr;replace fr0:=bF hb fr0 zr;replace fr1:=bF hb fr1 zr;replace fr2:=bF hb fr2 zr;replace fr3:=bF hb fr3 zr;replace fr4:=bF hb fr4 zr;replace fr5:=bF hb fr5 zr;replace fr6:=bF hb fr6 zr;replace fr7:=bF hb fr7 zr;replace zr:=Kbq zr hb.size;replace x0:=bC hb x0 zx;replace x1:=bC hb x1 zx;replace x2:=bC hb x2 zx;replace x3:=bC hb x3 zx;replace x4:=bC hb x4 zx;replace x5:=bC hb x5 zx;replace x6:=bC hb x6 zx;replace zx:=Kbq zx hb.size;replace HO:=Q02 (Q03 HO.out hb);replace HB:=Q02 (HB.out.trans (hb.mono HB.out.size));clear hb;clear hfl
    have hsx:=HSX.out (by first|rfl|trivial) (by first|rfl|trivial)
    have hfo:=HPF.out (by first|rfl|trivial)
    have HG:=Q02 (Qd6 g lt.length xc kq yo yn yc sq kr uo un uc vo vn vc now a b f s po pn pc l (Q1S kr lr lt a b f) _ _ v2 rfl rfl HPR.out.2.2 (HPR.out.1.kept HB.out) HPR.out.2.1 hpl hsx (fun W hb=> Q9g g lt.length xc a2 kq yo yn yc sq kr uo un uc vo vn vc lb lr lt a b f s po pn pc W rfl hn f7 hpm HPO.out hfo HVF.out.1 ((HIP.out.rd.le (by omega)).kept hb (Kaq _)|>.le hb.size) hpo HVF.out.2 (Q03 HO.out hb)))
    clear HIP HPO HPF HVF hpo HBP HPB HSX hsx hfo HO HPR;obtain ⟨db,hdb⟩:∃x,decide (0 < (Q1S kr lr lt a b f).length)=x:=⟨_,rfl⟩
    rw [hdb] at HG HSB
    clear hdb;obtain ⟨cmr,hcmr⟩:∃x:Cm,(if db=true then (⟨a,b,f,s,l,Q1S kr lr lt a b f,0,now⟩:Cm) else cm0)=x:=⟨_,rfl⟩
    rw [hcmr] at HG
    have HCM:=Q02 hcmr;clear hcmr
    have e0:sb=db:=by rw [HSB.out];cases db <;> rfl
    subst e0
    have HM2:Hid (mr=cmr):=by unfold Hid;rw [HM.out,←HCM.out]
    clear HM HCM HSB
    go_wp2_with fail
    refine (HG.out).mono ?_
    rintro e v3 ⟨xo2,xn2,xk2,yo2,yn2,yk2,q1,q2,q3,q4,q5,rfl,inc,hb⟩
    have HIC:=Q02 inc;have hs4:=hb.size;clear inc;replace z0:=bC hb z0 zz;replace z1:=bC hb z1 zz;replace z2:=bC hb z2 zz;replace z3:=bC hb z3 zz;replace z4:=bC hb z4 zz;replace z5:=bC hb z5 zz;replace z6:=bC hb z6 zz;replace zz:=Kbq zz hb.size;replace p0:=bC hb p0 zp;replace p1:=bC hb p1 zp;replace p2:=bC hb p2 zp;replace p3:=bC hb p3 zp;replace p4:=bC hb p4 zp;replace zp:=Kbq zp hb.size;replace r0:=bC hb r0 zr;replace r1:=bC hb r1 zr;replace r2:=bC hb r2 zr;replace r3:=bC hb r3 zr;replace r4:=bC hb r4 zr;replace r5:=bC hb r5 zr;replace r6:=bC hb r6 zr;replace r7:=bC hb r7 zr
    replace fr0:=bF hb fr0 zr;replace fr1:=bF hb fr1 zr;replace fr2:=bF hb fr2 zr;replace fr3:=bF hb fr3 zr;replace fr4:=bF hb fr4 zr;replace fr5:=bF hb fr5 zr;replace fr6:=bF hb fr6 zr;replace fr7:=bF hb fr7 zr;replace zr:=Kbq zr hb.size;replace x0:=bC hb x0 zx;replace x1:=bC hb x1 zx;replace x2:=bC hb x2 zx;replace x3:=bC hb x3 zx;replace x4:=bC hb x4 zx;replace x5:=bC hb x5 zx;replace x6:=bC hb x6 zx;replace zx:=Kbq zx hb.size;replace HB:=Q02 (HB.out.trans (hb.mono HB.out.size));clear hb;clear HG
    have HFI:Hid (InCm w.heap.size (Qbe v3 (w.heap.size+1+1) (.int .i64 q1) (.int .i64 q2) (.int .i64 q3) (.int .i64 q4) (.slice xo2 xn2 xk2) (.slice yo2 yn2 yk2) (.int .i64 0) (.int .i64 q5)).heap.size (Qbe v3 (w.heap.size+1+1) (.int .i64 q1) (.int .i64 q2) (.int .i64 q3) (.int .i64 q4) (.slice xo2 xn2 xk2) (.slice yo2 yn2 yk2) (.int .i64 0) (.int .i64 q5)) (crr q1 q2 q3 q4 (.slice xo2 xn2 xk2) (.slice yo2 yn2 yk2) 0 q5) cmr):=(HIC.out.step (Q6o v3 (w.heap.size+1+1) (.int .i64 q1) (.int .i64 q2) (.int .i64 q3) (.int .i64 q4) (.slice xo2 xn2 xk2) (.slice yo2 yn2 yk2) (.int .i64 0) (.int .i64 q5)) (.inl (by omega))).mono (by omega) (by rw [Q5d];exact Kaq _)
    clear HIC
    go_wp2
    refine bodyPost_ret (v:=.tuple #[crr q1 q2 q3 q4 (.slice xo2 xn2 xk2) (.slice yo2 yn2 yk2) 0 q5,.bool sb]) (by simp [results,Tryz.results18,go_sem,r0,r1,r2,r3,r4,r5,r6,r7]) rfl ⟨_,rfl,by rw [HM2.out];exact HFI.out,Q26 HB.out (by omega) _ _ _ _ _ _ _ _⟩
theorem InCm.opn {lo hi:Nat} {w:World} {v:Value} {m:Cm} (h:InCm lo hi w v m):∃(o:Option Addr) (c:Nat) (og:Option Addr) (cg:Nat),v=crr m.a m.b m.f m.s (.slice o m.l.length c) (.slice og m.g.length cg) m.pl m.st:=by
 obtain ⟨vl,vg,e,⟨o,c,e1,_⟩,⟨og,cg,e2,_⟩⟩:=h.rd
 exact ⟨o,c,og,cg,by rw [e,e1,e2]⟩
theorem Q17 {W:World} {B b j:Nat} {u:Value} (h:W.cell? ⟨b,j,none⟩=some u) (hb:b < B) (x0 x1 x2 x3 x4 x5 x6 x7:Value):(Qbe W B x0 x1 x2 x3 x4 x5 x6 x7).cell? ⟨b,j,none⟩=some u:=(Q6o W B x0 x1 x2 x3 x4 x5 x6 x7).cellP h (.inl hb)
theorem Qfm {w new:World} {c:Array Value} {T:TypeId} (hb:Below (w.alloc (.cells c T)).heap.size (w.alloc (.cells c T)) new):new.heap[w.heap.size]? =some (.cells c T (0,0)):=
 (hb.block w.heap.size (by simp)).trans (World.alloc_heap_new w (.cells c T))
theorem Qdg {w new:World} {c:Array Value} {T:TypeId} (hb:Below ((w.alloc (.cells c T)).drew).heap.size (w.alloc (.cells c T)).drew new):new.heap[w.heap.size]? =some (.cells c T (0,0)):=by
 have h1:=hb.block w.heap.size (by simp)
 have h2:(w.alloc (.cells c T)).drew.heap[w.heap.size]? =(w.alloc (.cells c T)).heap[w.heap.size]? :=rfl
 exact h1.trans (h2.trans (World.alloc_heap_new w (.cells c T)))
theorem Qfk {W:World} {R:Nat} {z0 z1 z2 z3 z4 z5 z6 z7:Value} {T:TypeId} (h:W.heap[R]? =some (.cells #[z0,z1,z2,z3,z4,z5,z6,z7] T (0,0))) (x0 x1 x2 x3 x4 x5 x6 x7:Value):(Qbe W R x0 x1 x2 x3 x4 x5 x6 x7).heap[R]? =some (.cells #[x0,x1,x2,x3,x4,x5,x6,x7] T (0,0)):=by
 have h0:(W.setCell ⟨R,0,none⟩ x0).heap[R]? =some (.cells #[x0,z1,z2,z3,z4,z5,z6,z7] T (0,0)):=Q06 h 0 x0;have h1:((W.setCell ⟨R,0,none⟩ x0).setCell ⟨R,1,none⟩ x1).heap[R]? =some (.cells #[x0,x1,z2,z3,z4,z5,z6,z7] T (0,0)):=Q06 h0 1 x1;have h2:(((W.setCell ⟨R,0,none⟩ x0).setCell ⟨R,1,none⟩ x1).setCell ⟨R,2,none⟩ x2).heap[R]? =some (.cells #[x0,x1,x2,z3,z4,z5,z6,z7] T (0,0)):=Q06 h1 2 x2;have h3:((((W.setCell ⟨R,0,none⟩ x0).setCell ⟨R,1,none⟩ x1).setCell ⟨R,2,none⟩ x2).setCell ⟨R,3,none⟩ x3).heap[R]? =some (.cells #[x0,x1,x2,x3,z4,z5,z6,z7] T (0,0)):=Q06 h2 3 x3
 have h4:(((((W.setCell ⟨R,0,none⟩ x0).setCell ⟨R,1,none⟩ x1).setCell ⟨R,2,none⟩ x2).setCell ⟨R,3,none⟩ x3).setCell ⟨R,4,none⟩ x4).heap[R]? =some (.cells #[x0,x1,x2,x3,x4,z5,z6,z7] T (0,0)):=Q06 h3 4 x4;have h5:((((((W.setCell ⟨R,0,none⟩ x0).setCell ⟨R,1,none⟩ x1).setCell ⟨R,2,none⟩ x2).setCell ⟨R,3,none⟩ x3).setCell ⟨R,4,none⟩ x4).setCell ⟨R,5,none⟩ x5).heap[R]? =some (.cells #[x0,x1,x2,x3,x4,x5,z6,z7] T (0,0)):=Q06 h4 5 x5
 have h6:(((((((W.setCell ⟨R,0,none⟩ x0).setCell ⟨R,1,none⟩ x1).setCell ⟨R,2,none⟩ x2).setCell ⟨R,3,none⟩ x3).setCell ⟨R,4,none⟩ x4).setCell ⟨R,5,none⟩ x5).setCell ⟨R,6,none⟩ x6).heap[R]? =some (.cells #[x0,x1,x2,x3,x4,x5,x6,z7] T (0,0)):=Q06 h5 6 x6;have h7:((((((((W.setCell ⟨R,0,none⟩ x0).setCell ⟨R,1,none⟩ x1).setCell ⟨R,2,none⟩ x2).setCell ⟨R,3,none⟩ x3).setCell ⟨R,4,none⟩ x4).setCell ⟨R,5,none⟩ x5).setCell ⟨R,6,none⟩ x6).setCell ⟨R,7,none⟩ x7).heap[R]? =some (.cells #[x0,x1,x2,x3,x4,x5,x6,x7] T (0,0)):=Q06 h6 7 x7
 exact h7
theorem Qbw {W:World} {B:Nat} {z0 z1 z2 z3 z4 z5 z6 z7:Value} {T:TypeId} (h:W.heap[B]? =some (.cells #[z0,z1,z2,z3,z4,z5,z6,z7] T (0,0))):W.cell? ⟨B,0,none⟩=some z0∧W.cell? ⟨B,1,none⟩=some z1∧W.cell? ⟨B,2,none⟩=some z2∧W.cell? ⟨B,3,none⟩=some z3∧W.cell? ⟨B,4,none⟩=some z4∧W.cell? ⟨B,5,none⟩=some z5∧W.cell? ⟨B,6,none⟩=some z6∧W.cell? ⟨B,7,none⟩=some z7∧W.frozen? ⟨B,0,none⟩=false∧W.frozen? ⟨B,1,none⟩=false∧W.frozen? ⟨B,2,none⟩=false∧W.frozen? ⟨B,3,none⟩=false∧W.frozen? ⟨B,4,none⟩=false∧W.frozen? ⟨B,5,none⟩=false∧W.frozen? ⟨B,6,none⟩=false∧W.frozen? ⟨B,7,none⟩=false:=
 ⟨Q00 h 0 _ rfl,Q00 h 1 _ rfl,Q00 h 2 _ rfl,Q00 h 3 _ rfl,Q00 h 4 _ rfl,Q00 h 5 _ rfl,Q00 h 6 _ rfl,Q00 h 7 _ rfl,Q01 h 0,Q01 h 1,Q01 h 2,Q01 h 3,Q01 h 4,Q01 h 5,Q01 h 6,Q01 h 7⟩
theorem Qak {W:World} {B:Nat} {z0 z1 z2 z3 z4:Value} {T:TypeId} (h:W.heap[B]? =some (.cells #[z0,z1,z2,z3,z4] T (0,0))):W.cell? ⟨B,0,none⟩=some z0∧W.cell? ⟨B,1,none⟩=some z1∧W.cell? ⟨B,2,none⟩=some z2∧W.cell? ⟨B,3,none⟩=some z3∧W.cell? ⟨B,4,none⟩=some z4:=⟨Q00 h 0 _ rfl,Q00 h 1 _ rfl,Q00 h 2 _ rfl,Q00 h 3 _ rfl,Q00 h 4 _ rfl⟩
theorem Q8M {W:World} {B:Nat} {z0 z1 z2 z3 z4 z5 z6:Value} {T:TypeId} (h:W.heap[B]? =some (.cells #[z0,z1,z2,z3,z4,z5,z6] T (0,0))):W.cell? ⟨B,0,none⟩=some z0∧W.cell? ⟨B,1,none⟩=some z1∧W.cell? ⟨B,2,none⟩=some z2∧W.cell? ⟨B,3,none⟩=some z3∧W.cell? ⟨B,4,none⟩=some z4∧W.cell? ⟨B,5,none⟩=some z5∧W.cell? ⟨B,6,none⟩=some z6:=⟨Q00 h 0 _ rfl,Q00 h 1 _ rfl,Q00 h 2 _ rfl,Q00 h 3 _ rfl,Q00 h 4 _ rfl,Q00 h 5 _ rfl,Q00 h 6 _ rfl⟩
theorem Q5q {W:World} {B:Nat} {z0 z1 z2 z3 z4 z5 z6 z7:Value} {T:TypeId} (h:W.heap[B]? =some (.cells #[z0,z1,z2,z3,z4,z5,z6,z7] T (0,0))):W.cell? ⟨B,0,none⟩=some z0∧W.cell? ⟨B,1,none⟩=some z1∧W.cell? ⟨B,2,none⟩=some z2∧W.cell? ⟨B,3,none⟩=some z3∧W.cell? ⟨B,4,none⟩=some z4∧W.cell? ⟨B,5,none⟩=some z5∧W.cell? ⟨B,6,none⟩=some z6∧W.cell? ⟨B,7,none⟩=some z7:=⟨Q00 h 0 _ rfl,Q00 h 1 _ rfl,Q00 h 2 _ rfl,Q00 h 3 _ rfl,Q00 h 4 _ rfl,Q00 h 5 _ rfl,Q00 h 6 _ rfl,Q00 h 7 _ rfl⟩
theorem Qg8 {cur W:World} {B lo hi:Nat} {f:Value} {mr:Cm} {o og:Option Addr} {c cg:Nat} {z0 z1 z2 z3 z4 z5 z6 z7:Value} (hZ:W.heap[B]? =some (.cells #[z0,z1,z2,z3,z4,z5,z6,z7] 58 (0,0))) (hx:Below cur.heap.size cur W) (hB:cur.heap.size≤B) (hi':InCm lo hi W (crr mr.a mr.b mr.f mr.s (.slice o mr.l.length c) (.slice og mr.g.length cg) mr.pl mr.st) mr) (h1:cur.heap.size≤lo) (h2:hi≤W.heap.size) (h3:B < lo∨hi≤B):
  ∃B' lo hi o' c' og' cg',Value.pointer (some ⟨B,0,none⟩)=.pointer (some ⟨B',0,none⟩)∧f=f∧Hid ((Qbe W B (.int .i64 mr.a) (.int .i64 mr.b) (.int .i64 mr.f) (.int .i64 mr.s) (.slice o mr.l.length c) (.slice og mr.g.length cg) (.int .i64 mr.pl) (.int .i64 mr.st)).heap[B']? =some (.cells #[.int .i64 mr.a,.int .i64 mr.b,.int .i64 mr.f,.int .i64 mr.s,.slice o' mr.l.length c',.slice og' mr.g.length cg',.int .i64 mr.pl,.int .i64 mr.st] 58 (0,0)))∧Hid (Below cur.heap.size cur (Qbe W B (.int .i64 mr.a) (.int .i64 mr.b) (.int .i64 mr.f) (.int .i64 mr.s) (.slice o mr.l.length c) (.slice og mr.g.length cg) (.int .i64 mr.pl) (.int .i64 mr.st)))∧cur.heap.size≤B'∧B' < (Qbe W B (.int .i64 mr.a) (.int .i64 mr.b) (.int .i64 mr.f) (.int .i64 mr.s) (.slice o mr.l.length c) (.slice og mr.g.length cg) (.int .i64 mr.pl) (.int .i64 mr.st)).heap.size∧Hid (InCm lo hi (Qbe W B (.int .i64 mr.a) (.int .i64 mr.b) (.int .i64 mr.f) (.int .i64 mr.s) (.slice o mr.l.length c) (.slice og mr.g.length cg) (.int .i64 mr.pl) (.int .i64 mr.st)) (crr mr.a mr.b mr.f mr.s (.slice o' mr.l.length c') (.slice og' mr.g.length cg') mr.pl mr.st) mr)∧cur.heap.size≤lo∧hi≤(Qbe W B (.int .i64 mr.a) (.int .i64 mr.b) (.int .i64 mr.f) (.int .i64 mr.s) (.slice o mr.l.length c) (.slice og mr.g.length cg) (.int .i64 mr.pl) (.int .i64 mr.st)).heap.size∧(B' < lo∨hi≤B'):=by
 have b8:=Qfk hZ (.int .i64 mr.a) (.int .i64 mr.b) (.int .i64 mr.f) (.int .i64 mr.s) (.slice o mr.l.length c) (.slice og mr.g.length cg) (.int .i64 mr.pl) (.int .i64 mr.st)
 exact ⟨B,lo,hi,o,c,og,cg,rfl,rfl,b8,Q26 hx hB _ _ _ _ _ _ _ _,hB,(Array.getElem?_eq_some_iff.1 b8).1,hi'.step (Q6o W B _ _ _ _ _ _ _ _) (by omega),h1,by rw [Q5d];exact h2,h3⟩
theorem QgJ {cur W:World} {lo hi:Nat} {f:Value} {mr:Cm} {o og:Option Addr} {c cg:Nat} (hx:Below cur.heap.size cur W) (hi':InCm lo hi W (crr mr.a mr.b mr.f mr.s (.slice o mr.l.length c) (.slice og mr.g.length cg) mr.pl mr.st) mr) (h1:cur.heap.size≤lo) (h2:hi≤W.heap.size):
  ∃B' lo hi o' c' og' cg',Value.pointer (some ⟨W.heap.size,0,none⟩)=.pointer (some ⟨B',0,none⟩)∧f=f∧Hid ((W.alloc (.cells #[.int .i64 mr.a,.int .i64 mr.b,.int .i64 mr.f,.int .i64 mr.s,.slice o mr.l.length c,.slice og mr.g.length cg,.int .i64 mr.pl,.int .i64 mr.st] 58)).heap[B']? =some (.cells #[.int .i64 mr.a,.int .i64 mr.b,.int .i64 mr.f,.int .i64 mr.s,.slice o' mr.l.length c',.slice og' mr.g.length cg',.int .i64 mr.pl,.int .i64 mr.st] 58 (0,0)))∧Hid (Below cur.heap.size cur (W.alloc (.cells #[.int .i64 mr.a,.int .i64 mr.b,.int .i64 mr.f,.int .i64 mr.s,.slice o mr.l.length c,.slice og mr.g.length cg,.int .i64 mr.pl,.int .i64 mr.st] 58)))∧cur.heap.size≤B'∧B' < (W.alloc (.cells #[.int .i64 mr.a,.int .i64 mr.b,.int .i64 mr.f,.int .i64 mr.s,.slice o mr.l.length c,.slice og mr.g.length cg,.int .i64 mr.pl,.int .i64 mr.st] 58)).heap.size∧Hid (InCm lo hi (W.alloc (.cells #[.int .i64 mr.a,.int .i64 mr.b,.int .i64 mr.f,.int .i64 mr.s,.slice o mr.l.length c,.slice og mr.g.length cg,.int .i64 mr.pl,.int .i64 mr.st] 58)) (crr mr.a mr.b mr.f mr.s (.slice o' mr.l.length c') (.slice og' mr.g.length cg') mr.pl mr.st) mr)∧cur.heap.size≤lo∧hi≤(W.alloc (.cells #[.int .i64 mr.a,.int .i64 mr.b,.int .i64 mr.f,.int .i64 mr.s,.slice o mr.l.length c,.slice og mr.g.length cg,.int .i64 mr.pl,.int .i64 mr.st] 58)).heap.size∧(B' < lo∨hi≤B'):=
 ⟨W.heap.size,lo,hi,o,c,og,cg,rfl,rfl,World.alloc_heap_new W _,hx.alloc hx.size _,hx.size,by simp,hi'.step (Stp.of (lo:=0) (hi:=0) ((Below.refl _ _).alloc (Kaq _) _)) (.inl (Kcq _)),h1,by simp;omega,.inr h2⟩
end Go.Proofs.YtpneolgdghbinaaGreat
