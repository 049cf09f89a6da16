/- The model's way with what is hunted. -/
import Derived.Test.YtljogkoaaidlcaaQHandL13
namespace Go.Proofs.Ytljogkoaaidlcaa
open Go.ChangeShapes Go.WideShapes Go.ChangeAt Go.RowKit Go.Joins
set_option linter.unusedVariables false
set_option linter.unusedSimpArgs false
set_option maxRecDepth 100000
set_option maxHeartbeats 40000000
def Q19 (m:Am) (a p:Int) (last:Bool):Bool:= !(Q0m m.t a p).2 && (decide (Q0y m.c < m.c.length) && !m.dr) && (last||decide ((Q0y m.c:Int) < m.lim))
def Q41 (m:Am) (a p:Int) (last:Bool):Int:=if Q19 m a p last=true then 1 else if last=true then 3 else if 0≤(Q0m m.t a p).1 then 2 else 5
def Q3V (m:Am) (now a p s:Int) (last:Bool):List Sl:=if Q19 m a p last=true then Q11 m.c a p s (now+50) else m.c
def Q3T (m:Am) (now a p:Int) (last:Bool):List Sl:=if Q19 m a p last=true∨last=true then m.t else Q11 m.t a p 0 (now+20+1)
theorem Q6J (m:Am) (now a p s:Int) (last:Bool):(Q3V m now a p s last).length=m.c.length:=by
 unfold Q3V
 split
 ·exact Q0p _ _ _ _ _
 ·rfl
theorem Q6P (m:Am) (now a p:Int) (last:Bool):(Q3T m now a p last).length=m.t.length:=by
 unfold Q3T
 split
 ·rfl
 ·exact Q0p _ _ _ _ _
theorem Q2n (m:Am) (bc fc cc bt ft ct:Nat) (now a p f s:Int) (o:Option Addr) (n cp:Nat) (last:Bool) (w:World) (hn0:0≤now) (hn1:now≤100000) (hfl:Q0c a p=true) (hc0:0 < m.c.length) (hc16:m.c.length≤16) (ht0:0 < m.t.length) (ht16:m.t.length≤16) (zc:bc < w.heap.size) (zt:bt < w.heap.size) (hC:Row w bc fc m.c) (hT:Row w bt ft m.t):
  Calls Try.prog 93 #[agt m.id m.lim m.dr (.slice (some ⟨bc,fc,none⟩) m.c.length cc) (.slice (some ⟨bt,ft,none⟩) m.t.length ct),.int .i64 now,.agg #[.int .i64 a,.int .i64 p,.int .i64 f,.int .i64 s,.slice o n cp],.bool last] w fun e w'=> ∃bc' fc' cc' bt' ft' ct',e=.returned (.tuple #[agt m.id m.lim m.dr (.slice (some ⟨bc',fc',none⟩) m.c.length cc') (.slice (some ⟨bt',ft',none⟩) m.t.length ct'),.int .i64 (Q41 m a p last)])∧bc' < w'.heap.size∧bt' < w'.heap.size∧Row w' bc' fc' (Q3V m now a p s last)∧Row w' bt' ft' (Q3T m now a p last)∧Below w.heap.size w w'∧(bc'=bc∨w.heap.size≤bc')∧(bt'=bt∨w.heap.size≤bt'):=by
 have HC:=Q00 hC
 have HT:=Q00 hT
 clear hC hT
 have hw1:IntKind.i64.wrap (now+50)=now+50:=by rw [IntKind.wrap_i64];omega
 have hcle:=Q2e m.c m.c.length
 have hcb:Q0y m.c≤m.c.length:=hcle
 clear hcle
 obtain ⟨W0,hW0⟩:∃W,(((w.alloc (.cells #[.int .i64 m.id,.int .i64 m.lim,.bool m.dr,.slice (some ⟨bc,fc,none⟩) m.c.length cc,.slice (some ⟨bt,ft,none⟩) m.t.length ct] 27)).alloc (.cells #[.int .i64 a,.int .i64 p,.int .i64 f,.int .i64 s,.slice o n cp] 31)).alloc (.cells #[.int .i64 0,.int .i64 0,.bool false,.slice none 0 0,.slice none 0 0] 27))=W:=⟨_,rfl⟩
 have hb_W0:Below w.heap.size w W0:=by rw [←hW0];exact ((((Below.refl _ _).alloc (Kaq _) _).alloc (by simp <;> omega) _).alloc (by simp <;> omega) _)
 have HB:=Q00 hb_W0
 clear hb_W0
 have zz:w.heap.size < W0.heap.size:=by rw [←hW0];simp <;> omega
 have z0:W0.cell? ⟨w.heap.size,0,none⟩=some (.int .i64 m.id):=by rw [←hW0];simp [go_sem]
 have z1:W0.cell? ⟨w.heap.size,1,none⟩=some (.int .i64 m.lim):=by rw [←hW0];simp [go_sem]
 have z2:W0.cell? ⟨w.heap.size,2,none⟩=some (.bool m.dr):=by rw [←hW0];simp [go_sem]
 have z3:W0.cell? ⟨w.heap.size,3,none⟩=some (.slice (some ⟨bc,fc,none⟩) m.c.length cc):=by rw [←hW0];simp [go_sem]
 have z4:W0.cell? ⟨w.heap.size,4,none⟩=some (.slice (some ⟨bt,ft,none⟩) m.t.length ct):=by rw [←hW0];simp [go_sem]
 have fz0:W0.frozen? ⟨w.heap.size,0,none⟩=false:=by rw [←hW0];simp [go_sem]
 have fz1:W0.frozen? ⟨w.heap.size,1,none⟩=false:=by rw [←hW0];simp [go_sem]
 have fz2:W0.frozen? ⟨w.heap.size,2,none⟩=false:=by rw [←hW0];simp [go_sem]
 have fz3:W0.frozen? ⟨w.heap.size,3,none⟩=false:=by rw [←hW0];simp [go_sem]
 have fz4:W0.frozen? ⟨w.heap.size,4,none⟩=false:=by rw [←hW0];simp [go_sem]
 have zk:w.heap.size+1 < W0.heap.size:=by rw [←hW0];simp <;> omega
 have k0:W0.cell? ⟨w.heap.size+1,0,none⟩=some (.int .i64 a):=by rw [←hW0];simp [go_sem]
 have k1:W0.cell? ⟨w.heap.size+1,1,none⟩=some (.int .i64 p):=by rw [←hW0];simp [go_sem]
 have k2:W0.cell? ⟨w.heap.size+1,2,none⟩=some (.int .i64 f):=by rw [←hW0];simp [go_sem]
 have k3:W0.cell? ⟨w.heap.size+1,3,none⟩=some (.int .i64 s):=by rw [←hW0];simp [go_sem]
 have k4:W0.cell? ⟨w.heap.size+1,4,none⟩=some (.slice o n cp):=by rw [←hW0];simp [go_sem]
 have zr:w.heap.size+1+1 < W0.heap.size:=by rw [←hW0];simp
 have r0:W0.cell? ⟨w.heap.size+1+1,0,none⟩=some (.int .i64 0):=by rw [←hW0];simp [go_sem]
 have r1:W0.cell? ⟨w.heap.size+1+1,1,none⟩=some (.int .i64 0):=by rw [←hW0];simp [go_sem]
 have r2:W0.cell? ⟨w.heap.size+1+1,2,none⟩=some (.bool false):=by rw [←hW0];simp [go_sem]
 have r3:W0.cell? ⟨w.heap.size+1+1,3,none⟩=some (.slice none 0 0):=by rw [←hW0];simp [go_sem]
 have r4:W0.cell? ⟨w.heap.size+1+1,4,none⟩=some (.slice none 0 0):=by rw [←hW0];simp [go_sem]
 have fr0:W0.frozen? ⟨w.heap.size+1+1,0,none⟩=false:=by rw [←hW0];simp [go_sem]
 have fr1:W0.frozen? ⟨w.heap.size+1+1,1,none⟩=false:=by rw [←hW0];simp [go_sem]
 have fr2:W0.frozen? ⟨w.heap.size+1+1,2,none⟩=false:=by rw [←hW0];simp [go_sem]
 have fr3:W0.frozen? ⟨w.heap.size+1+1,3,none⟩=false:=by rw [←hW0];simp [go_sem]
 have fr4:W0.frozen? ⟨w.heap.size+1+1,4,none⟩=false:=by rw [←hW0];simp [go_sem]
 have hz0:=zr
 have HGd:=Q00 (show Q19 m a p last=(!(Q0m m.t a p).2 && (decide (Q0y m.c < m.c.length) && !m.dr) && (last||decide ((Q0y m.c:Int) < m.lim))) from rfl)
 have HV:=Q00 (show Q41 m a p last=if Q19 m a p last=true then 1 else if last=true then 3 else if 0≤(Q0m m.t a p).1 then 2 else 5 from rfl)
 have HHC:=Q00 (show Q3V m now a p s last=if Q19 m a p last=true then Q11 m.c a p s (now+50) else m.c from rfl)
 have HHT:=Q00 (show Q3T m now a p last=if Q19 m a p last=true∨last=true then m.t else Q11 m.t a p 0 (now+20+1) from rfl)
 have H1:=Q00 (Q3D bt ft ct m.t a p W0 ht0 (by omega) hfl (Kbq zt HB.out.size) (HT.out.kept HB.out zt))
 obtain ⟨q,hq⟩:∃q,Q5B m.t a p=q:=⟨_,rfl⟩
 obtain ⟨sh,hsh⟩:∃q,(Q0m m.t a p).2=q:=⟨_,rfl⟩
 rw [hq,hsh] at H1
 rw [hsh] at HGd
 clear hq hsh
 obtain ⟨nc,hnc⟩:∃q,Q0y m.c=q:=⟨_,rfl⟩
 have HNC:=Q00 hnc
 rw [hnc] at HGd hcb
 clear hnc
 by_cases hlt:nc < m.c.length
 ·rcases Bool.eq_false_or_eq_true m.dr with hdr|hdr
  ·cases sh with
   |false=>
    cases last with
    |false=>
     have hG:Q19 m a p false=false:=by rw [HGd.out];simp [*]
     rw [hG] at HV HHC HHT
     have HVl:=Q00 (HV.out.trans ((if_neg (by decide)).trans (if_neg (by decide))))
     have HCl:=Q00 (HHC.out.trans (if_neg (by decide)))
     have HTl:=Q00 (HHT.out.trans (if_neg (by simp)))
     clear HV HHC HHT HGd hG
     have HDR:=Q00 hdr
     clear hdr
     go_enter Try.func93,Try.ntmps93
     go_wp2_with fail
     refine (H1.out).mono ?_
     rintro e v1 ⟨rfl,hb⟩
     clear H1
     replace z0:=bC hb z0 zz
     replace z1:=bC hb z1 zz
     replace z2:=bC hb z2 zz
     replace z3:=bC hb z3 zz
     replace z4:=bC hb z4 zz
     replace fz0:=bF hb fz0 zz
     replace fz1:=bF hb fz1 zz
     replace fz2:=bF hb fz2 zz
     replace fz3:=bF hb fz3 zz
     replace fz4:=bF hb fz4 zz
     replace zz:=Kbq zz hb.size
     replace k0:=bC hb k0 zk
     replace k1:=bC hb k1 zk
     replace k2:=bC hb k2 zk
     replace k3:=bC hb k3 zk
     replace k4:=bC hb k4 zk
     replace zk:=Kbq zk hb.size
     replace r0:=bC hb r0 zr
     replace r1:=bC hb r1 zr
     replace r2:=bC hb r2 zr
     replace r3:=bC hb r3 zr
     replace r4:=bC hb r4 zr
     replace fr0:=bF hb fr0 zr
     replace fr1:=bF hb fr1 zr
     replace fr2:=bF hb fr2 zr
     replace fr3:=bF hb fr3 zr
     replace fr4:=bF hb fr4 zr
     replace zr:=Kbq zr hb.size
     replace HB:=Q00 (HB.out.trans (hb.mono HB.out.size))
     clear hb
     obtain ⟨W2,hW2⟩:∃W,(v1.alloc (.cells #[.bool q.u,.int .i64 q.a,.int .i64 q.p,.int .i64 q.v,.int .i64 q.t] 84))=W:=⟨_,rfl⟩
     have hb_W2:Below v1.heap.size v1 W2:=by rw [←hW2];exact ((Below.refl _ _).alloc (Kaq _) _)
     replace z0:=bC hb_W2 z0 zz
     replace z1:=bC hb_W2 z1 zz
     replace z2:=bC hb_W2 z2 zz
     replace z3:=bC hb_W2 z3 zz
     replace z4:=bC hb_W2 z4 zz
     replace fz0:=bF hb_W2 fz0 zz
     replace fz1:=bF hb_W2 fz1 zz
     replace fz2:=bF hb_W2 fz2 zz
     replace fz3:=bF hb_W2 fz3 zz
     replace fz4:=bF hb_W2 fz4 zz
     replace zz:=Kbq zz hb_W2.size
     replace k0:=bC hb_W2 k0 zk
     replace k1:=bC hb_W2 k1 zk
     replace k2:=bC hb_W2 k2 zk
     replace k3:=bC hb_W2 k3 zk
     replace k4:=bC hb_W2 k4 zk
     replace zk:=Kbq zk hb_W2.size
     replace r0:=bC hb_W2 r0 zr
     replace r1:=bC hb_W2 r1 zr
     replace r2:=bC hb_W2 r2 zr
     replace r3:=bC hb_W2 r3 zr
     replace r4:=bC hb_W2 r4 zr
     replace fr0:=bF hb_W2 fr0 zr
     replace fr1:=bF hb_W2 fr1 zr
     replace fr2:=bF hb_W2 fr2 zr
     replace fr3:=bF hb_W2 fr3 zr
     replace fr4:=bF hb_W2 fr4 zr
     replace zr:=Kbq zr hb_W2.size
     replace HB:=Q00 (HB.out.trans (hb_W2.mono HB.out.size))
     clear hb_W2
     have zs:v1.heap.size < W2.heap.size:=by rw [←hW2];simp
     have s0:W2.cell? ⟨v1.heap.size,0,none⟩=some (.bool q.u):=by rw [←hW2];simp [go_sem]
     have s1:W2.cell? ⟨v1.heap.size,1,none⟩=some (.int .i64 q.a):=by rw [←hW2];simp [go_sem]
     have s2:W2.cell? ⟨v1.heap.size,2,none⟩=some (.int .i64 q.p):=by rw [←hW2];simp [go_sem]
     have s3:W2.cell? ⟨v1.heap.size,3,none⟩=some (.int .i64 q.v):=by rw [←hW2];simp [go_sem]
     have s4:W2.cell? ⟨v1.heap.size,4,none⟩=some (.int .i64 q.t):=by rw [←hW2];simp [go_sem]
     have hlt':(nc:Int) < (m.c.length:Int):=by omega
     have hdr:=HDR.out
     have HCn:=Q00 (fun pp:Grown W2=> Q0j bc fc cc m.c pp.v (Kbq (Kbq zc HB.out.size) pp.b.size) ((HC.out.kept HB.out zc).kept pp.b (Kbq zc HB.out.size)) (by omega))
     rw [HNC.out] at HCn
     have GZ1:=Grown.cell z1 zz
     have GZ2:=Grown.cell z2 zz
     have GZ3:=Grown.cell z3 zz
     go_wp2
     (refine Q05 (by kernel_rfl) (by kernel_rfl) ?_;intro hne9;(repeat (go_big_quiet_step ((go_at_call 43;exact Q09 _ (HCn.out _)))));(with_reducible refine wpQuiet_nil ?_);intro _ hw9;obtain ⟨pq,hw8⟩:=hw9;subst hw8)
     obtain ⟨g2w,hg2w⟩:∃W,pq.v=W:=⟨_,rfl⟩
     have hb:=pq.b
     rw [hg2w] at hb ⊢
     clear GZ1 GZ2 GZ3 HCn
     replace z0:=bC hb z0 zz
     replace z1:=bC hb z1 zz
     replace z2:=bC hb z2 zz
     replace z3:=bC hb z3 zz
     replace z4:=bC hb z4 zz
     replace fz0:=bF hb fz0 zz
     replace fz1:=bF hb fz1 zz
     replace fz2:=bF hb fz2 zz
     replace fz3:=bF hb fz3 zz
     replace fz4:=bF hb fz4 zz
     replace zz:=Kbq zz hb.size
     replace k0:=bC hb k0 zk
     replace k1:=bC hb k1 zk
     replace k2:=bC hb k2 zk
     replace k3:=bC hb k3 zk
     replace k4:=bC hb k4 zk
     replace zk:=Kbq zk hb.size
     replace r0:=bC hb r0 zr
     replace r1:=bC hb r1 zr
     replace r2:=bC hb r2 zr
     replace r3:=bC hb r3 zr
     replace r4:=bC hb r4 zr
     replace fr0:=bF hb fr0 zr
     replace fr1:=bF hb fr1 zr
     replace fr2:=bF hb fr2 zr
     replace fr3:=bF hb fr3 zr
     replace fr4:=bF hb fr4 zr
     replace zr:=Kbq zr hb.size
     replace s0:=bC hb s0 zs
     replace s1:=bC hb s1 zs
     replace s2:=bC hb s2 zs
     replace s3:=bC hb s3 zs
     replace s4:=bC hb s4 zs
     replace zs:=Kbq zs hb.size
     replace HB:=Q00 (HB.out.trans (hb.mono HB.out.size))
     clear hb
     clear hg2w pq
     clear hlt' hdr
     have GZ1:=Grown.cell z1 zz
     have GZ3:=Grown.cell z3 zz
     have HCn:=Q00 (fun pp:Grown g2w=> Q0j bc fc cc m.c pp.v (Kbq (Kbq zc HB.out.size) pp.b.size) ((HC.out.kept HB.out zc).kept pp.b (Kbq zc HB.out.size)) (by omega))
     rw [HNC.out] at HCn
     go_wp2
     (refine Q05 (by kernel_rfl) (by kernel_rfl) ?_;intro hne9;(repeat (go_big_quiet_step ((go_at_call 43;exact Q09 _ (HCn.out _)))));(with_reducible refine wpQuiet_nil ?_);intro _ hw9;obtain ⟨pq,hw8⟩:=hw9;subst hw8)
     obtain ⟨g3w,hg3w⟩:∃W,pq.v=W:=⟨_,rfl⟩
     have hb:=pq.b
     rw [hg3w] at hb ⊢
     clear GZ1 GZ3 HCn
     replace z0:=bC hb z0 zz
     replace z1:=bC hb z1 zz
     replace z2:=bC hb z2 zz
     replace z3:=bC hb z3 zz
     replace z4:=bC hb z4 zz
     replace fz0:=bF hb fz0 zz
     replace fz1:=bF hb fz1 zz
     replace fz2:=bF hb fz2 zz
     replace fz3:=bF hb fz3 zz
     replace fz4:=bF hb fz4 zz
     replace zz:=Kbq zz hb.size
     replace k0:=bC hb k0 zk
     replace k1:=bC hb k1 zk
     replace k2:=bC hb k2 zk
     replace k3:=bC hb k3 zk
     replace k4:=bC hb k4 zk
     replace zk:=Kbq zk hb.size
     replace r0:=bC hb r0 zr
     replace r1:=bC hb r1 zr
     replace r2:=bC hb r2 zr
     replace r3:=bC hb r3 zr
     replace r4:=bC hb r4 zr
     replace fr0:=bF hb fr0 zr
     replace fr1:=bF hb fr1 zr
     replace fr2:=bF hb fr2 zr
     replace fr3:=bF hb fr3 zr
     replace fr4:=bF hb fr4 zr
     replace zr:=Kbq zr hb.size
     replace s0:=bC hb s0 zs
     replace s1:=bC hb s1 zs
     replace s2:=bC hb s2 zs
     replace s3:=bC hb s3 zs
     replace s4:=bC hb s4 zs
     replace zs:=Kbq zs hb.size
     replace HB:=Q00 (HB.out.trans (hb.mono HB.out.size))
     clear hb
     clear hg3w pq
     have hsc:=HB.out.size
     have hrz:=zr
     have H3:=Q00 (Q0X m bc fc cc bt ft ct now a p g3w hn0 hn1 hfl hc0 hc16 ht0 ht16 (by omega) (by omega) (HC.out.kept HB.out zc) (HT.out.kept HB.out zt))
     obtain ⟨tl,htl⟩:∃q,Q11 m.t a p 0 (now+20+1)=q:=⟨_,rfl⟩
     rw [htl] at H3 HTl
     have hpl:tl.length=m.t.length:=by rw [←htl];exact Q0p _ _ _ _ _
     by_cases hok:0≤(Q0m m.t a p).1
     ·rw [decide_eq_true hok] at H3
      rw [if_pos hok] at HVl
      clear htl hok
      go_wp2_with fail
      refine (H3.out).mono ?_
      rintro e v4 ⟨b3,f3,c3,rfl,hz3,hrd,hb,hq3⟩
      have HR:=Q00 hrd
      have hs3:=hb.size
      clear hrd H3
      replace z0:=bC hb z0 zz
      replace z1:=bC hb z1 zz
      replace z2:=bC hb z2 zz
      replace z3:=bC hb z3 zz
      replace z4:=bC hb z4 zz
      replace fz0:=bF hb fz0 zz
      replace fz1:=bF hb fz1 zz
      replace fz2:=bF hb fz2 zz
      replace fz3:=bF hb fz3 zz
      replace fz4:=bF hb fz4 zz
      replace zz:=Kbq zz hb.size
      replace k0:=bC hb k0 zk
      replace k1:=bC hb k1 zk
      replace k2:=bC hb k2 zk
      replace k3:=bC hb k3 zk
      replace k4:=bC hb k4 zk
      replace zk:=Kbq zk hb.size
      replace r0:=bC hb r0 zr
      replace r1:=bC hb r1 zr
      replace r2:=bC hb r2 zr
      replace r3:=bC hb r3 zr
      replace r4:=bC hb r4 zr
      replace fr0:=bF hb fr0 zr
      replace fr1:=bF hb fr1 zr
      replace fr2:=bF hb fr2 zr
      replace fr3:=bF hb fr3 zr
      replace fr4:=bF hb fr4 zr
      replace zr:=Kbq zr hb.size
      replace s0:=bC hb s0 zs
      replace s1:=bC hb s1 zs
      replace s2:=bC hb s2 zs
      replace s3:=bC hb s3 zs
      replace s4:=bC hb s4 zs
      replace zs:=Kbq zs hb.size
      replace HB:=Q00 (HB.out.trans (hb.mono HB.out.size))
      clear hb
      obtain ⟨Wx,hWx⟩:∃W,(v4.alloc (.cells #[.int .i64 m.id,.int .i64 m.lim,.bool m.dr,.slice (some ⟨bc,fc,none⟩) m.c.length cc,.slice (some ⟨b3,f3,none⟩) m.t.length c3] 27))=W:=⟨_,rfl⟩
      have hb_Wx:Below v4.heap.size v4 Wx:=by rw [←hWx];exact ((Below.refl _ _).alloc (Kaq _) _)
      replace z0:=bC hb_Wx z0 zz
      replace z1:=bC hb_Wx z1 zz
      replace z2:=bC hb_Wx z2 zz
      replace z3:=bC hb_Wx z3 zz
      replace z4:=bC hb_Wx z4 zz
      replace fz0:=bF hb_Wx fz0 zz
      replace fz1:=bF hb_Wx fz1 zz
      replace fz2:=bF hb_Wx fz2 zz
      replace fz3:=bF hb_Wx fz3 zz
      replace fz4:=bF hb_Wx fz4 zz
      replace zz:=Kbq zz hb_Wx.size
      replace k0:=bC hb_Wx k0 zk
      replace k1:=bC hb_Wx k1 zk
      replace k2:=bC hb_Wx k2 zk
      replace k3:=bC hb_Wx k3 zk
      replace k4:=bC hb_Wx k4 zk
      replace zk:=Kbq zk hb_Wx.size
      replace r0:=bC hb_Wx r0 zr
      replace r1:=bC hb_Wx r1 zr
      replace r2:=bC hb_Wx r2 zr
      replace r3:=bC hb_Wx r3 zr
      replace r4:=bC hb_Wx r4 zr
      replace fr0:=bF hb_Wx fr0 zr
      replace fr1:=bF hb_Wx fr1 zr
      replace fr2:=bF hb_Wx fr2 zr
      replace fr3:=bF hb_Wx fr3 zr
      replace fr4:=bF hb_Wx fr4 zr
      replace zr:=Kbq zr hb_Wx.size
      replace s0:=bC hb_Wx s0 zs
      replace s1:=bC hb_Wx s1 zs
      replace s2:=bC hb_Wx s2 zs
      replace s3:=bC hb_Wx s3 zs
      replace s4:=bC hb_Wx s4 zs
      replace zs:=Kbq zs hb_Wx.size
      replace HB:=Q00 (HB.out.trans (hb_Wx.mono HB.out.size))
      clear hb_Wx
      have zo:v4.heap.size < Wx.heap.size:=by rw [←hWx];simp
      have o0:Wx.cell? ⟨v4.heap.size,0,none⟩=some (.int .i64 m.id):=by rw [←hWx];simp [go_sem]
      have o1:Wx.cell? ⟨v4.heap.size,1,none⟩=some (.int .i64 m.lim):=by rw [←hWx];simp [go_sem]
      have o2:Wx.cell? ⟨v4.heap.size,2,none⟩=some (.bool m.dr):=by rw [←hWx];simp [go_sem]
      have o3:Wx.cell? ⟨v4.heap.size,3,none⟩=some (.slice (some ⟨bc,fc,none⟩) m.c.length cc):=by rw [←hWx];simp [go_sem]
      have o4:Wx.cell? ⟨v4.heap.size,4,none⟩=some (.slice (some ⟨b3,f3,none⟩) m.t.length c3):=by rw [←hWx];simp [go_sem]
      have hbx:=(show Below v4.heap.size v4 Wx by rw [←hWx];exact (Below.refl _ _).alloc (Kaq _) _)
      have hsx:=hbx.size
      have HRx:=Q00 (Row.kept HR.out hbx hz3)
      clear HR hbx
      have hne1:v4.heap.size≠w.heap.size+1+1:=by omega
      have hne2:w.heap.size+1+1≠v4.heap.size:=by omega
      go_wp2
      refine bodyPost_ret (v:=.tuple #[agt m.id m.lim m.dr (.slice (some ⟨bc,fc,none⟩) m.c.length cc) (.slice (some ⟨b3,f3,none⟩) m.t.length c3),.int .i64 2]) (by simp [results,Try.results93,go_sem,r0,r1,r2,r3,r4]) rfl ⟨bc,fc,cc,b3,f3,c3,by rw [HVl.out],by simp;omega,by simp;omega, ?_, ?_, ?_,by omega,by omega⟩
      ·rw [HCl.out]
       exact (HC.out.kept HB.out zc).step (Q04 Wx (w.heap.size+1+1) (.int .i64 m.id) (.int .i64 m.lim) (.bool m.dr) (.slice (some ⟨bc,fc,none⟩) m.c.length cc) (.slice (some ⟨b3,f3,none⟩) m.t.length c3)) (by have:=HB.out.size;omega) (.inl (by omega))
      ·rw [HTl.out]
       exact Row.step HRx.out (Q04 Wx (w.heap.size+1+1) (.int .i64 m.id) (.int .i64 m.lim) (.bool m.dr) (.slice (some ⟨bc,fc,none⟩) m.c.length cc) (.slice (some ⟨b3,f3,none⟩) m.t.length c3)) (by omega) (by omega)
      ·exact Q07 HB.out (by omega) _ _ _ _ _
     ·rw [decide_eq_false hok] at H3
      rw [if_neg hok] at HVl
      have htle:tl=m.t:=by rw [←htl];unfold Q11;rw [if_neg hok]
      rw [htle] at HTl
      clear htl hok
      go_wp2_with fail
      refine (H3.out).mono ?_
      rintro e v4 ⟨b3,f3,c3,rfl,hz3,hrd,hb,hq3⟩
      have HR:=Q00 hrd
      have hs3:=hb.size
      clear hrd H3
      replace z0:=bC hb z0 zz
      replace z1:=bC hb z1 zz
      replace z2:=bC hb z2 zz
      replace z3:=bC hb z3 zz
      replace z4:=bC hb z4 zz
      replace fz0:=bF hb fz0 zz
      replace fz1:=bF hb fz1 zz
      replace fz2:=bF hb fz2 zz
      replace fz3:=bF hb fz3 zz
      replace fz4:=bF hb fz4 zz
      replace zz:=Kbq zz hb.size
      replace k0:=bC hb k0 zk
      replace k1:=bC hb k1 zk
      replace k2:=bC hb k2 zk
      replace k3:=bC hb k3 zk
      replace k4:=bC hb k4 zk
      replace zk:=Kbq zk hb.size
      replace r0:=bC hb r0 zr
      replace r1:=bC hb r1 zr
      replace r2:=bC hb r2 zr
      replace r3:=bC hb r3 zr
      replace r4:=bC hb r4 zr
      replace fr0:=bF hb fr0 zr
      replace fr1:=bF hb fr1 zr
      replace fr2:=bF hb fr2 zr
      replace fr3:=bF hb fr3 zr
      replace fr4:=bF hb fr4 zr
      replace zr:=Kbq zr hb.size
      replace s0:=bC hb s0 zs
      replace s1:=bC hb s1 zs
      replace s2:=bC hb s2 zs
      replace s3:=bC hb s3 zs
      replace s4:=bC hb s4 zs
      replace zs:=Kbq zs hb.size
      replace HB:=Q00 (HB.out.trans (hb.mono HB.out.size))
      clear hb
      obtain ⟨Wx,hWx⟩:∃W,(v4.alloc (.cells #[.int .i64 m.id,.int .i64 m.lim,.bool m.dr,.slice (some ⟨bc,fc,none⟩) m.c.length cc,.slice (some ⟨b3,f3,none⟩) m.t.length c3] 27))=W:=⟨_,rfl⟩
      have hb_Wx:Below v4.heap.size v4 Wx:=by rw [←hWx];exact ((Below.refl _ _).alloc (Kaq _) _)
      replace z0:=bC hb_Wx z0 zz
      replace z1:=bC hb_Wx z1 zz
      replace z2:=bC hb_Wx z2 zz
      replace z3:=bC hb_Wx z3 zz
      replace z4:=bC hb_Wx z4 zz
      replace fz0:=bF hb_Wx fz0 zz
      replace fz1:=bF hb_Wx fz1 zz
      replace fz2:=bF hb_Wx fz2 zz
      replace fz3:=bF hb_Wx fz3 zz
      replace fz4:=bF hb_Wx fz4 zz
      replace zz:=Kbq zz hb_Wx.size
      replace k0:=bC hb_Wx k0 zk
      replace k1:=bC hb_Wx k1 zk
      replace k2:=bC hb_Wx k2 zk
      replace k3:=bC hb_Wx k3 zk
      replace k4:=bC hb_Wx k4 zk
      replace zk:=Kbq zk hb_Wx.size
      replace r0:=bC hb_Wx r0 zr
      replace r1:=bC hb_Wx r1 zr
      replace r2:=bC hb_Wx r2 zr
      replace r3:=bC hb_Wx r3 zr
      replace r4:=bC hb_Wx r4 zr
      replace fr0:=bF hb_Wx fr0 zr
      replace fr1:=bF hb_Wx fr1 zr
      replace fr2:=bF hb_Wx fr2 zr
      replace fr3:=bF hb_Wx fr3 zr
      replace fr4:=bF hb_Wx fr4 zr
      replace zr:=Kbq zr hb_Wx.size
      replace s0:=bC hb_Wx s0 zs
      replace s1:=bC hb_Wx s1 zs
      replace s2:=bC hb_Wx s2 zs
      replace s3:=bC hb_Wx s3 zs
      replace s4:=bC hb_Wx s4 zs
      replace zs:=Kbq zs hb_Wx.size
      replace HB:=Q00 (HB.out.trans (hb_Wx.mono HB.out.size))
      clear hb_Wx
      have zo:v4.heap.size < Wx.heap.size:=by rw [←hWx];simp
      have o0:Wx.cell? ⟨v4.heap.size,0,none⟩=some (.int .i64 m.id):=by rw [←hWx];simp [go_sem]
      have o1:Wx.cell? ⟨v4.heap.size,1,none⟩=some (.int .i64 m.lim):=by rw [←hWx];simp [go_sem]
      have o2:Wx.cell? ⟨v4.heap.size,2,none⟩=some (.bool m.dr):=by rw [←hWx];simp [go_sem]
      have o3:Wx.cell? ⟨v4.heap.size,3,none⟩=some (.slice (some ⟨bc,fc,none⟩) m.c.length cc):=by rw [←hWx];simp [go_sem]
      have o4:Wx.cell? ⟨v4.heap.size,4,none⟩=some (.slice (some ⟨b3,f3,none⟩) m.t.length c3):=by rw [←hWx];simp [go_sem]
      have hbx:=(show Below v4.heap.size v4 Wx by rw [←hWx];exact (Below.refl _ _).alloc (Kaq _) _)
      have hsx:=hbx.size
      have HRx:=Q00 (Row.kept HR.out hbx hz3)
      clear HR hbx
      have hne1:v4.heap.size≠w.heap.size+1+1:=by omega
      have hne2:w.heap.size+1+1≠v4.heap.size:=by omega
      go_wp2
      refine bodyPost_ret (v:=.tuple #[agt m.id m.lim m.dr (.slice (some ⟨bc,fc,none⟩) m.c.length cc) (.slice (some ⟨bt,ft,none⟩) m.t.length ct),.int .i64 5]) (by simp [results,Try.results93,go_sem,r0,r1,r2,r3,r4]) rfl ⟨bc,fc,cc,bt,ft,ct,by rw [HVl.out],by simp;omega,by simp;omega, ?_, ?_, ?_,by omega,by omega⟩
      ·rw [HCl.out]
       exact (HC.out.kept HB.out zc).step (Q04 Wx (w.heap.size+1+1) (.int .i64 m.id) (.int .i64 m.lim) (.bool m.dr) (.slice (some ⟨bc,fc,none⟩) m.c.length cc) (.slice (some ⟨bt,ft,none⟩) m.t.length ct)) (by have:=HB.out.size;omega) (.inl (by omega))
      ·rw [HTl.out]
       exact (HT.out.kept HB.out zt).step (Q04 Wx (w.heap.size+1+1) (.int .i64 m.id) (.int .i64 m.lim) (.bool m.dr) (.slice (some ⟨bc,fc,none⟩) m.c.length cc) (.slice (some ⟨bt,ft,none⟩) m.t.length ct)) (by have:=HB.out.size;omega) (.inl (by omega))
      ·exact Q07 HB.out (by omega) _ _ _ _ _
    |true=>
     have hG:Q19 m a p true=false:=by rw [HGd.out];simp [*]
     rw [hG] at HV HHC HHT
     have HVl:=Q00 (HV.out.trans ((if_neg (by decide)).trans (if_pos rfl)))
     have HCl:=Q00 (HHC.out.trans (if_neg (by decide)))
     have HTl:=Q00 (HHT.out.trans (if_pos (.inr rfl)))
     clear HV HHC HHT HGd hG
     have HDR:=Q00 hdr
     clear hdr
     go_enter Try.func93,Try.ntmps93
     go_wp2_with fail
     refine (H1.out).mono ?_
     rintro e v1 ⟨rfl,hb⟩
     clear H1
     replace z0:=bC hb z0 zz
     replace z1:=bC hb z1 zz
     replace z2:=bC hb z2 zz
     replace z3:=bC hb z3 zz
     replace z4:=bC hb z4 zz
     replace fz0:=bF hb fz0 zz
     replace fz1:=bF hb fz1 zz
     replace fz2:=bF hb fz2 zz
     replace fz3:=bF hb fz3 zz
     replace fz4:=bF hb fz4 zz
     replace zz:=Kbq zz hb.size
     replace k0:=bC hb k0 zk
     replace k1:=bC hb k1 zk
     replace k2:=bC hb k2 zk
     replace k3:=bC hb k3 zk
     replace k4:=bC hb k4 zk
     replace zk:=Kbq zk hb.size
     replace r0:=bC hb r0 zr
     replace r1:=bC hb r1 zr
     replace r2:=bC hb r2 zr
     replace r3:=bC hb r3 zr
     replace r4:=bC hb r4 zr
     replace fr0:=bF hb fr0 zr
     replace fr1:=bF hb fr1 zr
     replace fr2:=bF hb fr2 zr
     replace fr3:=bF hb fr3 zr
     replace fr4:=bF hb fr4 zr
     replace zr:=Kbq zr hb.size
     replace HB:=Q00 (HB.out.trans (hb.mono HB.out.size))
     clear hb
     obtain ⟨W2,hW2⟩:∃W,(v1.alloc (.cells #[.bool q.u,.int .i64 q.a,.int .i64 q.p,.int .i64 q.v,.int .i64 q.t] 84))=W:=⟨_,rfl⟩
     have hb_W2:Below v1.heap.size v1 W2:=by rw [←hW2];exact ((Below.refl _ _).alloc (Kaq _) _)
     replace z0:=bC hb_W2 z0 zz
     replace z1:=bC hb_W2 z1 zz
     replace z2:=bC hb_W2 z2 zz
     replace z3:=bC hb_W2 z3 zz
     replace z4:=bC hb_W2 z4 zz
     replace fz0:=bF hb_W2 fz0 zz
     replace fz1:=bF hb_W2 fz1 zz
     replace fz2:=bF hb_W2 fz2 zz
     replace fz3:=bF hb_W2 fz3 zz
     replace fz4:=bF hb_W2 fz4 zz
     replace zz:=Kbq zz hb_W2.size
     replace k0:=bC hb_W2 k0 zk
     replace k1:=bC hb_W2 k1 zk
     replace k2:=bC hb_W2 k2 zk
     replace k3:=bC hb_W2 k3 zk
     replace k4:=bC hb_W2 k4 zk
     replace zk:=Kbq zk hb_W2.size
     replace r0:=bC hb_W2 r0 zr
     replace r1:=bC hb_W2 r1 zr
     replace r2:=bC hb_W2 r2 zr
     replace r3:=bC hb_W2 r3 zr
     replace r4:=bC hb_W2 r4 zr
     replace fr0:=bF hb_W2 fr0 zr
     replace fr1:=bF hb_W2 fr1 zr
     replace fr2:=bF hb_W2 fr2 zr
     replace fr3:=bF hb_W2 fr3 zr
     replace fr4:=bF hb_W2 fr4 zr
     replace zr:=Kbq zr hb_W2.size
     replace HB:=Q00 (HB.out.trans (hb_W2.mono HB.out.size))
     clear hb_W2
     have zs:v1.heap.size < W2.heap.size:=by rw [←hW2];simp
     have s0:W2.cell? ⟨v1.heap.size,0,none⟩=some (.bool q.u):=by rw [←hW2];simp [go_sem]
     have s1:W2.cell? ⟨v1.heap.size,1,none⟩=some (.int .i64 q.a):=by rw [←hW2];simp [go_sem]
     have s2:W2.cell? ⟨v1.heap.size,2,none⟩=some (.int .i64 q.p):=by rw [←hW2];simp [go_sem]
     have s3:W2.cell? ⟨v1.heap.size,3,none⟩=some (.int .i64 q.v):=by rw [←hW2];simp [go_sem]
     have s4:W2.cell? ⟨v1.heap.size,4,none⟩=some (.int .i64 q.t):=by rw [←hW2];simp [go_sem]
     have hlt':(nc:Int) < (m.c.length:Int):=by omega
     have hdr:=HDR.out
     have HCn:=Q00 (fun pp:Grown W2=> Q0j bc fc cc m.c pp.v (Kbq (Kbq zc HB.out.size) pp.b.size) ((HC.out.kept HB.out zc).kept pp.b (Kbq zc HB.out.size)) (by omega))
     rw [HNC.out] at HCn
     have GZ1:=Grown.cell z1 zz
     have GZ2:=Grown.cell z2 zz
     have GZ3:=Grown.cell z3 zz
     go_wp2
     (refine Q05 (by kernel_rfl) (by kernel_rfl) ?_;intro hne9;(repeat (go_big_quiet_step ((go_at_call 43;exact Q09 _ (HCn.out _)))));(with_reducible refine wpQuiet_nil ?_);intro _ hw9;obtain ⟨pq,hw8⟩:=hw9;subst hw8)
     obtain ⟨g2w,hg2w⟩:∃W,pq.v=W:=⟨_,rfl⟩
     have hb:=pq.b
     rw [hg2w] at hb ⊢
     clear GZ1 GZ2 GZ3 HCn
     replace z0:=bC hb z0 zz
     replace z1:=bC hb z1 zz
     replace z2:=bC hb z2 zz
     replace z3:=bC hb z3 zz
     replace z4:=bC hb z4 zz
     replace fz0:=bF hb fz0 zz
     replace fz1:=bF hb fz1 zz
     replace fz2:=bF hb fz2 zz
     replace fz3:=bF hb fz3 zz
     replace fz4:=bF hb fz4 zz
     replace zz:=Kbq zz hb.size
     replace k0:=bC hb k0 zk
     replace k1:=bC hb k1 zk
     replace k2:=bC hb k2 zk
     replace k3:=bC hb k3 zk
     replace k4:=bC hb k4 zk
     replace zk:=Kbq zk hb.size
     replace r0:=bC hb r0 zr
     replace r1:=bC hb r1 zr
     replace r2:=bC hb r2 zr
     replace r3:=bC hb r3 zr
     replace r4:=bC hb r4 zr
     replace fr0:=bF hb fr0 zr
     replace fr1:=bF hb fr1 zr
     replace fr2:=bF hb fr2 zr
     replace fr3:=bF hb fr3 zr
     replace fr4:=bF hb fr4 zr
     replace zr:=Kbq zr hb.size
     replace s0:=bC hb s0 zs
     replace s1:=bC hb s1 zs
     replace s2:=bC hb s2 zs
     replace s3:=bC hb s3 zs
     replace s4:=bC hb s4 zs
     replace zs:=Kbq zs hb.size
     replace HB:=Q00 (HB.out.trans (hb.mono HB.out.size))
     clear hb
     clear hg2w pq
     clear hlt' hdr
     go_wp2
     refine bodyPost_ret (v:=.tuple #[agt m.id m.lim m.dr (.slice (some ⟨bc,fc,none⟩) m.c.length cc) (.slice (some ⟨bt,ft,none⟩) m.t.length ct),.int .i64 3]) (by simp [results,Try.results93,go_sem,r0,r1,r2,r3,r4]) rfl ⟨bc,fc,cc,bt,ft,ct,by rw [HVl.out],by simp;omega,by simp;omega, ?_, ?_, ?_,by omega,by omega⟩
     ·rw [HCl.out]
      exact (HC.out.kept HB.out zc).step (Q04 g2w (w.heap.size+1+1) (.int .i64 m.id) (.int .i64 m.lim) (.bool m.dr) (.slice (some ⟨bc,fc,none⟩) m.c.length cc) (.slice (some ⟨bt,ft,none⟩) m.t.length ct)) (by have:=HB.out.size;omega) (.inl (by omega))
     ·rw [HTl.out]
      exact (HT.out.kept HB.out zt).step (Q04 g2w (w.heap.size+1+1) (.int .i64 m.id) (.int .i64 m.lim) (.bool m.dr) (.slice (some ⟨bc,fc,none⟩) m.c.length cc) (.slice (some ⟨bt,ft,none⟩) m.t.length ct)) (by have:=HB.out.size;omega) (.inl (by omega))
     ·exact Q07 HB.out (by omega) _ _ _ _ _
   |true=>
    cases last with
    |false=>
     have hG:Q19 m a p false=false:=by rw [HGd.out];simp [*]
     rw [hG] at HV HHC HHT
     have HVl:=Q00 (HV.out.trans ((if_neg (by decide)).trans (if_neg (by decide))))
     have HCl:=Q00 (HHC.out.trans (if_neg (by decide)))
     have HTl:=Q00 (HHT.out.trans (if_neg (by simp)))
     clear HV HHC HHT HGd hG
     have HDR:=Q00 hdr
     clear hdr
     go_enter Try.func93,Try.ntmps93
     go_wp2_with fail
     refine (H1.out).mono ?_
     rintro e v1 ⟨rfl,hb⟩
     clear H1
     replace z0:=bC hb z0 zz
     replace z1:=bC hb z1 zz
     replace z2:=bC hb z2 zz
     replace z3:=bC hb z3 zz
     replace z4:=bC hb z4 zz
     replace fz0:=bF hb fz0 zz
     replace fz1:=bF hb fz1 zz
     replace fz2:=bF hb fz2 zz
     replace fz3:=bF hb fz3 zz
     replace fz4:=bF hb fz4 zz
     replace zz:=Kbq zz hb.size
     replace k0:=bC hb k0 zk
     replace k1:=bC hb k1 zk
     replace k2:=bC hb k2 zk
     replace k3:=bC hb k3 zk
     replace k4:=bC hb k4 zk
     replace zk:=Kbq zk hb.size
     replace r0:=bC hb r0 zr
     replace r1:=bC hb r1 zr
     replace r2:=bC hb r2 zr
     replace r3:=bC hb r3 zr
     replace r4:=bC hb r4 zr
     replace fr0:=bF hb fr0 zr
     replace fr1:=bF hb fr1 zr
     replace fr2:=bF hb fr2 zr
     replace fr3:=bF hb fr3 zr
     replace fr4:=bF hb fr4 zr
     replace zr:=Kbq zr hb.size
     replace HB:=Q00 (HB.out.trans (hb.mono HB.out.size))
     clear hb
     obtain ⟨W2,hW2⟩:∃W,(v1.alloc (.cells #[.bool q.u,.int .i64 q.a,.int .i64 q.p,.int .i64 q.v,.int .i64 q.t] 84))=W:=⟨_,rfl⟩
     have hb_W2:Below v1.heap.size v1 W2:=by rw [←hW2];exact ((Below.refl _ _).alloc (Kaq _) _)
     replace z0:=bC hb_W2 z0 zz
     replace z1:=bC hb_W2 z1 zz
     replace z2:=bC hb_W2 z2 zz
     replace z3:=bC hb_W2 z3 zz
     replace z4:=bC hb_W2 z4 zz
     replace fz0:=bF hb_W2 fz0 zz
     replace fz1:=bF hb_W2 fz1 zz
     replace fz2:=bF hb_W2 fz2 zz
     replace fz3:=bF hb_W2 fz3 zz
     replace fz4:=bF hb_W2 fz4 zz
     replace zz:=Kbq zz hb_W2.size
     replace k0:=bC hb_W2 k0 zk
     replace k1:=bC hb_W2 k1 zk
     replace k2:=bC hb_W2 k2 zk
     replace k3:=bC hb_W2 k3 zk
     replace k4:=bC hb_W2 k4 zk
     replace zk:=Kbq zk hb_W2.size
     replace r0:=bC hb_W2 r0 zr
     replace r1:=bC hb_W2 r1 zr
     replace r2:=bC hb_W2 r2 zr
     replace r3:=bC hb_W2 r3 zr
     replace r4:=bC hb_W2 r4 zr
     replace fr0:=bF hb_W2 fr0 zr
     replace fr1:=bF hb_W2 fr1 zr
     replace fr2:=bF hb_W2 fr2 zr
     replace fr3:=bF hb_W2 fr3 zr
     replace fr4:=bF hb_W2 fr4 zr
     replace zr:=Kbq zr hb_W2.size
     replace HB:=Q00 (HB.out.trans (hb_W2.mono HB.out.size))
     clear hb_W2
     have zs:v1.heap.size < W2.heap.size:=by rw [←hW2];simp
     have s0:W2.cell? ⟨v1.heap.size,0,none⟩=some (.bool q.u):=by rw [←hW2];simp [go_sem]
     have s1:W2.cell? ⟨v1.heap.size,1,none⟩=some (.int .i64 q.a):=by rw [←hW2];simp [go_sem]
     have s2:W2.cell? ⟨v1.heap.size,2,none⟩=some (.int .i64 q.p):=by rw [←hW2];simp [go_sem]
     have s3:W2.cell? ⟨v1.heap.size,3,none⟩=some (.int .i64 q.v):=by rw [←hW2];simp [go_sem]
     have s4:W2.cell? ⟨v1.heap.size,4,none⟩=some (.int .i64 q.t):=by rw [←hW2];simp [go_sem]
     have hlt':(nc:Int) < (m.c.length:Int):=by omega
     have hdr:=HDR.out
     have HCn:=Q00 (fun pp:Grown W2=> Q0j bc fc cc m.c pp.v (Kbq (Kbq zc HB.out.size) pp.b.size) ((HC.out.kept HB.out zc).kept pp.b (Kbq zc HB.out.size)) (by omega))
     rw [HNC.out] at HCn
     have GZ1:=Grown.cell z1 zz
     have GZ2:=Grown.cell z2 zz
     have GZ3:=Grown.cell z3 zz
     go_wp2
     (refine Q05 (by kernel_rfl) (by kernel_rfl) ?_;intro hne9;(repeat (go_big_quiet_step ((go_at_call 43;exact Q09 _ (HCn.out _)))));(with_reducible refine wpQuiet_nil ?_);intro _ hw9;obtain ⟨pq,hw8⟩:=hw9;subst hw8)
     obtain ⟨g2w,hg2w⟩:∃W,pq.v=W:=⟨_,rfl⟩
     have hb:=pq.b
     rw [hg2w] at hb ⊢
     clear GZ1 GZ2 GZ3 HCn
     replace z0:=bC hb z0 zz
     replace z1:=bC hb z1 zz
     replace z2:=bC hb z2 zz
     replace z3:=bC hb z3 zz
     replace z4:=bC hb z4 zz
     replace fz0:=bF hb fz0 zz
     replace fz1:=bF hb fz1 zz
     replace fz2:=bF hb fz2 zz
     replace fz3:=bF hb fz3 zz
     replace fz4:=bF hb fz4 zz
     replace zz:=Kbq zz hb.size
     replace k0:=bC hb k0 zk
     replace k1:=bC hb k1 zk
     replace k2:=bC hb k2 zk
     replace k3:=bC hb k3 zk
     replace k4:=bC hb k4 zk
     replace zk:=Kbq zk hb.size
     replace r0:=bC hb r0 zr
     replace r1:=bC hb r1 zr
     replace r2:=bC hb r2 zr
     replace r3:=bC hb r3 zr
     replace r4:=bC hb r4 zr
     replace fr0:=bF hb fr0 zr
     replace fr1:=bF hb fr1 zr
     replace fr2:=bF hb fr2 zr
     replace fr3:=bF hb fr3 zr
     replace fr4:=bF hb fr4 zr
     replace zr:=Kbq zr hb.size
     replace s0:=bC hb s0 zs
     replace s1:=bC hb s1 zs
     replace s2:=bC hb s2 zs
     replace s3:=bC hb s3 zs
     replace s4:=bC hb s4 zs
     replace zs:=Kbq zs hb.size
     replace HB:=Q00 (HB.out.trans (hb.mono HB.out.size))
     clear hb
     clear hg2w pq
     clear hlt' hdr
     have GZ1:=Grown.cell z1 zz
     have GZ3:=Grown.cell z3 zz
     have HCn:=Q00 (fun pp:Grown g2w=> Q0j bc fc cc m.c pp.v (Kbq (Kbq zc HB.out.size) pp.b.size) ((HC.out.kept HB.out zc).kept pp.b (Kbq zc HB.out.size)) (by omega))
     rw [HNC.out] at HCn
     go_wp2
     (refine Q05 (by kernel_rfl) (by kernel_rfl) ?_;intro hne9;(repeat (go_big_quiet_step ((go_at_call 43;exact Q09 _ (HCn.out _)))));(with_reducible refine wpQuiet_nil ?_);intro _ hw9;obtain ⟨pq,hw8⟩:=hw9;subst hw8)
     obtain ⟨g3w,hg3w⟩:∃W,pq.v=W:=⟨_,rfl⟩
     have hb:=pq.b
     rw [hg3w] at hb ⊢
     clear GZ1 GZ3 HCn
     replace z0:=bC hb z0 zz
     replace z1:=bC hb z1 zz
     replace z2:=bC hb z2 zz
     replace z3:=bC hb z3 zz
     replace z4:=bC hb z4 zz
     replace fz0:=bF hb fz0 zz
     replace fz1:=bF hb fz1 zz
     replace fz2:=bF hb fz2 zz
     replace fz3:=bF hb fz3 zz
     replace fz4:=bF hb fz4 zz
     replace zz:=Kbq zz hb.size
     replace k0:=bC hb k0 zk
     replace k1:=bC hb k1 zk
     replace k2:=bC hb k2 zk
     replace k3:=bC hb k3 zk
     replace k4:=bC hb k4 zk
     replace zk:=Kbq zk hb.size
     replace r0:=bC hb r0 zr
     replace r1:=bC hb r1 zr
     replace r2:=bC hb r2 zr
     replace r3:=bC hb r3 zr
     replace r4:=bC hb r4 zr
     replace fr0:=bF hb fr0 zr
     replace fr1:=bF hb fr1 zr
     replace fr2:=bF hb fr2 zr
     replace fr3:=bF hb fr3 zr
     replace fr4:=bF hb fr4 zr
     replace zr:=Kbq zr hb.size
     replace s0:=bC hb s0 zs
     replace s1:=bC hb s1 zs
     replace s2:=bC hb s2 zs
     replace s3:=bC hb s3 zs
     replace s4:=bC hb s4 zs
     replace zs:=Kbq zs hb.size
     replace HB:=Q00 (HB.out.trans (hb.mono HB.out.size))
     clear hb
     clear hg3w pq
     have hsc:=HB.out.size
     have hrz:=zr
     have H3:=Q00 (Q0X m bc fc cc bt ft ct now a p g3w hn0 hn1 hfl hc0 hc16 ht0 ht16 (by omega) (by omega) (HC.out.kept HB.out zc) (HT.out.kept HB.out zt))
     obtain ⟨tl,htl⟩:∃q,Q11 m.t a p 0 (now+20+1)=q:=⟨_,rfl⟩
     rw [htl] at H3 HTl
     have hpl:tl.length=m.t.length:=by rw [←htl];exact Q0p _ _ _ _ _
     by_cases hok:0≤(Q0m m.t a p).1
     ·rw [decide_eq_true hok] at H3
      rw [if_pos hok] at HVl
      clear htl hok
      go_wp2_with fail
      refine (H3.out).mono ?_
      rintro e v4 ⟨b3,f3,c3,rfl,hz3,hrd,hb,hq3⟩
      have HR:=Q00 hrd
      have hs3:=hb.size
      clear hrd H3
      replace z0:=bC hb z0 zz
      replace z1:=bC hb z1 zz
      replace z2:=bC hb z2 zz
      replace z3:=bC hb z3 zz
      replace z4:=bC hb z4 zz
      replace fz0:=bF hb fz0 zz
      replace fz1:=bF hb fz1 zz
      replace fz2:=bF hb fz2 zz
      replace fz3:=bF hb fz3 zz
      replace fz4:=bF hb fz4 zz
      replace zz:=Kbq zz hb.size
      replace k0:=bC hb k0 zk
      replace k1:=bC hb k1 zk
      replace k2:=bC hb k2 zk
      replace k3:=bC hb k3 zk
      replace k4:=bC hb k4 zk
      replace zk:=Kbq zk hb.size
      replace r0:=bC hb r0 zr
      replace r1:=bC hb r1 zr
      replace r2:=bC hb r2 zr
      replace r3:=bC hb r3 zr
      replace r4:=bC hb r4 zr
      replace fr0:=bF hb fr0 zr
      replace fr1:=bF hb fr1 zr
      replace fr2:=bF hb fr2 zr
      replace fr3:=bF hb fr3 zr
      replace fr4:=bF hb fr4 zr
      replace zr:=Kbq zr hb.size
      replace s0:=bC hb s0 zs
      replace s1:=bC hb s1 zs
      replace s2:=bC hb s2 zs
      replace s3:=bC hb s3 zs
      replace s4:=bC hb s4 zs
      replace zs:=Kbq zs hb.size
      replace HB:=Q00 (HB.out.trans (hb.mono HB.out.size))
      clear hb
      obtain ⟨Wx,hWx⟩:∃W,(v4.alloc (.cells #[.int .i64 m.id,.int .i64 m.lim,.bool m.dr,.slice (some ⟨bc,fc,none⟩) m.c.length cc,.slice (some ⟨b3,f3,none⟩) m.t.length c3] 27))=W:=⟨_,rfl⟩
      have hb_Wx:Below v4.heap.size v4 Wx:=by rw [←hWx];exact ((Below.refl _ _).alloc (Kaq _) _)
      replace z0:=bC hb_Wx z0 zz
      replace z1:=bC hb_Wx z1 zz
      replace z2:=bC hb_Wx z2 zz
      replace z3:=bC hb_Wx z3 zz
      replace z4:=bC hb_Wx z4 zz
      replace fz0:=bF hb_Wx fz0 zz
      replace fz1:=bF hb_Wx fz1 zz
      replace fz2:=bF hb_Wx fz2 zz
      replace fz3:=bF hb_Wx fz3 zz
      replace fz4:=bF hb_Wx fz4 zz
      replace zz:=Kbq zz hb_Wx.size
      replace k0:=bC hb_Wx k0 zk
      replace k1:=bC hb_Wx k1 zk
      replace k2:=bC hb_Wx k2 zk
      replace k3:=bC hb_Wx k3 zk
      replace k4:=bC hb_Wx k4 zk
      replace zk:=Kbq zk hb_Wx.size
      replace r0:=bC hb_Wx r0 zr
      replace r1:=bC hb_Wx r1 zr
      replace r2:=bC hb_Wx r2 zr
      replace r3:=bC hb_Wx r3 zr
      replace r4:=bC hb_Wx r4 zr
      replace fr0:=bF hb_Wx fr0 zr
      replace fr1:=bF hb_Wx fr1 zr
      replace fr2:=bF hb_Wx fr2 zr
      replace fr3:=bF hb_Wx fr3 zr
      replace fr4:=bF hb_Wx fr4 zr
      replace zr:=Kbq zr hb_Wx.size
      replace s0:=bC hb_Wx s0 zs
      replace s1:=bC hb_Wx s1 zs
      replace s2:=bC hb_Wx s2 zs
      replace s3:=bC hb_Wx s3 zs
      replace s4:=bC hb_Wx s4 zs
      replace zs:=Kbq zs hb_Wx.size
      replace HB:=Q00 (HB.out.trans (hb_Wx.mono HB.out.size))
      clear hb_Wx
      have zo:v4.heap.size < Wx.heap.size:=by rw [←hWx];simp
      have o0:Wx.cell? ⟨v4.heap.size,0,none⟩=some (.int .i64 m.id):=by rw [←hWx];simp [go_sem]
      have o1:Wx.cell? ⟨v4.heap.size,1,none⟩=some (.int .i64 m.lim):=by rw [←hWx];simp [go_sem]
      have o2:Wx.cell? ⟨v4.heap.size,2,none⟩=some (.bool m.dr):=by rw [←hWx];simp [go_sem]
      have o3:Wx.cell? ⟨v4.heap.size,3,none⟩=some (.slice (some ⟨bc,fc,none⟩) m.c.length cc):=by rw [←hWx];simp [go_sem]
      have o4:Wx.cell? ⟨v4.heap.size,4,none⟩=some (.slice (some ⟨b3,f3,none⟩) m.t.length c3):=by rw [←hWx];simp [go_sem]
      have hbx:=(show Below v4.heap.size v4 Wx by rw [←hWx];exact (Below.refl _ _).alloc (Kaq _) _)
      have hsx:=hbx.size
      have HRx:=Q00 (Row.kept HR.out hbx hz3)
      clear HR hbx
      have hne1:v4.heap.size≠w.heap.size+1+1:=by omega
      have hne2:w.heap.size+1+1≠v4.heap.size:=by omega
      go_wp2
      refine bodyPost_ret (v:=.tuple #[agt m.id m.lim m.dr (.slice (some ⟨bc,fc,none⟩) m.c.length cc) (.slice (some ⟨b3,f3,none⟩) m.t.length c3),.int .i64 2]) (by simp [results,Try.results93,go_sem,r0,r1,r2,r3,r4]) rfl ⟨bc,fc,cc,b3,f3,c3,by rw [HVl.out],by simp;omega,by simp;omega, ?_, ?_, ?_,by omega,by omega⟩
      ·rw [HCl.out]
       exact (HC.out.kept HB.out zc).step (Q04 Wx (w.heap.size+1+1) (.int .i64 m.id) (.int .i64 m.lim) (.bool m.dr) (.slice (some ⟨bc,fc,none⟩) m.c.length cc) (.slice (some ⟨b3,f3,none⟩) m.t.length c3)) (by have:=HB.out.size;omega) (.inl (by omega))
      ·rw [HTl.out]
       exact Row.step HRx.out (Q04 Wx (w.heap.size+1+1) (.int .i64 m.id) (.int .i64 m.lim) (.bool m.dr) (.slice (some ⟨bc,fc,none⟩) m.c.length cc) (.slice (some ⟨b3,f3,none⟩) m.t.length c3)) (by omega) (by omega)
      ·exact Q07 HB.out (by omega) _ _ _ _ _
     ·rw [decide_eq_false hok] at H3
      rw [if_neg hok] at HVl
      have htle:tl=m.t:=by rw [←htl];unfold Q11;rw [if_neg hok]
      rw [htle] at HTl
      clear htl hok
      go_wp2_with fail
      refine (H3.out).mono ?_
      rintro e v4 ⟨b3,f3,c3,rfl,hz3,hrd,hb,hq3⟩
      have HR:=Q00 hrd
      have hs3:=hb.size
      clear hrd H3
      replace z0:=bC hb z0 zz
      replace z1:=bC hb z1 zz
      replace z2:=bC hb z2 zz
      replace z3:=bC hb z3 zz
      replace z4:=bC hb z4 zz
      replace fz0:=bF hb fz0 zz
      replace fz1:=bF hb fz1 zz
      replace fz2:=bF hb fz2 zz
      replace fz3:=bF hb fz3 zz
      replace fz4:=bF hb fz4 zz
      replace zz:=Kbq zz hb.size
      replace k0:=bC hb k0 zk
      replace k1:=bC hb k1 zk
      replace k2:=bC hb k2 zk
      replace k3:=bC hb k3 zk
      replace k4:=bC hb k4 zk
      replace zk:=Kbq zk hb.size
      replace r0:=bC hb r0 zr
      replace r1:=bC hb r1 zr
      replace r2:=bC hb r2 zr
      replace r3:=bC hb r3 zr
      replace r4:=bC hb r4 zr
      replace fr0:=bF hb fr0 zr
      replace fr1:=bF hb fr1 zr
      replace fr2:=bF hb fr2 zr
      replace fr3:=bF hb fr3 zr
      replace fr4:=bF hb fr4 zr
      replace zr:=Kbq zr hb.size
      replace s0:=bC hb s0 zs
      replace s1:=bC hb s1 zs
      replace s2:=bC hb s2 zs
      replace s3:=bC hb s3 zs
      replace s4:=bC hb s4 zs
      replace zs:=Kbq zs hb.size
      replace HB:=Q00 (HB.out.trans (hb.mono HB.out.size))
      clear hb
      obtain ⟨Wx,hWx⟩:∃W,(v4.alloc (.cells #[.int .i64 m.id,.int .i64 m.lim,.bool m.dr,.slice (some ⟨bc,fc,none⟩) m.c.length cc,.slice (some ⟨b3,f3,none⟩) m.t.length c3] 27))=W:=⟨_,rfl⟩
      have hb_Wx:Below v4.heap.size v4 Wx:=by rw [←hWx];exact ((Below.refl _ _).alloc (Kaq _) _)
      replace z0:=bC hb_Wx z0 zz
      replace z1:=bC hb_Wx z1 zz
      replace z2:=bC hb_Wx z2 zz
      replace z3:=bC hb_Wx z3 zz
      replace z4:=bC hb_Wx z4 zz
      replace fz0:=bF hb_Wx fz0 zz
      replace fz1:=bF hb_Wx fz1 zz
      replace fz2:=bF hb_Wx fz2 zz
      replace fz3:=bF hb_Wx fz3 zz
      replace fz4:=bF hb_Wx fz4 zz
      replace zz:=Kbq zz hb_Wx.size
      replace k0:=bC hb_Wx k0 zk
      replace k1:=bC hb_Wx k1 zk
      replace k2:=bC hb_Wx k2 zk
      replace k3:=bC hb_Wx k3 zk
      replace k4:=bC hb_Wx k4 zk
      replace zk:=Kbq zk hb_Wx.size
      replace r0:=bC hb_Wx r0 zr
      replace r1:=bC hb_Wx r1 zr
      replace r2:=bC hb_Wx r2 zr
      replace r3:=bC hb_Wx r3 zr
      replace r4:=bC hb_Wx r4 zr
      replace fr0:=bF hb_Wx fr0 zr
      replace fr1:=bF hb_Wx fr1 zr
      replace fr2:=bF hb_Wx fr2 zr
      replace fr3:=bF hb_Wx fr3 zr
      replace fr4:=bF hb_Wx fr4 zr
      replace zr:=Kbq zr hb_Wx.size
      replace s0:=bC hb_Wx s0 zs
      replace s1:=bC hb_Wx s1 zs
      replace s2:=bC hb_Wx s2 zs
      replace s3:=bC hb_Wx s3 zs
      replace s4:=bC hb_Wx s4 zs
      replace zs:=Kbq zs hb_Wx.size
      replace HB:=Q00 (HB.out.trans (hb_Wx.mono HB.out.size))
      clear hb_Wx
      have zo:v4.heap.size < Wx.heap.size:=by rw [←hWx];simp
      have o0:Wx.cell? ⟨v4.heap.size,0,none⟩=some (.int .i64 m.id):=by rw [←hWx];simp [go_sem]
      have o1:Wx.cell? ⟨v4.heap.size,1,none⟩=some (.int .i64 m.lim):=by rw [←hWx];simp [go_sem]
      have o2:Wx.cell? ⟨v4.heap.size,2,none⟩=some (.bool m.dr):=by rw [←hWx];simp [go_sem]
      have o3:Wx.cell? ⟨v4.heap.size,3,none⟩=some (.slice (some ⟨bc,fc,none⟩) m.c.length cc):=by rw [←hWx];simp [go_sem]
      have o4:Wx.cell? ⟨v4.heap.size,4,none⟩=some (.slice (some ⟨b3,f3,none⟩) m.t.length c3):=by rw [←hWx];simp [go_sem]
      have hbx:=(show Below v4.heap.size v4 Wx by rw [←hWx];exact (Below.refl _ _).alloc (Kaq _) _)
      have hsx:=hbx.size
      have HRx:=Q00 (Row.kept HR.out hbx hz3)
      clear HR hbx
      have hne1:v4.heap.size≠w.heap.size+1+1:=by omega
      have hne2:w.heap.size+1+1≠v4.heap.size:=by omega
      go_wp2
      refine bodyPost_ret (v:=.tuple #[agt m.id m.lim m.dr (.slice (some ⟨bc,fc,none⟩) m.c.length cc) (.slice (some ⟨bt,ft,none⟩) m.t.length ct),.int .i64 5]) (by simp [results,Try.results93,go_sem,r0,r1,r2,r3,r4]) rfl ⟨bc,fc,cc,bt,ft,ct,by rw [HVl.out],by simp;omega,by simp;omega, ?_, ?_, ?_,by omega,by omega⟩
      ·rw [HCl.out]
       exact (HC.out.kept HB.out zc).step (Q04 Wx (w.heap.size+1+1) (.int .i64 m.id) (.int .i64 m.lim) (.bool m.dr) (.slice (some ⟨bc,fc,none⟩) m.c.length cc) (.slice (some ⟨bt,ft,none⟩) m.t.length ct)) (by have:=HB.out.size;omega) (.inl (by omega))
      ·rw [HTl.out]
       exact (HT.out.kept HB.out zt).step (Q04 Wx (w.heap.size+1+1) (.int .i64 m.id) (.int .i64 m.lim) (.bool m.dr) (.slice (some ⟨bc,fc,none⟩) m.c.length cc) (.slice (some ⟨bt,ft,none⟩) m.t.length ct)) (by have:=HB.out.size;omega) (.inl (by omega))
      ·exact Q07 HB.out (by omega) _ _ _ _ _
    |true=>
     have hG:Q19 m a p true=false:=by rw [HGd.out];simp [*]
     rw [hG] at HV HHC HHT
     have HVl:=Q00 (HV.out.trans ((if_neg (by decide)).trans (if_pos rfl)))
     have HCl:=Q00 (HHC.out.trans (if_neg (by decide)))
     have HTl:=Q00 (HHT.out.trans (if_pos (.inr rfl)))
     clear HV HHC HHT HGd hG
     have HDR:=Q00 hdr
     clear hdr
     go_enter Try.func93,Try.ntmps93
     go_wp2_with fail
     refine (H1.out).mono ?_
     rintro e v1 ⟨rfl,hb⟩
     clear H1
     replace z0:=bC hb z0 zz
     replace z1:=bC hb z1 zz
     replace z2:=bC hb z2 zz
     replace z3:=bC hb z3 zz
     replace z4:=bC hb z4 zz
     replace fz0:=bF hb fz0 zz
     replace fz1:=bF hb fz1 zz
     replace fz2:=bF hb fz2 zz
     replace fz3:=bF hb fz3 zz
     replace fz4:=bF hb fz4 zz
     replace zz:=Kbq zz hb.size
     replace k0:=bC hb k0 zk
     replace k1:=bC hb k1 zk
     replace k2:=bC hb k2 zk
     replace k3:=bC hb k3 zk
     replace k4:=bC hb k4 zk
     replace zk:=Kbq zk hb.size
     replace r0:=bC hb r0 zr
     replace r1:=bC hb r1 zr
     replace r2:=bC hb r2 zr
     replace r3:=bC hb r3 zr
     replace r4:=bC hb r4 zr
     replace fr0:=bF hb fr0 zr
     replace fr1:=bF hb fr1 zr
     replace fr2:=bF hb fr2 zr
     replace fr3:=bF hb fr3 zr
     replace fr4:=bF hb fr4 zr
     replace zr:=Kbq zr hb.size
     replace HB:=Q00 (HB.out.trans (hb.mono HB.out.size))
     clear hb
     obtain ⟨W2,hW2⟩:∃W,(v1.alloc (.cells #[.bool q.u,.int .i64 q.a,.int .i64 q.p,.int .i64 q.v,.int .i64 q.t] 84))=W:=⟨_,rfl⟩
     have hb_W2:Below v1.heap.size v1 W2:=by rw [←hW2];exact ((Below.refl _ _).alloc (Kaq _) _)
     replace z0:=bC hb_W2 z0 zz
     replace z1:=bC hb_W2 z1 zz
     replace z2:=bC hb_W2 z2 zz
     replace z3:=bC hb_W2 z3 zz
     replace z4:=bC hb_W2 z4 zz
     replace fz0:=bF hb_W2 fz0 zz
     replace fz1:=bF hb_W2 fz1 zz
     replace fz2:=bF hb_W2 fz2 zz
     replace fz3:=bF hb_W2 fz3 zz
     replace fz4:=bF hb_W2 fz4 zz
     replace zz:=Kbq zz hb_W2.size
     replace k0:=bC hb_W2 k0 zk
     replace k1:=bC hb_W2 k1 zk
     replace k2:=bC hb_W2 k2 zk
     replace k3:=bC hb_W2 k3 zk
     replace k4:=bC hb_W2 k4 zk
     replace zk:=Kbq zk hb_W2.size
     replace r0:=bC hb_W2 r0 zr
     replace r1:=bC hb_W2 r1 zr
     replace r2:=bC hb_W2 r2 zr
     replace r3:=bC hb_W2 r3 zr
     replace r4:=bC hb_W2 r4 zr
     replace fr0:=bF hb_W2 fr0 zr
     replace fr1:=bF hb_W2 fr1 zr
     replace fr2:=bF hb_W2 fr2 zr
     replace fr3:=bF hb_W2 fr3 zr
     replace fr4:=bF hb_W2 fr4 zr
     replace zr:=Kbq zr hb_W2.size
     replace HB:=Q00 (HB.out.trans (hb_W2.mono HB.out.size))
     clear hb_W2
     have zs:v1.heap.size < W2.heap.size:=by rw [←hW2];simp
     have s0:W2.cell? ⟨v1.heap.size,0,none⟩=some (.bool q.u):=by rw [←hW2];simp [go_sem]
     have s1:W2.cell? ⟨v1.heap.size,1,none⟩=some (.int .i64 q.a):=by rw [←hW2];simp [go_sem]
     have s2:W2.cell? ⟨v1.heap.size,2,none⟩=some (.int .i64 q.p):=by rw [←hW2];simp [go_sem]
     have s3:W2.cell? ⟨v1.heap.size,3,none⟩=some (.int .i64 q.v):=by rw [←hW2];simp [go_sem]
     have s4:W2.cell? ⟨v1.heap.size,4,none⟩=some (.int .i64 q.t):=by rw [←hW2];simp [go_sem]
     have hlt':(nc:Int) < (m.c.length:Int):=by omega
     have hdr:=HDR.out
     have HCn:=Q00 (fun pp:Grown W2=> Q0j bc fc cc m.c pp.v (Kbq (Kbq zc HB.out.size) pp.b.size) ((HC.out.kept HB.out zc).kept pp.b (Kbq zc HB.out.size)) (by omega))
     rw [HNC.out] at HCn
     have GZ1:=Grown.cell z1 zz
     have GZ2:=Grown.cell z2 zz
     have GZ3:=Grown.cell z3 zz
     go_wp2
     (refine Q05 (by kernel_rfl) (by kernel_rfl) ?_;intro hne9;(repeat (go_big_quiet_step ((go_at_call 43;exact Q09 _ (HCn.out _)))));(with_reducible refine wpQuiet_nil ?_);intro _ hw9;obtain ⟨pq,hw8⟩:=hw9;subst hw8)
     obtain ⟨g2w,hg2w⟩:∃W,pq.v=W:=⟨_,rfl⟩
     have hb:=pq.b
     rw [hg2w] at hb ⊢
     clear GZ1 GZ2 GZ3 HCn
     replace z0:=bC hb z0 zz
     replace z1:=bC hb z1 zz
     replace z2:=bC hb z2 zz
     replace z3:=bC hb z3 zz
     replace z4:=bC hb z4 zz
     replace fz0:=bF hb fz0 zz
     replace fz1:=bF hb fz1 zz
     replace fz2:=bF hb fz2 zz
     replace fz3:=bF hb fz3 zz
     replace fz4:=bF hb fz4 zz
     replace zz:=Kbq zz hb.size
     replace k0:=bC hb k0 zk
     replace k1:=bC hb k1 zk
     replace k2:=bC hb k2 zk
     replace k3:=bC hb k3 zk
     replace k4:=bC hb k4 zk
     replace zk:=Kbq zk hb.size
     replace r0:=bC hb r0 zr
     replace r1:=bC hb r1 zr
     replace r2:=bC hb r2 zr
     replace r3:=bC hb r3 zr
     replace r4:=bC hb r4 zr
     replace fr0:=bF hb fr0 zr
     replace fr1:=bF hb fr1 zr
     replace fr2:=bF hb fr2 zr
     replace fr3:=bF hb fr3 zr
     replace fr4:=bF hb fr4 zr
     replace zr:=Kbq zr hb.size
     replace s0:=bC hb s0 zs
     replace s1:=bC hb s1 zs
     replace s2:=bC hb s2 zs
     replace s3:=bC hb s3 zs
     replace s4:=bC hb s4 zs
     replace zs:=Kbq zs hb.size
     replace HB:=Q00 (HB.out.trans (hb.mono HB.out.size))
     clear hb
     clear hg2w pq
     clear hlt' hdr
     go_wp2
     refine bodyPost_ret (v:=.tuple #[agt m.id m.lim m.dr (.slice (some ⟨bc,fc,none⟩) m.c.length cc) (.slice (some ⟨bt,ft,none⟩) m.t.length ct),.int .i64 3]) (by simp [results,Try.results93,go_sem,r0,r1,r2,r3,r4]) rfl ⟨bc,fc,cc,bt,ft,ct,by rw [HVl.out],by simp;omega,by simp;omega, ?_, ?_, ?_,by omega,by omega⟩
     ·rw [HCl.out]
      exact (HC.out.kept HB.out zc).step (Q04 g2w (w.heap.size+1+1) (.int .i64 m.id) (.int .i64 m.lim) (.bool m.dr) (.slice (some ⟨bc,fc,none⟩) m.c.length cc) (.slice (some ⟨bt,ft,none⟩) m.t.length ct)) (by have:=HB.out.size;omega) (.inl (by omega))
     ·rw [HTl.out]
      exact (HT.out.kept HB.out zt).step (Q04 g2w (w.heap.size+1+1) (.int .i64 m.id) (.int .i64 m.lim) (.bool m.dr) (.slice (some ⟨bc,fc,none⟩) m.c.length cc) (.slice (some ⟨bt,ft,none⟩) m.t.length ct)) (by have:=HB.out.size;omega) (.inl (by omega))
     ·exact Q07 HB.out (by omega) _ _ _ _ _
  ·cases sh with
   |false=>
    cases last with
    |false=>
     by_cases hlim:(nc:Int) < m.lim
     ·skip
      have hG:Q19 m a p false=true:=by rw [HGd.out];simp [*]
      rw [hG] at HV HHC HHT
      have HVl:=Q00 (HV.out.trans (if_pos rfl))
      have HCl:=Q00 (HHC.out.trans (if_pos rfl))
      have HTl:=Q00 (HHT.out.trans (if_pos (.inl rfl)))
      clear HV HHC HHT HGd hG
      have HDR:=Q00 hdr
      clear hdr
      go_enter Try.func93,Try.ntmps93
      go_wp2_with fail
      refine (H1.out).mono ?_
      rintro e v1 ⟨rfl,hb⟩
      clear H1
      replace z0:=bC hb z0 zz
      replace z1:=bC hb z1 zz
      replace z2:=bC hb z2 zz
      replace z3:=bC hb z3 zz
      replace z4:=bC hb z4 zz
      replace fz0:=bF hb fz0 zz
      replace fz1:=bF hb fz1 zz
      replace fz2:=bF hb fz2 zz
      replace fz3:=bF hb fz3 zz
      replace fz4:=bF hb fz4 zz
      replace zz:=Kbq zz hb.size
      replace k0:=bC hb k0 zk
      replace k1:=bC hb k1 zk
      replace k2:=bC hb k2 zk
      replace k3:=bC hb k3 zk
      replace k4:=bC hb k4 zk
      replace zk:=Kbq zk hb.size
      replace r0:=bC hb r0 zr
      replace r1:=bC hb r1 zr
      replace r2:=bC hb r2 zr
      replace r3:=bC hb r3 zr
      replace r4:=bC hb r4 zr
      replace fr0:=bF hb fr0 zr
      replace fr1:=bF hb fr1 zr
      replace fr2:=bF hb fr2 zr
      replace fr3:=bF hb fr3 zr
      replace fr4:=bF hb fr4 zr
      replace zr:=Kbq zr hb.size
      replace HB:=Q00 (HB.out.trans (hb.mono HB.out.size))
      clear hb
      obtain ⟨W2,hW2⟩:∃W,(v1.alloc (.cells #[.bool q.u,.int .i64 q.a,.int .i64 q.p,.int .i64 q.v,.int .i64 q.t] 84))=W:=⟨_,rfl⟩
      have hb_W2:Below v1.heap.size v1 W2:=by rw [←hW2];exact ((Below.refl _ _).alloc (Kaq _) _)
      replace z0:=bC hb_W2 z0 zz
      replace z1:=bC hb_W2 z1 zz
      replace z2:=bC hb_W2 z2 zz
      replace z3:=bC hb_W2 z3 zz
      replace z4:=bC hb_W2 z4 zz
      replace fz0:=bF hb_W2 fz0 zz
      replace fz1:=bF hb_W2 fz1 zz
      replace fz2:=bF hb_W2 fz2 zz
      replace fz3:=bF hb_W2 fz3 zz
      replace fz4:=bF hb_W2 fz4 zz
      replace zz:=Kbq zz hb_W2.size
      replace k0:=bC hb_W2 k0 zk
      replace k1:=bC hb_W2 k1 zk
      replace k2:=bC hb_W2 k2 zk
      replace k3:=bC hb_W2 k3 zk
      replace k4:=bC hb_W2 k4 zk
      replace zk:=Kbq zk hb_W2.size
      replace r0:=bC hb_W2 r0 zr
      replace r1:=bC hb_W2 r1 zr
      replace r2:=bC hb_W2 r2 zr
      replace r3:=bC hb_W2 r3 zr
      replace r4:=bC hb_W2 r4 zr
      replace fr0:=bF hb_W2 fr0 zr
      replace fr1:=bF hb_W2 fr1 zr
      replace fr2:=bF hb_W2 fr2 zr
      replace fr3:=bF hb_W2 fr3 zr
      replace fr4:=bF hb_W2 fr4 zr
      replace zr:=Kbq zr hb_W2.size
      replace HB:=Q00 (HB.out.trans (hb_W2.mono HB.out.size))
      clear hb_W2
      have zs:v1.heap.size < W2.heap.size:=by rw [←hW2];simp
      have s0:W2.cell? ⟨v1.heap.size,0,none⟩=some (.bool q.u):=by rw [←hW2];simp [go_sem]
      have s1:W2.cell? ⟨v1.heap.size,1,none⟩=some (.int .i64 q.a):=by rw [←hW2];simp [go_sem]
      have s2:W2.cell? ⟨v1.heap.size,2,none⟩=some (.int .i64 q.p):=by rw [←hW2];simp [go_sem]
      have s3:W2.cell? ⟨v1.heap.size,3,none⟩=some (.int .i64 q.v):=by rw [←hW2];simp [go_sem]
      have s4:W2.cell? ⟨v1.heap.size,4,none⟩=some (.int .i64 q.t):=by rw [←hW2];simp [go_sem]
      have hlt':(nc:Int) < (m.c.length:Int):=by omega
      have hdr:=HDR.out
      have HCn:=Q00 (fun pp:Grown W2=> Q0j bc fc cc m.c pp.v (Kbq (Kbq zc HB.out.size) pp.b.size) ((HC.out.kept HB.out zc).kept pp.b (Kbq zc HB.out.size)) (by omega))
      rw [HNC.out] at HCn
      have GZ1:=Grown.cell z1 zz
      have GZ2:=Grown.cell z2 zz
      have GZ3:=Grown.cell z3 zz
      go_wp2
      (refine Q05 (by kernel_rfl) (by kernel_rfl) ?_;intro hne9;(repeat (go_big_quiet_step ((go_at_call 43;exact Q09 _ (HCn.out _)))));(with_reducible refine wpQuiet_nil ?_);intro _ hw9;obtain ⟨pq,hw8⟩:=hw9;subst hw8)
      obtain ⟨g2w,hg2w⟩:∃W,pq.v=W:=⟨_,rfl⟩
      have hb:=pq.b
      rw [hg2w] at hb ⊢
      clear GZ1 GZ2 GZ3 HCn
      replace z0:=bC hb z0 zz
      replace z1:=bC hb z1 zz
      replace z2:=bC hb z2 zz
      replace z3:=bC hb z3 zz
      replace z4:=bC hb z4 zz
      replace fz0:=bF hb fz0 zz
      replace fz1:=bF hb fz1 zz
      replace fz2:=bF hb fz2 zz
      replace fz3:=bF hb fz3 zz
      replace fz4:=bF hb fz4 zz
      replace zz:=Kbq zz hb.size
      replace k0:=bC hb k0 zk
      replace k1:=bC hb k1 zk
      replace k2:=bC hb k2 zk
      replace k3:=bC hb k3 zk
      replace k4:=bC hb k4 zk
      replace zk:=Kbq zk hb.size
      replace r0:=bC hb r0 zr
      replace r1:=bC hb r1 zr
      replace r2:=bC hb r2 zr
      replace r3:=bC hb r3 zr
      replace r4:=bC hb r4 zr
      replace fr0:=bF hb fr0 zr
      replace fr1:=bF hb fr1 zr
      replace fr2:=bF hb fr2 zr
      replace fr3:=bF hb fr3 zr
      replace fr4:=bF hb fr4 zr
      replace zr:=Kbq zr hb.size
      replace s0:=bC hb s0 zs
      replace s1:=bC hb s1 zs
      replace s2:=bC hb s2 zs
      replace s3:=bC hb s3 zs
      replace s4:=bC hb s4 zs
      replace zs:=Kbq zs hb.size
      replace HB:=Q00 (HB.out.trans (hb.mono HB.out.size))
      clear hb
      clear hg2w pq
      clear hlt' hdr
      have hlim':¬((nc:Int) ≥ m.lim):=by omega
      have HCn:=Q00 (fun pp:Grown g2w=> Q0j bc fc cc m.c pp.v (Kbq (Kbq zc HB.out.size) pp.b.size) ((HC.out.kept HB.out zc).kept pp.b (Kbq zc HB.out.size)) (by omega))
      rw [HNC.out] at HCn
      have GZ1:=Grown.cell z1 zz
      have GZ2:=Grown.cell z2 zz
      have GZ3:=Grown.cell z3 zz
      go_wp2
      (refine Q05 (by kernel_rfl) (by kernel_rfl) ?_;intro hne9;(repeat (go_big_quiet_step ((go_at_call 43;exact Q09 _ (HCn.out _)))));(with_reducible refine wpQuiet_nil ?_);intro _ hw9;obtain ⟨pq,hw8⟩:=hw9;subst hw8)
      obtain ⟨g3w,hg3w⟩:∃W,pq.v=W:=⟨_,rfl⟩
      have hb:=pq.b
      rw [hg3w] at hb ⊢
      clear GZ1 GZ2 GZ3 HCn
      replace z0:=bC hb z0 zz
      replace z1:=bC hb z1 zz
      replace z2:=bC hb z2 zz
      replace z3:=bC hb z3 zz
      replace z4:=bC hb z4 zz
      replace fz0:=bF hb fz0 zz
      replace fz1:=bF hb fz1 zz
      replace fz2:=bF hb fz2 zz
      replace fz3:=bF hb fz3 zz
      replace fz4:=bF hb fz4 zz
      replace zz:=Kbq zz hb.size
      replace k0:=bC hb k0 zk
      replace k1:=bC hb k1 zk
      replace k2:=bC hb k2 zk
      replace k3:=bC hb k3 zk
      replace k4:=bC hb k4 zk
      replace zk:=Kbq zk hb.size
      replace r0:=bC hb r0 zr
      replace r1:=bC hb r1 zr
      replace r2:=bC hb r2 zr
      replace r3:=bC hb r3 zr
      replace r4:=bC hb r4 zr
      replace fr0:=bF hb fr0 zr
      replace fr1:=bF hb fr1 zr
      replace fr2:=bF hb fr2 zr
      replace fr3:=bF hb fr3 zr
      replace fr4:=bF hb fr4 zr
      replace zr:=Kbq zr hb.size
      replace s0:=bC hb s0 zs
      replace s1:=bC hb s1 zs
      replace s2:=bC hb s2 zs
      replace s3:=bC hb s3 zs
      replace s4:=bC hb s4 zs
      replace zs:=Kbq zs hb.size
      replace HB:=Q00 (HB.out.trans (hb.mono HB.out.size))
      clear hb
      clear hg3w pq
      have HP:=Q00 (Q1P bc fc cc m.c a p s (now+50) g3w hc0 (by omega) hfl (Kbq zc HB.out.size) (HC.out.kept HB.out zc))
      obtain ⟨tl,htl⟩:∃q,Q11 m.c a p s (now+50)=q:=⟨_,rfl⟩
      rw [htl] at HP HCl
      have hpl:tl.length=m.c.length:=by rw [←htl];exact Q0p _ _ _ _ _
      clear htl
      generalize decide (0≤(Q0m m.c a p).1)=tb at *
      have hsc:=HB.out.size
      have hrz:=zr
      go_wp2_with fail
      refine (HP.out).mono ?_
      rintro e v4 ⟨b2,f2,c2,rfl,hz2,hrd,hb,hq2⟩
      have HR:=Q00 hrd
      have hs1:=hb.size
      clear hrd HP
      replace z0:=bC hb z0 zz
      replace z1:=bC hb z1 zz
      replace z2:=bC hb z2 zz
      replace z3:=bC hb z3 zz
      replace z4:=bC hb z4 zz
      replace fz0:=bF hb fz0 zz
      replace fz1:=bF hb fz1 zz
      replace fz2:=bF hb fz2 zz
      replace fz3:=bF hb fz3 zz
      replace fz4:=bF hb fz4 zz
      replace zz:=Kbq zz hb.size
      replace k0:=bC hb k0 zk
      replace k1:=bC hb k1 zk
      replace k2:=bC hb k2 zk
      replace k3:=bC hb k3 zk
      replace k4:=bC hb k4 zk
      replace zk:=Kbq zk hb.size
      replace r0:=bC hb r0 zr
      replace r1:=bC hb r1 zr
      replace r2:=bC hb r2 zr
      replace r3:=bC hb r3 zr
      replace r4:=bC hb r4 zr
      replace fr0:=bF hb fr0 zr
      replace fr1:=bF hb fr1 zr
      replace fr2:=bF hb fr2 zr
      replace fr3:=bF hb fr3 zr
      replace fr4:=bF hb fr4 zr
      replace zr:=Kbq zr hb.size
      replace s0:=bC hb s0 zs
      replace s1:=bC hb s1 zs
      replace s2:=bC hb s2 zs
      replace s3:=bC hb s3 zs
      replace s4:=bC hb s4 zs
      replace zs:=Kbq zs hb.size
      replace HB:=Q00 (HB.out.trans (hb.mono HB.out.size))
      clear hb
      have hqa:b2 < w.heap.size∨w.heap.size+1+1+1≤b2:=by omega
      go_wp2
      refine bodyPost_ret (v:=.tuple #[agt m.id m.lim m.dr (.slice (some ⟨b2,f2,none⟩) m.c.length c2) (.slice (some ⟨bt,ft,none⟩) m.t.length ct),.int .i64 1]) (by simp [results,Try.results93,go_sem,r0,r1,r2,r3,r4]) rfl ⟨b2,f2,c2,bt,ft,ct,by rw [HVl.out],by simp;omega,by simp;omega, ?_, ?_, ?_,by omega,by omega⟩
      ·rw [HCl.out]
       exact Row.step HR.out (((Q0s v4 w.heap.size 3 (.slice (some ⟨b2,f2,none⟩) m.c.length c2)).wide' (Kaq _) (by omega)).trans ((Q04 _ (w.heap.size+1+1) (.int .i64 m.id) (.int .i64 m.lim) (.bool m.dr) (.slice (some ⟨b2,f2,none⟩) m.c.length c2) (.slice (some ⟨bt,ft,none⟩) m.t.length ct)).wide' (by omega) (Kaq _)):Stp w.heap.size (w.heap.size+1+1+1) v4 _) hz2 hqa
      ·rw [HTl.out]
       exact (HT.out.kept HB.out zt).step (((Q0s v4 w.heap.size 3 (.slice (some ⟨b2,f2,none⟩) m.c.length c2)).wide' (Kaq _) (by omega)).trans ((Q04 _ (w.heap.size+1+1) (.int .i64 m.id) (.int .i64 m.lim) (.bool m.dr) (.slice (some ⟨b2,f2,none⟩) m.c.length c2) (.slice (some ⟨bt,ft,none⟩) m.t.length ct)).wide' (by omega) (Kaq _)):Stp w.heap.size (w.heap.size+1+1+1) v4 _) (by have:=HB.out.size;omega) (.inl zt)
      ·exact Q07 (HB.out.setCell (p:=⟨w.heap.size,3,none⟩) (Kaq _) _) (by omega) _ _ _ _ _
     ·skip
      have hG:Q19 m a p false=false:=by rw [HGd.out];simp [*]
      rw [hG] at HV HHC HHT
      have HVl:=Q00 (HV.out.trans ((if_neg (by decide)).trans (if_neg (by decide))))
      have HCl:=Q00 (HHC.out.trans (if_neg (by decide)))
      have HTl:=Q00 (HHT.out.trans (if_neg (by simp)))
      clear HV HHC HHT HGd hG
      have HDR:=Q00 hdr
      clear hdr
      go_enter Try.func93,Try.ntmps93
      go_wp2_with fail
      refine (H1.out).mono ?_
      rintro e v1 ⟨rfl,hb⟩
      clear H1
      replace z0:=bC hb z0 zz
      replace z1:=bC hb z1 zz
      replace z2:=bC hb z2 zz
      replace z3:=bC hb z3 zz
      replace z4:=bC hb z4 zz
      replace fz0:=bF hb fz0 zz
      replace fz1:=bF hb fz1 zz
      replace fz2:=bF hb fz2 zz
      replace fz3:=bF hb fz3 zz
      replace fz4:=bF hb fz4 zz
      replace zz:=Kbq zz hb.size
      replace k0:=bC hb k0 zk
      replace k1:=bC hb k1 zk
      replace k2:=bC hb k2 zk
      replace k3:=bC hb k3 zk
      replace k4:=bC hb k4 zk
      replace zk:=Kbq zk hb.size
      replace r0:=bC hb r0 zr
      replace r1:=bC hb r1 zr
      replace r2:=bC hb r2 zr
      replace r3:=bC hb r3 zr
      replace r4:=bC hb r4 zr
      replace fr0:=bF hb fr0 zr
      replace fr1:=bF hb fr1 zr
      replace fr2:=bF hb fr2 zr
      replace fr3:=bF hb fr3 zr
      replace fr4:=bF hb fr4 zr
      replace zr:=Kbq zr hb.size
      replace HB:=Q00 (HB.out.trans (hb.mono HB.out.size))
      clear hb
      obtain ⟨W2,hW2⟩:∃W,(v1.alloc (.cells #[.bool q.u,.int .i64 q.a,.int .i64 q.p,.int .i64 q.v,.int .i64 q.t] 84))=W:=⟨_,rfl⟩
      have hb_W2:Below v1.heap.size v1 W2:=by rw [←hW2];exact ((Below.refl _ _).alloc (Kaq _) _)
      replace z0:=bC hb_W2 z0 zz
      replace z1:=bC hb_W2 z1 zz
      replace z2:=bC hb_W2 z2 zz
      replace z3:=bC hb_W2 z3 zz
      replace z4:=bC hb_W2 z4 zz
      replace fz0:=bF hb_W2 fz0 zz
      replace fz1:=bF hb_W2 fz1 zz
      replace fz2:=bF hb_W2 fz2 zz
      replace fz3:=bF hb_W2 fz3 zz
      replace fz4:=bF hb_W2 fz4 zz
      replace zz:=Kbq zz hb_W2.size
      replace k0:=bC hb_W2 k0 zk
      replace k1:=bC hb_W2 k1 zk
      replace k2:=bC hb_W2 k2 zk
      replace k3:=bC hb_W2 k3 zk
      replace k4:=bC hb_W2 k4 zk
      replace zk:=Kbq zk hb_W2.size
      replace r0:=bC hb_W2 r0 zr
      replace r1:=bC hb_W2 r1 zr
      replace r2:=bC hb_W2 r2 zr
      replace r3:=bC hb_W2 r3 zr
      replace r4:=bC hb_W2 r4 zr
      replace fr0:=bF hb_W2 fr0 zr
      replace fr1:=bF hb_W2 fr1 zr
      replace fr2:=bF hb_W2 fr2 zr
      replace fr3:=bF hb_W2 fr3 zr
      replace fr4:=bF hb_W2 fr4 zr
      replace zr:=Kbq zr hb_W2.size
      replace HB:=Q00 (HB.out.trans (hb_W2.mono HB.out.size))
      clear hb_W2
      have zs:v1.heap.size < W2.heap.size:=by rw [←hW2];simp
      have s0:W2.cell? ⟨v1.heap.size,0,none⟩=some (.bool q.u):=by rw [←hW2];simp [go_sem]
      have s1:W2.cell? ⟨v1.heap.size,1,none⟩=some (.int .i64 q.a):=by rw [←hW2];simp [go_sem]
      have s2:W2.cell? ⟨v1.heap.size,2,none⟩=some (.int .i64 q.p):=by rw [←hW2];simp [go_sem]
      have s3:W2.cell? ⟨v1.heap.size,3,none⟩=some (.int .i64 q.v):=by rw [←hW2];simp [go_sem]
      have s4:W2.cell? ⟨v1.heap.size,4,none⟩=some (.int .i64 q.t):=by rw [←hW2];simp [go_sem]
      have hlt':(nc:Int) < (m.c.length:Int):=by omega
      have hdr:=HDR.out
      have HCn:=Q00 (fun pp:Grown W2=> Q0j bc fc cc m.c pp.v (Kbq (Kbq zc HB.out.size) pp.b.size) ((HC.out.kept HB.out zc).kept pp.b (Kbq zc HB.out.size)) (by omega))
      rw [HNC.out] at HCn
      have GZ1:=Grown.cell z1 zz
      have GZ2:=Grown.cell z2 zz
      have GZ3:=Grown.cell z3 zz
      go_wp2
      (refine Q05 (by kernel_rfl) (by kernel_rfl) ?_;intro hne9;(repeat (go_big_quiet_step ((go_at_call 43;exact Q09 _ (HCn.out _)))));(with_reducible refine wpQuiet_nil ?_);intro _ hw9;obtain ⟨pq,hw8⟩:=hw9;subst hw8)
      obtain ⟨g2w,hg2w⟩:∃W,pq.v=W:=⟨_,rfl⟩
      have hb:=pq.b
      rw [hg2w] at hb ⊢
      clear GZ1 GZ2 GZ3 HCn
      replace z0:=bC hb z0 zz
      replace z1:=bC hb z1 zz
      replace z2:=bC hb z2 zz
      replace z3:=bC hb z3 zz
      replace z4:=bC hb z4 zz
      replace fz0:=bF hb fz0 zz
      replace fz1:=bF hb fz1 zz
      replace fz2:=bF hb fz2 zz
      replace fz3:=bF hb fz3 zz
      replace fz4:=bF hb fz4 zz
      replace zz:=Kbq zz hb.size
      replace k0:=bC hb k0 zk
      replace k1:=bC hb k1 zk
      replace k2:=bC hb k2 zk
      replace k3:=bC hb k3 zk
      replace k4:=bC hb k4 zk
      replace zk:=Kbq zk hb.size
      replace r0:=bC hb r0 zr
      replace r1:=bC hb r1 zr
      replace r2:=bC hb r2 zr
      replace r3:=bC hb r3 zr
      replace r4:=bC hb r4 zr
      replace fr0:=bF hb fr0 zr
      replace fr1:=bF hb fr1 zr
      replace fr2:=bF hb fr2 zr
      replace fr3:=bF hb fr3 zr
      replace fr4:=bF hb fr4 zr
      replace zr:=Kbq zr hb.size
      replace s0:=bC hb s0 zs
      replace s1:=bC hb s1 zs
      replace s2:=bC hb s2 zs
      replace s3:=bC hb s3 zs
      replace s4:=bC hb s4 zs
      replace zs:=Kbq zs hb.size
      replace HB:=Q00 (HB.out.trans (hb.mono HB.out.size))
      clear hb
      clear hg2w pq
      clear hlt' hdr
      have hlim':(nc:Int) ≥ m.lim:=by omega
      have HCn:=Q00 (fun pp:Grown g2w=> Q0j bc fc cc m.c pp.v (Kbq (Kbq zc HB.out.size) pp.b.size) ((HC.out.kept HB.out zc).kept pp.b (Kbq zc HB.out.size)) (by omega))
      rw [HNC.out] at HCn
      have GZ1:=Grown.cell z1 zz
      have GZ2:=Grown.cell z2 zz
      have GZ3:=Grown.cell z3 zz
      go_wp2
      (refine Q05 (by kernel_rfl) (by kernel_rfl) ?_;intro hne9;(repeat (go_big_quiet_step ((go_at_call 43;exact Q09 _ (HCn.out _)))));(with_reducible refine wpQuiet_nil ?_);intro _ hw9;obtain ⟨pq,hw8⟩:=hw9;subst hw8)
      obtain ⟨g3w,hg3w⟩:∃W,pq.v=W:=⟨_,rfl⟩
      have hb:=pq.b
      rw [hg3w] at hb ⊢
      clear GZ1 GZ2 GZ3 HCn
      replace z0:=bC hb z0 zz
      replace z1:=bC hb z1 zz
      replace z2:=bC hb z2 zz
      replace z3:=bC hb z3 zz
      replace z4:=bC hb z4 zz
      replace fz0:=bF hb fz0 zz
      replace fz1:=bF hb fz1 zz
      replace fz2:=bF hb fz2 zz
      replace fz3:=bF hb fz3 zz
      replace fz4:=bF hb fz4 zz
      replace zz:=Kbq zz hb.size
      replace k0:=bC hb k0 zk
      replace k1:=bC hb k1 zk
      replace k2:=bC hb k2 zk
      replace k3:=bC hb k3 zk
      replace k4:=bC hb k4 zk
      replace zk:=Kbq zk hb.size
      replace r0:=bC hb r0 zr
      replace r1:=bC hb r1 zr
      replace r2:=bC hb r2 zr
      replace r3:=bC hb r3 zr
      replace r4:=bC hb r4 zr
      replace fr0:=bF hb fr0 zr
      replace fr1:=bF hb fr1 zr
      replace fr2:=bF hb fr2 zr
      replace fr3:=bF hb fr3 zr
      replace fr4:=bF hb fr4 zr
      replace zr:=Kbq zr hb.size
      replace s0:=bC hb s0 zs
      replace s1:=bC hb s1 zs
      replace s2:=bC hb s2 zs
      replace s3:=bC hb s3 zs
      replace s4:=bC hb s4 zs
      replace zs:=Kbq zs hb.size
      replace HB:=Q00 (HB.out.trans (hb.mono HB.out.size))
      clear hb
      clear hg3w pq
      have hsc:=HB.out.size
      have hrz:=zr
      have H3:=Q00 (Q0X m bc fc cc bt ft ct now a p g3w hn0 hn1 hfl hc0 hc16 ht0 ht16 (by omega) (by omega) (HC.out.kept HB.out zc) (HT.out.kept HB.out zt))
      obtain ⟨tl,htl⟩:∃q,Q11 m.t a p 0 (now+20+1)=q:=⟨_,rfl⟩
      rw [htl] at H3 HTl
      have hpl:tl.length=m.t.length:=by rw [←htl];exact Q0p _ _ _ _ _
      by_cases hok:0≤(Q0m m.t a p).1
      ·rw [decide_eq_true hok] at H3
       rw [if_pos hok] at HVl
       clear htl hok
       go_wp2_with fail
       refine (H3.out).mono ?_
       rintro e v4 ⟨b3,f3,c3,rfl,hz3,hrd,hb,hq3⟩
       have HR:=Q00 hrd
       have hs3:=hb.size
       clear hrd H3
       replace z0:=bC hb z0 zz
       replace z1:=bC hb z1 zz
       replace z2:=bC hb z2 zz
       replace z3:=bC hb z3 zz
       replace z4:=bC hb z4 zz
       replace fz0:=bF hb fz0 zz
       replace fz1:=bF hb fz1 zz
       replace fz2:=bF hb fz2 zz
       replace fz3:=bF hb fz3 zz
       replace fz4:=bF hb fz4 zz
       replace zz:=Kbq zz hb.size
       replace k0:=bC hb k0 zk
       replace k1:=bC hb k1 zk
       replace k2:=bC hb k2 zk
       replace k3:=bC hb k3 zk
       replace k4:=bC hb k4 zk
       replace zk:=Kbq zk hb.size
       replace r0:=bC hb r0 zr
       replace r1:=bC hb r1 zr
       replace r2:=bC hb r2 zr
       replace r3:=bC hb r3 zr
       replace r4:=bC hb r4 zr
       replace fr0:=bF hb fr0 zr
       replace fr1:=bF hb fr1 zr
       replace fr2:=bF hb fr2 zr
       replace fr3:=bF hb fr3 zr
       replace fr4:=bF hb fr4 zr
       replace zr:=Kbq zr hb.size
       replace s0:=bC hb s0 zs
       replace s1:=bC hb s1 zs
       replace s2:=bC hb s2 zs
       replace s3:=bC hb s3 zs
       replace s4:=bC hb s4 zs
       replace zs:=Kbq zs hb.size
       replace HB:=Q00 (HB.out.trans (hb.mono HB.out.size))
       clear hb
       obtain ⟨Wx,hWx⟩:∃W,(v4.alloc (.cells #[.int .i64 m.id,.int .i64 m.lim,.bool m.dr,.slice (some ⟨bc,fc,none⟩) m.c.length cc,.slice (some ⟨b3,f3,none⟩) m.t.length c3] 27))=W:=⟨_,rfl⟩
       have hb_Wx:Below v4.heap.size v4 Wx:=by rw [←hWx];exact ((Below.refl _ _).alloc (Kaq _) _)
       replace z0:=bC hb_Wx z0 zz
       replace z1:=bC hb_Wx z1 zz
       replace z2:=bC hb_Wx z2 zz
       replace z3:=bC hb_Wx z3 zz
       replace z4:=bC hb_Wx z4 zz
       replace fz0:=bF hb_Wx fz0 zz
       replace fz1:=bF hb_Wx fz1 zz
       replace fz2:=bF hb_Wx fz2 zz
       replace fz3:=bF hb_Wx fz3 zz
       replace fz4:=bF hb_Wx fz4 zz
       replace zz:=Kbq zz hb_Wx.size
       replace k0:=bC hb_Wx k0 zk
       replace k1:=bC hb_Wx k1 zk
       replace k2:=bC hb_Wx k2 zk
       replace k3:=bC hb_Wx k3 zk
       replace k4:=bC hb_Wx k4 zk
       replace zk:=Kbq zk hb_Wx.size
       replace r0:=bC hb_Wx r0 zr
       replace r1:=bC hb_Wx r1 zr
       replace r2:=bC hb_Wx r2 zr
       replace r3:=bC hb_Wx r3 zr
       replace r4:=bC hb_Wx r4 zr
       replace fr0:=bF hb_Wx fr0 zr
       replace fr1:=bF hb_Wx fr1 zr
       replace fr2:=bF hb_Wx fr2 zr
       replace fr3:=bF hb_Wx fr3 zr
       replace fr4:=bF hb_Wx fr4 zr
       replace zr:=Kbq zr hb_Wx.size
       replace s0:=bC hb_Wx s0 zs
       replace s1:=bC hb_Wx s1 zs
       replace s2:=bC hb_Wx s2 zs
       replace s3:=bC hb_Wx s3 zs
       replace s4:=bC hb_Wx s4 zs
       replace zs:=Kbq zs hb_Wx.size
       replace HB:=Q00 (HB.out.trans (hb_Wx.mono HB.out.size))
       clear hb_Wx
       have zo:v4.heap.size < Wx.heap.size:=by rw [←hWx];simp
       have o0:Wx.cell? ⟨v4.heap.size,0,none⟩=some (.int .i64 m.id):=by rw [←hWx];simp [go_sem]
       have o1:Wx.cell? ⟨v4.heap.size,1,none⟩=some (.int .i64 m.lim):=by rw [←hWx];simp [go_sem]
       have o2:Wx.cell? ⟨v4.heap.size,2,none⟩=some (.bool m.dr):=by rw [←hWx];simp [go_sem]
       have o3:Wx.cell? ⟨v4.heap.size,3,none⟩=some (.slice (some ⟨bc,fc,none⟩) m.c.length cc):=by rw [←hWx];simp [go_sem]
       have o4:Wx.cell? ⟨v4.heap.size,4,none⟩=some (.slice (some ⟨b3,f3,none⟩) m.t.length c3):=by rw [←hWx];simp [go_sem]
       have hbx:=(show Below v4.heap.size v4 Wx by rw [←hWx];exact (Below.refl _ _).alloc (Kaq _) _)
       have hsx:=hbx.size
       have HRx:=Q00 (Row.kept HR.out hbx hz3)
       clear HR hbx
       have hne1:v4.heap.size≠w.heap.size+1+1:=by omega
       have hne2:w.heap.size+1+1≠v4.heap.size:=by omega
       go_wp2
       refine bodyPost_ret (v:=.tuple #[agt m.id m.lim m.dr (.slice (some ⟨bc,fc,none⟩) m.c.length cc) (.slice (some ⟨b3,f3,none⟩) m.t.length c3),.int .i64 2]) (by simp [results,Try.results93,go_sem,r0,r1,r2,r3,r4]) rfl ⟨bc,fc,cc,b3,f3,c3,by rw [HVl.out],by simp;omega,by simp;omega, ?_, ?_, ?_,by omega,by omega⟩
       ·rw [HCl.out]
        exact (HC.out.kept HB.out zc).step (Q04 Wx (w.heap.size+1+1) (.int .i64 m.id) (.int .i64 m.lim) (.bool m.dr) (.slice (some ⟨bc,fc,none⟩) m.c.length cc) (.slice (some ⟨b3,f3,none⟩) m.t.length c3)) (by have:=HB.out.size;omega) (.inl (by omega))
       ·rw [HTl.out]
        exact Row.step HRx.out (Q04 Wx (w.heap.size+1+1) (.int .i64 m.id) (.int .i64 m.lim) (.bool m.dr) (.slice (some ⟨bc,fc,none⟩) m.c.length cc) (.slice (some ⟨b3,f3,none⟩) m.t.length c3)) (by omega) (by omega)
       ·exact Q07 HB.out (by omega) _ _ _ _ _
      ·rw [decide_eq_false hok] at H3
       rw [if_neg hok] at HVl
       have htle:tl=m.t:=by rw [←htl];unfold Q11;rw [if_neg hok]
       rw [htle] at HTl
       clear htl hok
       go_wp2_with fail
       refine (H3.out).mono ?_
       rintro e v4 ⟨b3,f3,c3,rfl,hz3,hrd,hb,hq3⟩
       have HR:=Q00 hrd
       have hs3:=hb.size
       clear hrd H3
       replace z0:=bC hb z0 zz
       replace z1:=bC hb z1 zz
       replace z2:=bC hb z2 zz
       replace z3:=bC hb z3 zz
       replace z4:=bC hb z4 zz
       replace fz0:=bF hb fz0 zz
       replace fz1:=bF hb fz1 zz
       replace fz2:=bF hb fz2 zz
       replace fz3:=bF hb fz3 zz
       replace fz4:=bF hb fz4 zz
       replace zz:=Kbq zz hb.size
       replace k0:=bC hb k0 zk
       replace k1:=bC hb k1 zk
       replace k2:=bC hb k2 zk
       replace k3:=bC hb k3 zk
       replace k4:=bC hb k4 zk
       replace zk:=Kbq zk hb.size
       replace r0:=bC hb r0 zr
       replace r1:=bC hb r1 zr
       replace r2:=bC hb r2 zr
       replace r3:=bC hb r3 zr
       replace r4:=bC hb r4 zr
       replace fr0:=bF hb fr0 zr
       replace fr1:=bF hb fr1 zr
       replace fr2:=bF hb fr2 zr
       replace fr3:=bF hb fr3 zr
       replace fr4:=bF hb fr4 zr
       replace zr:=Kbq zr hb.size
       replace s0:=bC hb s0 zs
       replace s1:=bC hb s1 zs
       replace s2:=bC hb s2 zs
       replace s3:=bC hb s3 zs
       replace s4:=bC hb s4 zs
       replace zs:=Kbq zs hb.size
       replace HB:=Q00 (HB.out.trans (hb.mono HB.out.size))
       clear hb
       obtain ⟨Wx,hWx⟩:∃W,(v4.alloc (.cells #[.int .i64 m.id,.int .i64 m.lim,.bool m.dr,.slice (some ⟨bc,fc,none⟩) m.c.length cc,.slice (some ⟨b3,f3,none⟩) m.t.length c3] 27))=W:=⟨_,rfl⟩
       have hb_Wx:Below v4.heap.size v4 Wx:=by rw [←hWx];exact ((Below.refl _ _).alloc (Kaq _) _)
       replace z0:=bC hb_Wx z0 zz
       replace z1:=bC hb_Wx z1 zz
       replace z2:=bC hb_Wx z2 zz
       replace z3:=bC hb_Wx z3 zz
       replace z4:=bC hb_Wx z4 zz
       replace fz0:=bF hb_Wx fz0 zz
       replace fz1:=bF hb_Wx fz1 zz
       replace fz2:=bF hb_Wx fz2 zz
       replace fz3:=bF hb_Wx fz3 zz
       replace fz4:=bF hb_Wx fz4 zz
       replace zz:=Kbq zz hb_Wx.size
       replace k0:=bC hb_Wx k0 zk
       replace k1:=bC hb_Wx k1 zk
       replace k2:=bC hb_Wx k2 zk
       replace k3:=bC hb_Wx k3 zk
       replace k4:=bC hb_Wx k4 zk
       replace zk:=Kbq zk hb_Wx.size
       replace r0:=bC hb_Wx r0 zr
       replace r1:=bC hb_Wx r1 zr
       replace r2:=bC hb_Wx r2 zr
       replace r3:=bC hb_Wx r3 zr
       replace r4:=bC hb_Wx r4 zr
       replace fr0:=bF hb_Wx fr0 zr
       replace fr1:=bF hb_Wx fr1 zr
       replace fr2:=bF hb_Wx fr2 zr
       replace fr3:=bF hb_Wx fr3 zr
       replace fr4:=bF hb_Wx fr4 zr
       replace zr:=Kbq zr hb_Wx.size
       replace s0:=bC hb_Wx s0 zs
       replace s1:=bC hb_Wx s1 zs
       replace s2:=bC hb_Wx s2 zs
       replace s3:=bC hb_Wx s3 zs
       replace s4:=bC hb_Wx s4 zs
       replace zs:=Kbq zs hb_Wx.size
       replace HB:=Q00 (HB.out.trans (hb_Wx.mono HB.out.size))
       clear hb_Wx
       have zo:v4.heap.size < Wx.heap.size:=by rw [←hWx];simp
       have o0:Wx.cell? ⟨v4.heap.size,0,none⟩=some (.int .i64 m.id):=by rw [←hWx];simp [go_sem]
       have o1:Wx.cell? ⟨v4.heap.size,1,none⟩=some (.int .i64 m.lim):=by rw [←hWx];simp [go_sem]
       have o2:Wx.cell? ⟨v4.heap.size,2,none⟩=some (.bool m.dr):=by rw [←hWx];simp [go_sem]
       have o3:Wx.cell? ⟨v4.heap.size,3,none⟩=some (.slice (some ⟨bc,fc,none⟩) m.c.length cc):=by rw [←hWx];simp [go_sem]
       have o4:Wx.cell? ⟨v4.heap.size,4,none⟩=some (.slice (some ⟨b3,f3,none⟩) m.t.length c3):=by rw [←hWx];simp [go_sem]
       have hbx:=(show Below v4.heap.size v4 Wx by rw [←hWx];exact (Below.refl _ _).alloc (Kaq _) _)
       have hsx:=hbx.size
       have HRx:=Q00 (Row.kept HR.out hbx hz3)
       clear HR hbx
       have hne1:v4.heap.size≠w.heap.size+1+1:=by omega
       have hne2:w.heap.size+1+1≠v4.heap.size:=by omega
       go_wp2
       refine bodyPost_ret (v:=.tuple #[agt m.id m.lim m.dr (.slice (some ⟨bc,fc,none⟩) m.c.length cc) (.slice (some ⟨bt,ft,none⟩) m.t.length ct),.int .i64 5]) (by simp [results,Try.results93,go_sem,r0,r1,r2,r3,r4]) rfl ⟨bc,fc,cc,bt,ft,ct,by rw [HVl.out],by simp;omega,by simp;omega, ?_, ?_, ?_,by omega,by omega⟩
       ·rw [HCl.out]
        exact (HC.out.kept HB.out zc).step (Q04 Wx (w.heap.size+1+1) (.int .i64 m.id) (.int .i64 m.lim) (.bool m.dr) (.slice (some ⟨bc,fc,none⟩) m.c.length cc) (.slice (some ⟨bt,ft,none⟩) m.t.length ct)) (by have:=HB.out.size;omega) (.inl (by omega))
       ·rw [HTl.out]
        exact (HT.out.kept HB.out zt).step (Q04 Wx (w.heap.size+1+1) (.int .i64 m.id) (.int .i64 m.lim) (.bool m.dr) (.slice (some ⟨bc,fc,none⟩) m.c.length cc) (.slice (some ⟨bt,ft,none⟩) m.t.length ct)) (by have:=HB.out.size;omega) (.inl (by omega))
       ·exact Q07 HB.out (by omega) _ _ _ _ _
    |true=>
     have hG:Q19 m a p true=true:=by rw [HGd.out];simp [*]
     rw [hG] at HV HHC HHT
     have HVl:=Q00 (HV.out.trans (if_pos rfl))
     have HCl:=Q00 (HHC.out.trans (if_pos rfl))
     have HTl:=Q00 (HHT.out.trans (if_pos (.inl rfl)))
     clear HV HHC HHT HGd hG
     have HDR:=Q00 hdr
     clear hdr
     go_enter Try.func93,Try.ntmps93
     go_wp2_with fail
     refine (H1.out).mono ?_
     rintro e v1 ⟨rfl,hb⟩
     clear H1
     replace z0:=bC hb z0 zz
     replace z1:=bC hb z1 zz
     replace z2:=bC hb z2 zz
     replace z3:=bC hb z3 zz
     replace z4:=bC hb z4 zz
     replace fz0:=bF hb fz0 zz
     replace fz1:=bF hb fz1 zz
     replace fz2:=bF hb fz2 zz
     replace fz3:=bF hb fz3 zz
     replace fz4:=bF hb fz4 zz
     replace zz:=Kbq zz hb.size
     replace k0:=bC hb k0 zk
     replace k1:=bC hb k1 zk
     replace k2:=bC hb k2 zk
     replace k3:=bC hb k3 zk
     replace k4:=bC hb k4 zk
     replace zk:=Kbq zk hb.size
     replace r0:=bC hb r0 zr
     replace r1:=bC hb r1 zr
     replace r2:=bC hb r2 zr
     replace r3:=bC hb r3 zr
     replace r4:=bC hb r4 zr
     replace fr0:=bF hb fr0 zr
     replace fr1:=bF hb fr1 zr
     replace fr2:=bF hb fr2 zr
     replace fr3:=bF hb fr3 zr
     replace fr4:=bF hb fr4 zr
     replace zr:=Kbq zr hb.size
     replace HB:=Q00 (HB.out.trans (hb.mono HB.out.size))
     clear hb
     obtain ⟨W2,hW2⟩:∃W,(v1.alloc (.cells #[.bool q.u,.int .i64 q.a,.int .i64 q.p,.int .i64 q.v,.int .i64 q.t] 84))=W:=⟨_,rfl⟩
     have hb_W2:Below v1.heap.size v1 W2:=by rw [←hW2];exact ((Below.refl _ _).alloc (Kaq _) _)
     replace z0:=bC hb_W2 z0 zz
     replace z1:=bC hb_W2 z1 zz
     replace z2:=bC hb_W2 z2 zz
     replace z3:=bC hb_W2 z3 zz
     replace z4:=bC hb_W2 z4 zz
     replace fz0:=bF hb_W2 fz0 zz
     replace fz1:=bF hb_W2 fz1 zz
     replace fz2:=bF hb_W2 fz2 zz
     replace fz3:=bF hb_W2 fz3 zz
     replace fz4:=bF hb_W2 fz4 zz
     replace zz:=Kbq zz hb_W2.size
     replace k0:=bC hb_W2 k0 zk
     replace k1:=bC hb_W2 k1 zk
     replace k2:=bC hb_W2 k2 zk
     replace k3:=bC hb_W2 k3 zk
     replace k4:=bC hb_W2 k4 zk
     replace zk:=Kbq zk hb_W2.size
     replace r0:=bC hb_W2 r0 zr
     replace r1:=bC hb_W2 r1 zr
     replace r2:=bC hb_W2 r2 zr
     replace r3:=bC hb_W2 r3 zr
     replace r4:=bC hb_W2 r4 zr
     replace fr0:=bF hb_W2 fr0 zr
     replace fr1:=bF hb_W2 fr1 zr
     replace fr2:=bF hb_W2 fr2 zr
     replace fr3:=bF hb_W2 fr3 zr
     replace fr4:=bF hb_W2 fr4 zr
     replace zr:=Kbq zr hb_W2.size
     replace HB:=Q00 (HB.out.trans (hb_W2.mono HB.out.size))
     clear hb_W2
     have zs:v1.heap.size < W2.heap.size:=by rw [←hW2];simp
     have s0:W2.cell? ⟨v1.heap.size,0,none⟩=some (.bool q.u):=by rw [←hW2];simp [go_sem]
     have s1:W2.cell? ⟨v1.heap.size,1,none⟩=some (.int .i64 q.a):=by rw [←hW2];simp [go_sem]
     have s2:W2.cell? ⟨v1.heap.size,2,none⟩=some (.int .i64 q.p):=by rw [←hW2];simp [go_sem]
     have s3:W2.cell? ⟨v1.heap.size,3,none⟩=some (.int .i64 q.v):=by rw [←hW2];simp [go_sem]
     have s4:W2.cell? ⟨v1.heap.size,4,none⟩=some (.int .i64 q.t):=by rw [←hW2];simp [go_sem]
     have hlt':(nc:Int) < (m.c.length:Int):=by omega
     have hdr:=HDR.out
     have HCn:=Q00 (fun pp:Grown W2=> Q0j bc fc cc m.c pp.v (Kbq (Kbq zc HB.out.size) pp.b.size) ((HC.out.kept HB.out zc).kept pp.b (Kbq zc HB.out.size)) (by omega))
     rw [HNC.out] at HCn
     have GZ1:=Grown.cell z1 zz
     have GZ2:=Grown.cell z2 zz
     have GZ3:=Grown.cell z3 zz
     go_wp2
     (refine Q05 (by kernel_rfl) (by kernel_rfl) ?_;intro hne9;(repeat (go_big_quiet_step ((go_at_call 43;exact Q09 _ (HCn.out _)))));(with_reducible refine wpQuiet_nil ?_);intro _ hw9;obtain ⟨pq,hw8⟩:=hw9;subst hw8)
     obtain ⟨g2w,hg2w⟩:∃W,pq.v=W:=⟨_,rfl⟩
     have hb:=pq.b
     rw [hg2w] at hb ⊢
     clear GZ1 GZ2 GZ3 HCn
     replace z0:=bC hb z0 zz
     replace z1:=bC hb z1 zz
     replace z2:=bC hb z2 zz
     replace z3:=bC hb z3 zz
     replace z4:=bC hb z4 zz
     replace fz0:=bF hb fz0 zz
     replace fz1:=bF hb fz1 zz
     replace fz2:=bF hb fz2 zz
     replace fz3:=bF hb fz3 zz
     replace fz4:=bF hb fz4 zz
     replace zz:=Kbq zz hb.size
     replace k0:=bC hb k0 zk
     replace k1:=bC hb k1 zk
     replace k2:=bC hb k2 zk
     replace k3:=bC hb k3 zk
     replace k4:=bC hb k4 zk
     replace zk:=Kbq zk hb.size
     replace r0:=bC hb r0 zr
     replace r1:=bC hb r1 zr
     replace r2:=bC hb r2 zr
     replace r3:=bC hb r3 zr
     replace r4:=bC hb r4 zr
     replace fr0:=bF hb fr0 zr
     replace fr1:=bF hb fr1 zr
     replace fr2:=bF hb fr2 zr
     replace fr3:=bF hb fr3 zr
     replace fr4:=bF hb fr4 zr
     replace zr:=Kbq zr hb.size
     replace s0:=bC hb s0 zs
     replace s1:=bC hb s1 zs
     replace s2:=bC hb s2 zs
     replace s3:=bC hb s3 zs
     replace s4:=bC hb s4 zs
     replace zs:=Kbq zs hb.size
     replace HB:=Q00 (HB.out.trans (hb.mono HB.out.size))
     clear hb
     clear hg2w pq
     clear hlt' hdr
     have HP:=Q00 (Q1P bc fc cc m.c a p s (now+50) g2w hc0 (by omega) hfl (Kbq zc HB.out.size) (HC.out.kept HB.out zc))
     obtain ⟨tl,htl⟩:∃q,Q11 m.c a p s (now+50)=q:=⟨_,rfl⟩
     rw [htl] at HP HCl
     have hpl:tl.length=m.c.length:=by rw [←htl];exact Q0p _ _ _ _ _
     clear htl
     generalize decide (0≤(Q0m m.c a p).1)=tb at *
     have hsc:=HB.out.size
     have hrz:=zr
     go_wp2_with fail
     refine (HP.out).mono ?_
     rintro e v3 ⟨b2,f2,c2,rfl,hz2,hrd,hb,hq2⟩
     have HR:=Q00 hrd
     have hs1:=hb.size
     clear hrd HP
     replace z0:=bC hb z0 zz
     replace z1:=bC hb z1 zz
     replace z2:=bC hb z2 zz
     replace z3:=bC hb z3 zz
     replace z4:=bC hb z4 zz
     replace fz0:=bF hb fz0 zz
     replace fz1:=bF hb fz1 zz
     replace fz2:=bF hb fz2 zz
     replace fz3:=bF hb fz3 zz
     replace fz4:=bF hb fz4 zz
     replace zz:=Kbq zz hb.size
     replace k0:=bC hb k0 zk
     replace k1:=bC hb k1 zk
     replace k2:=bC hb k2 zk
     replace k3:=bC hb k3 zk
     replace k4:=bC hb k4 zk
     replace zk:=Kbq zk hb.size
     replace r0:=bC hb r0 zr
     replace r1:=bC hb r1 zr
     replace r2:=bC hb r2 zr
     replace r3:=bC hb r3 zr
     replace r4:=bC hb r4 zr
     replace fr0:=bF hb fr0 zr
     replace fr1:=bF hb fr1 zr
     replace fr2:=bF hb fr2 zr
     replace fr3:=bF hb fr3 zr
     replace fr4:=bF hb fr4 zr
     replace zr:=Kbq zr hb.size
     replace s0:=bC hb s0 zs
     replace s1:=bC hb s1 zs
     replace s2:=bC hb s2 zs
     replace s3:=bC hb s3 zs
     replace s4:=bC hb s4 zs
     replace zs:=Kbq zs hb.size
     replace HB:=Q00 (HB.out.trans (hb.mono HB.out.size))
     clear hb
     have hqa:b2 < w.heap.size∨w.heap.size+1+1+1≤b2:=by omega
     go_wp2
     refine bodyPost_ret (v:=.tuple #[agt m.id m.lim m.dr (.slice (some ⟨b2,f2,none⟩) m.c.length c2) (.slice (some ⟨bt,ft,none⟩) m.t.length ct),.int .i64 1]) (by simp [results,Try.results93,go_sem,r0,r1,r2,r3,r4]) rfl ⟨b2,f2,c2,bt,ft,ct,by rw [HVl.out],by simp;omega,by simp;omega, ?_, ?_, ?_,by omega,by omega⟩
     ·rw [HCl.out]
      exact Row.step HR.out (((Q0s v3 w.heap.size 3 (.slice (some ⟨b2,f2,none⟩) m.c.length c2)).wide' (Kaq _) (by omega)).trans ((Q04 _ (w.heap.size+1+1) (.int .i64 m.id) (.int .i64 m.lim) (.bool m.dr) (.slice (some ⟨b2,f2,none⟩) m.c.length c2) (.slice (some ⟨bt,ft,none⟩) m.t.length ct)).wide' (by omega) (Kaq _)):Stp w.heap.size (w.heap.size+1+1+1) v3 _) hz2 hqa
     ·rw [HTl.out]
      exact (HT.out.kept HB.out zt).step (((Q0s v3 w.heap.size 3 (.slice (some ⟨b2,f2,none⟩) m.c.length c2)).wide' (Kaq _) (by omega)).trans ((Q04 _ (w.heap.size+1+1) (.int .i64 m.id) (.int .i64 m.lim) (.bool m.dr) (.slice (some ⟨b2,f2,none⟩) m.c.length c2) (.slice (some ⟨bt,ft,none⟩) m.t.length ct)).wide' (by omega) (Kaq _)):Stp w.heap.size (w.heap.size+1+1+1) v3 _) (by have:=HB.out.size;omega) (.inl zt)
     ·exact Q07 (HB.out.setCell (p:=⟨w.heap.size,3,none⟩) (Kaq _) _) (by omega) _ _ _ _ _
   |true=>
    cases last with
    |false=>
     have hG:Q19 m a p false=false:=by rw [HGd.out];simp [*]
     rw [hG] at HV HHC HHT
     have HVl:=Q00 (HV.out.trans ((if_neg (by decide)).trans (if_neg (by decide))))
     have HCl:=Q00 (HHC.out.trans (if_neg (by decide)))
     have HTl:=Q00 (HHT.out.trans (if_neg (by simp)))
     clear HV HHC HHT HGd hG
     have HDR:=Q00 hdr
     clear hdr
     go_enter Try.func93,Try.ntmps93
     go_wp2_with fail
     refine (H1.out).mono ?_
     rintro e v1 ⟨rfl,hb⟩
     clear H1
     replace z0:=bC hb z0 zz
     replace z1:=bC hb z1 zz
     replace z2:=bC hb z2 zz
     replace z3:=bC hb z3 zz
     replace z4:=bC hb z4 zz
     replace fz0:=bF hb fz0 zz
     replace fz1:=bF hb fz1 zz
     replace fz2:=bF hb fz2 zz
     replace fz3:=bF hb fz3 zz
     replace fz4:=bF hb fz4 zz
     replace zz:=Kbq zz hb.size
     replace k0:=bC hb k0 zk
     replace k1:=bC hb k1 zk
     replace k2:=bC hb k2 zk
     replace k3:=bC hb k3 zk
     replace k4:=bC hb k4 zk
     replace zk:=Kbq zk hb.size
     replace r0:=bC hb r0 zr
     replace r1:=bC hb r1 zr
     replace r2:=bC hb r2 zr
     replace r3:=bC hb r3 zr
     replace r4:=bC hb r4 zr
     replace fr0:=bF hb fr0 zr
     replace fr1:=bF hb fr1 zr
     replace fr2:=bF hb fr2 zr
     replace fr3:=bF hb fr3 zr
     replace fr4:=bF hb fr4 zr
     replace zr:=Kbq zr hb.size
     replace HB:=Q00 (HB.out.trans (hb.mono HB.out.size))
     clear hb
     obtain ⟨W2,hW2⟩:∃W,(v1.alloc (.cells #[.bool q.u,.int .i64 q.a,.int .i64 q.p,.int .i64 q.v,.int .i64 q.t] 84))=W:=⟨_,rfl⟩
     have hb_W2:Below v1.heap.size v1 W2:=by rw [←hW2];exact ((Below.refl _ _).alloc (Kaq _) _)
     replace z0:=bC hb_W2 z0 zz
     replace z1:=bC hb_W2 z1 zz
     replace z2:=bC hb_W2 z2 zz
     replace z3:=bC hb_W2 z3 zz
     replace z4:=bC hb_W2 z4 zz
     replace fz0:=bF hb_W2 fz0 zz
     replace fz1:=bF hb_W2 fz1 zz
     replace fz2:=bF hb_W2 fz2 zz
     replace fz3:=bF hb_W2 fz3 zz
     replace fz4:=bF hb_W2 fz4 zz
     replace zz:=Kbq zz hb_W2.size
     replace k0:=bC hb_W2 k0 zk
     replace k1:=bC hb_W2 k1 zk
     replace k2:=bC hb_W2 k2 zk
     replace k3:=bC hb_W2 k3 zk
     replace k4:=bC hb_W2 k4 zk
     replace zk:=Kbq zk hb_W2.size
     replace r0:=bC hb_W2 r0 zr
     replace r1:=bC hb_W2 r1 zr
     replace r2:=bC hb_W2 r2 zr
     replace r3:=bC hb_W2 r3 zr
     replace r4:=bC hb_W2 r4 zr
     replace fr0:=bF hb_W2 fr0 zr
     replace fr1:=bF hb_W2 fr1 zr
     replace fr2:=bF hb_W2 fr2 zr
     replace fr3:=bF hb_W2 fr3 zr
     replace fr4:=bF hb_W2 fr4 zr
     replace zr:=Kbq zr hb_W2.size
     replace HB:=Q00 (HB.out.trans (hb_W2.mono HB.out.size))
     clear hb_W2
     have zs:v1.heap.size < W2.heap.size:=by rw [←hW2];simp
     have s0:W2.cell? ⟨v1.heap.size,0,none⟩=some (.bool q.u):=by rw [←hW2];simp [go_sem]
     have s1:W2.cell? ⟨v1.heap.size,1,none⟩=some (.int .i64 q.a):=by rw [←hW2];simp [go_sem]
     have s2:W2.cell? ⟨v1.heap.size,2,none⟩=some (.int .i64 q.p):=by rw [←hW2];simp [go_sem]
     have s3:W2.cell? ⟨v1.heap.size,3,none⟩=some (.int .i64 q.v):=by rw [←hW2];simp [go_sem]
     have s4:W2.cell? ⟨v1.heap.size,4,none⟩=some (.int .i64 q.t):=by rw [←hW2];simp [go_sem]
     have hlt':(nc:Int) < (m.c.length:Int):=by omega
     have hdr:=HDR.out
     have HCn:=Q00 (fun pp:Grown W2=> Q0j bc fc cc m.c pp.v (Kbq (Kbq zc HB.out.size) pp.b.size) ((HC.out.kept HB.out zc).kept pp.b (Kbq zc HB.out.size)) (by omega))
     rw [HNC.out] at HCn
     have GZ1:=Grown.cell z1 zz
     have GZ2:=Grown.cell z2 zz
     have GZ3:=Grown.cell z3 zz
     go_wp2
     (refine Q05 (by kernel_rfl) (by kernel_rfl) ?_;intro hne9;(repeat (go_big_quiet_step ((go_at_call 43;exact Q09 _ (HCn.out _)))));(with_reducible refine wpQuiet_nil ?_);intro _ hw9;obtain ⟨pq,hw8⟩:=hw9;subst hw8)
     obtain ⟨g2w,hg2w⟩:∃W,pq.v=W:=⟨_,rfl⟩
     have hb:=pq.b
     rw [hg2w] at hb ⊢
     clear GZ1 GZ2 GZ3 HCn
     replace z0:=bC hb z0 zz
     replace z1:=bC hb z1 zz
     replace z2:=bC hb z2 zz
     replace z3:=bC hb z3 zz
     replace z4:=bC hb z4 zz
     replace fz0:=bF hb fz0 zz
     replace fz1:=bF hb fz1 zz
     replace fz2:=bF hb fz2 zz
     replace fz3:=bF hb fz3 zz
     replace fz4:=bF hb fz4 zz
     replace zz:=Kbq zz hb.size
     replace k0:=bC hb k0 zk
     replace k1:=bC hb k1 zk
     replace k2:=bC hb k2 zk
     replace k3:=bC hb k3 zk
     replace k4:=bC hb k4 zk
     replace zk:=Kbq zk hb.size
     replace r0:=bC hb r0 zr
     replace r1:=bC hb r1 zr
     replace r2:=bC hb r2 zr
     replace r3:=bC hb r3 zr
     replace r4:=bC hb r4 zr
     replace fr0:=bF hb fr0 zr
     replace fr1:=bF hb fr1 zr
     replace fr2:=bF hb fr2 zr
     replace fr3:=bF hb fr3 zr
     replace fr4:=bF hb fr4 zr
     replace zr:=Kbq zr hb.size
     replace s0:=bC hb s0 zs
     replace s1:=bC hb s1 zs
     replace s2:=bC hb s2 zs
     replace s3:=bC hb s3 zs
     replace s4:=bC hb s4 zs
     replace zs:=Kbq zs hb.size
     replace HB:=Q00 (HB.out.trans (hb.mono HB.out.size))
     clear hb
     clear hg2w pq
     clear hlt' hdr
     have GZ1:=Grown.cell z1 zz
     have GZ3:=Grown.cell z3 zz
     have HCn:=Q00 (fun pp:Grown g2w=> Q0j bc fc cc m.c pp.v (Kbq (Kbq zc HB.out.size) pp.b.size) ((HC.out.kept HB.out zc).kept pp.b (Kbq zc HB.out.size)) (by omega))
     rw [HNC.out] at HCn
     go_wp2
     (refine Q05 (by kernel_rfl) (by kernel_rfl) ?_;intro hne9;(repeat (go_big_quiet_step ((go_at_call 43;exact Q09 _ (HCn.out _)))));(with_reducible refine wpQuiet_nil ?_);intro _ hw9;obtain ⟨pq,hw8⟩:=hw9;subst hw8)
     obtain ⟨g3w,hg3w⟩:∃W,pq.v=W:=⟨_,rfl⟩
     have hb:=pq.b
     rw [hg3w] at hb ⊢
     clear GZ1 GZ3 HCn
     replace z0:=bC hb z0 zz
     replace z1:=bC hb z1 zz
     replace z2:=bC hb z2 zz
     replace z3:=bC hb z3 zz
     replace z4:=bC hb z4 zz
     replace fz0:=bF hb fz0 zz
     replace fz1:=bF hb fz1 zz
     replace fz2:=bF hb fz2 zz
     replace fz3:=bF hb fz3 zz
     replace fz4:=bF hb fz4 zz
     replace zz:=Kbq zz hb.size
     replace k0:=bC hb k0 zk
     replace k1:=bC hb k1 zk
     replace k2:=bC hb k2 zk
     replace k3:=bC hb k3 zk
     replace k4:=bC hb k4 zk
     replace zk:=Kbq zk hb.size
     replace r0:=bC hb r0 zr
     replace r1:=bC hb r1 zr
     replace r2:=bC hb r2 zr
     replace r3:=bC hb r3 zr
     replace r4:=bC hb r4 zr
     replace fr0:=bF hb fr0 zr
     replace fr1:=bF hb fr1 zr
     replace fr2:=bF hb fr2 zr
     replace fr3:=bF hb fr3 zr
     replace fr4:=bF hb fr4 zr
     replace zr:=Kbq zr hb.size
     replace s0:=bC hb s0 zs
     replace s1:=bC hb s1 zs
     replace s2:=bC hb s2 zs
     replace s3:=bC hb s3 zs
     replace s4:=bC hb s4 zs
     replace zs:=Kbq zs hb.size
     replace HB:=Q00 (HB.out.trans (hb.mono HB.out.size))
     clear hb
     clear hg3w pq
     have hsc:=HB.out.size
     have hrz:=zr
     have H3:=Q00 (Q0X m bc fc cc bt ft ct now a p g3w hn0 hn1 hfl hc0 hc16 ht0 ht16 (by omega) (by omega) (HC.out.kept HB.out zc) (HT.out.kept HB.out zt))
     obtain ⟨tl,htl⟩:∃q,Q11 m.t a p 0 (now+20+1)=q:=⟨_,rfl⟩
     rw [htl] at H3 HTl
     have hpl:tl.length=m.t.length:=by rw [←htl];exact Q0p _ _ _ _ _
     by_cases hok:0≤(Q0m m.t a p).1
     ·rw [decide_eq_true hok] at H3
      rw [if_pos hok] at HVl
      clear htl hok
      go_wp2_with fail
      refine (H3.out).mono ?_
      rintro e v4 ⟨b3,f3,c3,rfl,hz3,hrd,hb,hq3⟩
      have HR:=Q00 hrd
      have hs3:=hb.size
      clear hrd H3
      replace z0:=bC hb z0 zz
      replace z1:=bC hb z1 zz
      replace z2:=bC hb z2 zz
      replace z3:=bC hb z3 zz
      replace z4:=bC hb z4 zz
      replace fz0:=bF hb fz0 zz
      replace fz1:=bF hb fz1 zz
      replace fz2:=bF hb fz2 zz
      replace fz3:=bF hb fz3 zz
      replace fz4:=bF hb fz4 zz
      replace zz:=Kbq zz hb.size
      replace k0:=bC hb k0 zk
      replace k1:=bC hb k1 zk
      replace k2:=bC hb k2 zk
      replace k3:=bC hb k3 zk
      replace k4:=bC hb k4 zk
      replace zk:=Kbq zk hb.size
      replace r0:=bC hb r0 zr
      replace r1:=bC hb r1 zr
      replace r2:=bC hb r2 zr
      replace r3:=bC hb r3 zr
      replace r4:=bC hb r4 zr
      replace fr0:=bF hb fr0 zr
      replace fr1:=bF hb fr1 zr
      replace fr2:=bF hb fr2 zr
      replace fr3:=bF hb fr3 zr
      replace fr4:=bF hb fr4 zr
      replace zr:=Kbq zr hb.size
      replace s0:=bC hb s0 zs
      replace s1:=bC hb s1 zs
      replace s2:=bC hb s2 zs
      replace s3:=bC hb s3 zs
      replace s4:=bC hb s4 zs
      replace zs:=Kbq zs hb.size
      replace HB:=Q00 (HB.out.trans (hb.mono HB.out.size))
      clear hb
      obtain ⟨Wx,hWx⟩:∃W,(v4.alloc (.cells #[.int .i64 m.id,.int .i64 m.lim,.bool m.dr,.slice (some ⟨bc,fc,none⟩) m.c.length cc,.slice (some ⟨b3,f3,none⟩) m.t.length c3] 27))=W:=⟨_,rfl⟩
      have hb_Wx:Below v4.heap.size v4 Wx:=by rw [←hWx];exact ((Below.refl _ _).alloc (Kaq _) _)
      replace z0:=bC hb_Wx z0 zz
      replace z1:=bC hb_Wx z1 zz
      replace z2:=bC hb_Wx z2 zz
      replace z3:=bC hb_Wx z3 zz
      replace z4:=bC hb_Wx z4 zz
      replace fz0:=bF hb_Wx fz0 zz
      replace fz1:=bF hb_Wx fz1 zz
      replace fz2:=bF hb_Wx fz2 zz
      replace fz3:=bF hb_Wx fz3 zz
      replace fz4:=bF hb_Wx fz4 zz
      replace zz:=Kbq zz hb_Wx.size
      replace k0:=bC hb_Wx k0 zk
      replace k1:=bC hb_Wx k1 zk
      replace k2:=bC hb_Wx k2 zk
      replace k3:=bC hb_Wx k3 zk
      replace k4:=bC hb_Wx k4 zk
      replace zk:=Kbq zk hb_Wx.size
      replace r0:=bC hb_Wx r0 zr
      replace r1:=bC hb_Wx r1 zr
      replace r2:=bC hb_Wx r2 zr
      replace r3:=bC hb_Wx r3 zr
      replace r4:=bC hb_Wx r4 zr
      replace fr0:=bF hb_Wx fr0 zr
      replace fr1:=bF hb_Wx fr1 zr
      replace fr2:=bF hb_Wx fr2 zr
      replace fr3:=bF hb_Wx fr3 zr
      replace fr4:=bF hb_Wx fr4 zr
      replace zr:=Kbq zr hb_Wx.size
      replace s0:=bC hb_Wx s0 zs
      replace s1:=bC hb_Wx s1 zs
      replace s2:=bC hb_Wx s2 zs
      replace s3:=bC hb_Wx s3 zs
      replace s4:=bC hb_Wx s4 zs
      replace zs:=Kbq zs hb_Wx.size
      replace HB:=Q00 (HB.out.trans (hb_Wx.mono HB.out.size))
      clear hb_Wx
      have zo:v4.heap.size < Wx.heap.size:=by rw [←hWx];simp
      have o0:Wx.cell? ⟨v4.heap.size,0,none⟩=some (.int .i64 m.id):=by rw [←hWx];simp [go_sem]
      have o1:Wx.cell? ⟨v4.heap.size,1,none⟩=some (.int .i64 m.lim):=by rw [←hWx];simp [go_sem]
      have o2:Wx.cell? ⟨v4.heap.size,2,none⟩=some (.bool m.dr):=by rw [←hWx];simp [go_sem]
      have o3:Wx.cell? ⟨v4.heap.size,3,none⟩=some (.slice (some ⟨bc,fc,none⟩) m.c.length cc):=by rw [←hWx];simp [go_sem]
      have o4:Wx.cell? ⟨v4.heap.size,4,none⟩=some (.slice (some ⟨b3,f3,none⟩) m.t.length c3):=by rw [←hWx];simp [go_sem]
      have hbx:=(show Below v4.heap.size v4 Wx by rw [←hWx];exact (Below.refl _ _).alloc (Kaq _) _)
      have hsx:=hbx.size
      have HRx:=Q00 (Row.kept HR.out hbx hz3)
      clear HR hbx
      have hne1:v4.heap.size≠w.heap.size+1+1:=by omega
      have hne2:w.heap.size+1+1≠v4.heap.size:=by omega
      go_wp2
      refine bodyPost_ret (v:=.tuple #[agt m.id m.lim m.dr (.slice (some ⟨bc,fc,none⟩) m.c.length cc) (.slice (some ⟨b3,f3,none⟩) m.t.length c3),.int .i64 2]) (by simp [results,Try.results93,go_sem,r0,r1,r2,r3,r4]) rfl ⟨bc,fc,cc,b3,f3,c3,by rw [HVl.out],by simp;omega,by simp;omega, ?_, ?_, ?_,by omega,by omega⟩
      ·rw [HCl.out]
       exact (HC.out.kept HB.out zc).step (Q04 Wx (w.heap.size+1+1) (.int .i64 m.id) (.int .i64 m.lim) (.bool m.dr) (.slice (some ⟨bc,fc,none⟩) m.c.length cc) (.slice (some ⟨b3,f3,none⟩) m.t.length c3)) (by have:=HB.out.size;omega) (.inl (by omega))
      ·rw [HTl.out]
       exact Row.step HRx.out (Q04 Wx (w.heap.size+1+1) (.int .i64 m.id) (.int .i64 m.lim) (.bool m.dr) (.slice (some ⟨bc,fc,none⟩) m.c.length cc) (.slice (some ⟨b3,f3,none⟩) m.t.length c3)) (by omega) (by omega)
      ·exact Q07 HB.out (by omega) _ _ _ _ _
     ·rw [decide_eq_false hok] at H3
      rw [if_neg hok] at HVl
      have htle:tl=m.t:=by rw [←htl];unfold Q11;rw [if_neg hok]
      rw [htle] at HTl
      clear htl hok
      go_wp2_with fail
      refine (H3.out).mono ?_
      rintro e v4 ⟨b3,f3,c3,rfl,hz3,hrd,hb,hq3⟩
      have HR:=Q00 hrd
      have hs3:=hb.size
      clear hrd H3
      replace z0:=bC hb z0 zz
      replace z1:=bC hb z1 zz
      replace z2:=bC hb z2 zz
      replace z3:=bC hb z3 zz
      replace z4:=bC hb z4 zz
      replace fz0:=bF hb fz0 zz
      replace fz1:=bF hb fz1 zz
      replace fz2:=bF hb fz2 zz
      replace fz3:=bF hb fz3 zz
      replace fz4:=bF hb fz4 zz
      replace zz:=Kbq zz hb.size
      replace k0:=bC hb k0 zk
      replace k1:=bC hb k1 zk
      replace k2:=bC hb k2 zk
      replace k3:=bC hb k3 zk
      replace k4:=bC hb k4 zk
      replace zk:=Kbq zk hb.size
      replace r0:=bC hb r0 zr
      replace r1:=bC hb r1 zr
      replace r2:=bC hb r2 zr
      replace r3:=bC hb r3 zr
      replace r4:=bC hb r4 zr
      replace fr0:=bF hb fr0 zr
      replace fr1:=bF hb fr1 zr
      replace fr2:=bF hb fr2 zr
      replace fr3:=bF hb fr3 zr
      replace fr4:=bF hb fr4 zr
      replace zr:=Kbq zr hb.size
      replace s0:=bC hb s0 zs
      replace s1:=bC hb s1 zs
      replace s2:=bC hb s2 zs
      replace s3:=bC hb s3 zs
      replace s4:=bC hb s4 zs
      replace zs:=Kbq zs hb.size
      replace HB:=Q00 (HB.out.trans (hb.mono HB.out.size))
      clear hb
      obtain ⟨Wx,hWx⟩:∃W,(v4.alloc (.cells #[.int .i64 m.id,.int .i64 m.lim,.bool m.dr,.slice (some ⟨bc,fc,none⟩) m.c.length cc,.slice (some ⟨b3,f3,none⟩) m.t.length c3] 27))=W:=⟨_,rfl⟩
      have hb_Wx:Below v4.heap.size v4 Wx:=by rw [←hWx];exact ((Below.refl _ _).alloc (Kaq _) _)
      replace z0:=bC hb_Wx z0 zz
      replace z1:=bC hb_Wx z1 zz
      replace z2:=bC hb_Wx z2 zz
      replace z3:=bC hb_Wx z3 zz
      replace z4:=bC hb_Wx z4 zz
      replace fz0:=bF hb_Wx fz0 zz
      replace fz1:=bF hb_Wx fz1 zz
      replace fz2:=bF hb_Wx fz2 zz
      replace fz3:=bF hb_Wx fz3 zz
      replace fz4:=bF hb_Wx fz4 zz
      replace zz:=Kbq zz hb_Wx.size
      replace k0:=bC hb_Wx k0 zk
      replace k1:=bC hb_Wx k1 zk
      replace k2:=bC hb_Wx k2 zk
      replace k3:=bC hb_Wx k3 zk
      replace k4:=bC hb_Wx k4 zk
      replace zk:=Kbq zk hb_Wx.size
      replace r0:=bC hb_Wx r0 zr
      replace r1:=bC hb_Wx r1 zr
      replace r2:=bC hb_Wx r2 zr
      replace r3:=bC hb_Wx r3 zr
      replace r4:=bC hb_Wx r4 zr
      replace fr0:=bF hb_Wx fr0 zr
      replace fr1:=bF hb_Wx fr1 zr
      replace fr2:=bF hb_Wx fr2 zr
      replace fr3:=bF hb_Wx fr3 zr
      replace fr4:=bF hb_Wx fr4 zr
      replace zr:=Kbq zr hb_Wx.size
      replace s0:=bC hb_Wx s0 zs
      replace s1:=bC hb_Wx s1 zs
      replace s2:=bC hb_Wx s2 zs
      replace s3:=bC hb_Wx s3 zs
      replace s4:=bC hb_Wx s4 zs
      replace zs:=Kbq zs hb_Wx.size
      replace HB:=Q00 (HB.out.trans (hb_Wx.mono HB.out.size))
      clear hb_Wx
      have zo:v4.heap.size < Wx.heap.size:=by rw [←hWx];simp
      have o0:Wx.cell? ⟨v4.heap.size,0,none⟩=some (.int .i64 m.id):=by rw [←hWx];simp [go_sem]
      have o1:Wx.cell? ⟨v4.heap.size,1,none⟩=some (.int .i64 m.lim):=by rw [←hWx];simp [go_sem]
      have o2:Wx.cell? ⟨v4.heap.size,2,none⟩=some (.bool m.dr):=by rw [←hWx];simp [go_sem]
      have o3:Wx.cell? ⟨v4.heap.size,3,none⟩=some (.slice (some ⟨bc,fc,none⟩) m.c.length cc):=by rw [←hWx];simp [go_sem]
      have o4:Wx.cell? ⟨v4.heap.size,4,none⟩=some (.slice (some ⟨b3,f3,none⟩) m.t.length c3):=by rw [←hWx];simp [go_sem]
      have hbx:=(show Below v4.heap.size v4 Wx by rw [←hWx];exact (Below.refl _ _).alloc (Kaq _) _)
      have hsx:=hbx.size
      have HRx:=Q00 (Row.kept HR.out hbx hz3)
      clear HR hbx
      have hne1:v4.heap.size≠w.heap.size+1+1:=by omega
      have hne2:w.heap.size+1+1≠v4.heap.size:=by omega
      go_wp2
      refine bodyPost_ret (v:=.tuple #[agt m.id m.lim m.dr (.slice (some ⟨bc,fc,none⟩) m.c.length cc) (.slice (some ⟨bt,ft,none⟩) m.t.length ct),.int .i64 5]) (by simp [results,Try.results93,go_sem,r0,r1,r2,r3,r4]) rfl ⟨bc,fc,cc,bt,ft,ct,by rw [HVl.out],by simp;omega,by simp;omega, ?_, ?_, ?_,by omega,by omega⟩
      ·rw [HCl.out]
       exact (HC.out.kept HB.out zc).step (Q04 Wx (w.heap.size+1+1) (.int .i64 m.id) (.int .i64 m.lim) (.bool m.dr) (.slice (some ⟨bc,fc,none⟩) m.c.length cc) (.slice (some ⟨bt,ft,none⟩) m.t.length ct)) (by have:=HB.out.size;omega) (.inl (by omega))
      ·rw [HTl.out]
       exact (HT.out.kept HB.out zt).step (Q04 Wx (w.heap.size+1+1) (.int .i64 m.id) (.int .i64 m.lim) (.bool m.dr) (.slice (some ⟨bc,fc,none⟩) m.c.length cc) (.slice (some ⟨bt,ft,none⟩) m.t.length ct)) (by have:=HB.out.size;omega) (.inl (by omega))
      ·exact Q07 HB.out (by omega) _ _ _ _ _
    |true=>
     have hG:Q19 m a p true=false:=by rw [HGd.out];simp [*]
     rw [hG] at HV HHC HHT
     have HVl:=Q00 (HV.out.trans ((if_neg (by decide)).trans (if_pos rfl)))
     have HCl:=Q00 (HHC.out.trans (if_neg (by decide)))
     have HTl:=Q00 (HHT.out.trans (if_pos (.inr rfl)))
     clear HV HHC HHT HGd hG
     have HDR:=Q00 hdr
     clear hdr
     go_enter Try.func93,Try.ntmps93
     go_wp2_with fail
     refine (H1.out).mono ?_
     rintro e v1 ⟨rfl,hb⟩
     clear H1
     replace z0:=bC hb z0 zz
     replace z1:=bC hb z1 zz
     replace z2:=bC hb z2 zz
     replace z3:=bC hb z3 zz
     replace z4:=bC hb z4 zz
     replace fz0:=bF hb fz0 zz
     replace fz1:=bF hb fz1 zz
     replace fz2:=bF hb fz2 zz
     replace fz3:=bF hb fz3 zz
     replace fz4:=bF hb fz4 zz
     replace zz:=Kbq zz hb.size
     replace k0:=bC hb k0 zk
     replace k1:=bC hb k1 zk
     replace k2:=bC hb k2 zk
     replace k3:=bC hb k3 zk
     replace k4:=bC hb k4 zk
     replace zk:=Kbq zk hb.size
     replace r0:=bC hb r0 zr
     replace r1:=bC hb r1 zr
     replace r2:=bC hb r2 zr
     replace r3:=bC hb r3 zr
     replace r4:=bC hb r4 zr
     replace fr0:=bF hb fr0 zr
     replace fr1:=bF hb fr1 zr
     replace fr2:=bF hb fr2 zr
     replace fr3:=bF hb fr3 zr
     replace fr4:=bF hb fr4 zr
     replace zr:=Kbq zr hb.size
     replace HB:=Q00 (HB.out.trans (hb.mono HB.out.size))
     clear hb
     obtain ⟨W2,hW2⟩:∃W,(v1.alloc (.cells #[.bool q.u,.int .i64 q.a,.int .i64 q.p,.int .i64 q.v,.int .i64 q.t] 84))=W:=⟨_,rfl⟩
     have hb_W2:Below v1.heap.size v1 W2:=by rw [←hW2];exact ((Below.refl _ _).alloc (Kaq _) _)
     replace z0:=bC hb_W2 z0 zz
     replace z1:=bC hb_W2 z1 zz
     replace z2:=bC hb_W2 z2 zz
     replace z3:=bC hb_W2 z3 zz
     replace z4:=bC hb_W2 z4 zz
     replace fz0:=bF hb_W2 fz0 zz
     replace fz1:=bF hb_W2 fz1 zz
     replace fz2:=bF hb_W2 fz2 zz
     replace fz3:=bF hb_W2 fz3 zz
     replace fz4:=bF hb_W2 fz4 zz
     replace zz:=Kbq zz hb_W2.size
     replace k0:=bC hb_W2 k0 zk
     replace k1:=bC hb_W2 k1 zk
     replace k2:=bC hb_W2 k2 zk
     replace k3:=bC hb_W2 k3 zk
     replace k4:=bC hb_W2 k4 zk
     replace zk:=Kbq zk hb_W2.size
     replace r0:=bC hb_W2 r0 zr
     replace r1:=bC hb_W2 r1 zr
     replace r2:=bC hb_W2 r2 zr
     replace r3:=bC hb_W2 r3 zr
     replace r4:=bC hb_W2 r4 zr
     replace fr0:=bF hb_W2 fr0 zr
     replace fr1:=bF hb_W2 fr1 zr
     replace fr2:=bF hb_W2 fr2 zr
     replace fr3:=bF hb_W2 fr3 zr
     replace fr4:=bF hb_W2 fr4 zr
     replace zr:=Kbq zr hb_W2.size
     replace HB:=Q00 (HB.out.trans (hb_W2.mono HB.out.size))
     clear hb_W2
     have zs:v1.heap.size < W2.heap.size:=by rw [←hW2];simp
     have s0:W2.cell? ⟨v1.heap.size,0,none⟩=some (.bool q.u):=by rw [←hW2];simp [go_sem]
     have s1:W2.cell? ⟨v1.heap.size,1,none⟩=some (.int .i64 q.a):=by rw [←hW2];simp [go_sem]
     have s2:W2.cell? ⟨v1.heap.size,2,none⟩=some (.int .i64 q.p):=by rw [←hW2];simp [go_sem]
     have s3:W2.cell? ⟨v1.heap.size,3,none⟩=some (.int .i64 q.v):=by rw [←hW2];simp [go_sem]
     have s4:W2.cell? ⟨v1.heap.size,4,none⟩=some (.int .i64 q.t):=by rw [←hW2];simp [go_sem]
     have hlt':(nc:Int) < (m.c.length:Int):=by omega
     have hdr:=HDR.out
     have HCn:=Q00 (fun pp:Grown W2=> Q0j bc fc cc m.c pp.v (Kbq (Kbq zc HB.out.size) pp.b.size) ((HC.out.kept HB.out zc).kept pp.b (Kbq zc HB.out.size)) (by omega))
     rw [HNC.out] at HCn
     have GZ1:=Grown.cell z1 zz
     have GZ2:=Grown.cell z2 zz
     have GZ3:=Grown.cell z3 zz
     go_wp2
     (refine Q05 (by kernel_rfl) (by kernel_rfl) ?_;intro hne9;(repeat (go_big_quiet_step ((go_at_call 43;exact Q09 _ (HCn.out _)))));(with_reducible refine wpQuiet_nil ?_);intro _ hw9;obtain ⟨pq,hw8⟩:=hw9;subst hw8)
     obtain ⟨g2w,hg2w⟩:∃W,pq.v=W:=⟨_,rfl⟩
     have hb:=pq.b
     rw [hg2w] at hb ⊢
     clear GZ1 GZ2 GZ3 HCn
     replace z0:=bC hb z0 zz
     replace z1:=bC hb z1 zz
     replace z2:=bC hb z2 zz
     replace z3:=bC hb z3 zz
     replace z4:=bC hb z4 zz
     replace fz0:=bF hb fz0 zz
     replace fz1:=bF hb fz1 zz
     replace fz2:=bF hb fz2 zz
     replace fz3:=bF hb fz3 zz
     replace fz4:=bF hb fz4 zz
     replace zz:=Kbq zz hb.size
     replace k0:=bC hb k0 zk
     replace k1:=bC hb k1 zk
     replace k2:=bC hb k2 zk
     replace k3:=bC hb k3 zk
     replace k4:=bC hb k4 zk
     replace zk:=Kbq zk hb.size
     replace r0:=bC hb r0 zr
     replace r1:=bC hb r1 zr
     replace r2:=bC hb r2 zr
     replace r3:=bC hb r3 zr
     replace r4:=bC hb r4 zr
     replace fr0:=bF hb fr0 zr
     replace fr1:=bF hb fr1 zr
     replace fr2:=bF hb fr2 zr
     replace fr3:=bF hb fr3 zr
     replace fr4:=bF hb fr4 zr
     replace zr:=Kbq zr hb.size
     replace s0:=bC hb s0 zs
     replace s1:=bC hb s1 zs
     replace s2:=bC hb s2 zs
     replace s3:=bC hb s3 zs
     replace s4:=bC hb s4 zs
     replace zs:=Kbq zs hb.size
     replace HB:=Q00 (HB.out.trans (hb.mono HB.out.size))
     clear hb
     clear hg2w pq
     clear hlt' hdr
     go_wp2
     refine bodyPost_ret (v:=.tuple #[agt m.id m.lim m.dr (.slice (some ⟨bc,fc,none⟩) m.c.length cc) (.slice (some ⟨bt,ft,none⟩) m.t.length ct),.int .i64 3]) (by simp [results,Try.results93,go_sem,r0,r1,r2,r3,r4]) rfl ⟨bc,fc,cc,bt,ft,ct,by rw [HVl.out],by simp;omega,by simp;omega, ?_, ?_, ?_,by omega,by omega⟩
     ·rw [HCl.out]
      exact (HC.out.kept HB.out zc).step (Q04 g2w (w.heap.size+1+1) (.int .i64 m.id) (.int .i64 m.lim) (.bool m.dr) (.slice (some ⟨bc,fc,none⟩) m.c.length cc) (.slice (some ⟨bt,ft,none⟩) m.t.length ct)) (by have:=HB.out.size;omega) (.inl (by omega))
     ·rw [HTl.out]
      exact (HT.out.kept HB.out zt).step (Q04 g2w (w.heap.size+1+1) (.int .i64 m.id) (.int .i64 m.lim) (.bool m.dr) (.slice (some ⟨bc,fc,none⟩) m.c.length cc) (.slice (some ⟨bt,ft,none⟩) m.t.length ct)) (by have:=HB.out.size;omega) (.inl (by omega))
     ·exact Q07 HB.out (by omega) _ _ _ _ _
 ·rcases Bool.eq_false_or_eq_true m.dr with hdr|hdr
  ·cases sh with
   |false=>
    cases last with
    |false=>
     have hG:Q19 m a p false=false:=by rw [HGd.out];simp [*]
     rw [hG] at HV HHC HHT
     have HVl:=Q00 (HV.out.trans ((if_neg (by decide)).trans (if_neg (by decide))))
     have HCl:=Q00 (HHC.out.trans (if_neg (by decide)))
     have HTl:=Q00 (HHT.out.trans (if_neg (by simp)))
     clear HV HHC HHT HGd hG
     have HDR:=Q00 hdr
     clear hdr
     go_enter Try.func93,Try.ntmps93
     go_wp2_with fail
     refine (H1.out).mono ?_
     rintro e v1 ⟨rfl,hb⟩
     clear H1
     replace z0:=bC hb z0 zz
     replace z1:=bC hb z1 zz
     replace z2:=bC hb z2 zz
     replace z3:=bC hb z3 zz
     replace z4:=bC hb z4 zz
     replace fz0:=bF hb fz0 zz
     replace fz1:=bF hb fz1 zz
     replace fz2:=bF hb fz2 zz
     replace fz3:=bF hb fz3 zz
     replace fz4:=bF hb fz4 zz
     replace zz:=Kbq zz hb.size
     replace k0:=bC hb k0 zk
     replace k1:=bC hb k1 zk
     replace k2:=bC hb k2 zk
     replace k3:=bC hb k3 zk
     replace k4:=bC hb k4 zk
     replace zk:=Kbq zk hb.size
     replace r0:=bC hb r0 zr
     replace r1:=bC hb r1 zr
     replace r2:=bC hb r2 zr
     replace r3:=bC hb r3 zr
     replace r4:=bC hb r4 zr
     replace fr0:=bF hb fr0 zr
     replace fr1:=bF hb fr1 zr
     replace fr2:=bF hb fr2 zr
     replace fr3:=bF hb fr3 zr
     replace fr4:=bF hb fr4 zr
     replace zr:=Kbq zr hb.size
     replace HB:=Q00 (HB.out.trans (hb.mono HB.out.size))
     clear hb
     obtain ⟨W2,hW2⟩:∃W,(v1.alloc (.cells #[.bool q.u,.int .i64 q.a,.int .i64 q.p,.int .i64 q.v,.int .i64 q.t] 84))=W:=⟨_,rfl⟩
     have hb_W2:Below v1.heap.size v1 W2:=by rw [←hW2];exact ((Below.refl _ _).alloc (Kaq _) _)
     replace z0:=bC hb_W2 z0 zz
     replace z1:=bC hb_W2 z1 zz
     replace z2:=bC hb_W2 z2 zz
     replace z3:=bC hb_W2 z3 zz
     replace z4:=bC hb_W2 z4 zz
     replace fz0:=bF hb_W2 fz0 zz
     replace fz1:=bF hb_W2 fz1 zz
     replace fz2:=bF hb_W2 fz2 zz
     replace fz3:=bF hb_W2 fz3 zz
     replace fz4:=bF hb_W2 fz4 zz
     replace zz:=Kbq zz hb_W2.size
     replace k0:=bC hb_W2 k0 zk
     replace k1:=bC hb_W2 k1 zk
     replace k2:=bC hb_W2 k2 zk
     replace k3:=bC hb_W2 k3 zk
     replace k4:=bC hb_W2 k4 zk
     replace zk:=Kbq zk hb_W2.size
     replace r0:=bC hb_W2 r0 zr
     replace r1:=bC hb_W2 r1 zr
     replace r2:=bC hb_W2 r2 zr
     replace r3:=bC hb_W2 r3 zr
     replace r4:=bC hb_W2 r4 zr
     replace fr0:=bF hb_W2 fr0 zr
     replace fr1:=bF hb_W2 fr1 zr
     replace fr2:=bF hb_W2 fr2 zr
     replace fr3:=bF hb_W2 fr3 zr
     replace fr4:=bF hb_W2 fr4 zr
     replace zr:=Kbq zr hb_W2.size
     replace HB:=Q00 (HB.out.trans (hb_W2.mono HB.out.size))
     clear hb_W2
     have zs:v1.heap.size < W2.heap.size:=by rw [←hW2];simp
     have s0:W2.cell? ⟨v1.heap.size,0,none⟩=some (.bool q.u):=by rw [←hW2];simp [go_sem]
     have s1:W2.cell? ⟨v1.heap.size,1,none⟩=some (.int .i64 q.a):=by rw [←hW2];simp [go_sem]
     have s2:W2.cell? ⟨v1.heap.size,2,none⟩=some (.int .i64 q.p):=by rw [←hW2];simp [go_sem]
     have s3:W2.cell? ⟨v1.heap.size,3,none⟩=some (.int .i64 q.v):=by rw [←hW2];simp [go_sem]
     have s4:W2.cell? ⟨v1.heap.size,4,none⟩=some (.int .i64 q.t):=by rw [←hW2];simp [go_sem]
     have hlt':¬((nc:Int) < (m.c.length:Int)):=by omega
     have hdr:=HDR.out
     have HCn:=Q00 (fun pp:Grown W2=> Q0j bc fc cc m.c pp.v (Kbq (Kbq zc HB.out.size) pp.b.size) ((HC.out.kept HB.out zc).kept pp.b (Kbq zc HB.out.size)) (by omega))
     rw [HNC.out] at HCn
     have GZ1:=Grown.cell z1 zz
     have GZ2:=Grown.cell z2 zz
     have GZ3:=Grown.cell z3 zz
     go_wp2
     (refine Q05 (by kernel_rfl) (by kernel_rfl) ?_;intro hne9;(repeat (go_big_quiet_step ((go_at_call 43;exact Q09 _ (HCn.out _)))));(with_reducible refine wpQuiet_nil ?_);intro _ hw9;obtain ⟨pq,hw8⟩:=hw9;subst hw8)
     obtain ⟨g2w,hg2w⟩:∃W,pq.v=W:=⟨_,rfl⟩
     have hb:=pq.b
     rw [hg2w] at hb ⊢
     clear GZ1 GZ2 GZ3 HCn
     replace z0:=bC hb z0 zz
     replace z1:=bC hb z1 zz
     replace z2:=bC hb z2 zz
     replace z3:=bC hb z3 zz
     replace z4:=bC hb z4 zz
     replace fz0:=bF hb fz0 zz
     replace fz1:=bF hb fz1 zz
     replace fz2:=bF hb fz2 zz
     replace fz3:=bF hb fz3 zz
     replace fz4:=bF hb fz4 zz
     replace zz:=Kbq zz hb.size
     replace k0:=bC hb k0 zk
     replace k1:=bC hb k1 zk
     replace k2:=bC hb k2 zk
     replace k3:=bC hb k3 zk
     replace k4:=bC hb k4 zk
     replace zk:=Kbq zk hb.size
     replace r0:=bC hb r0 zr
     replace r1:=bC hb r1 zr
     replace r2:=bC hb r2 zr
     replace r3:=bC hb r3 zr
     replace r4:=bC hb r4 zr
     replace fr0:=bF hb fr0 zr
     replace fr1:=bF hb fr1 zr
     replace fr2:=bF hb fr2 zr
     replace fr3:=bF hb fr3 zr
     replace fr4:=bF hb fr4 zr
     replace zr:=Kbq zr hb.size
     replace s0:=bC hb s0 zs
     replace s1:=bC hb s1 zs
     replace s2:=bC hb s2 zs
     replace s3:=bC hb s3 zs
     replace s4:=bC hb s4 zs
     replace zs:=Kbq zs hb.size
     replace HB:=Q00 (HB.out.trans (hb.mono HB.out.size))
     clear hb
     clear hg2w pq
     clear hlt' hdr
     have GZ1:=Grown.cell z1 zz
     have GZ3:=Grown.cell z3 zz
     have HCn:=Q00 (fun pp:Grown g2w=> Q0j bc fc cc m.c pp.v (Kbq (Kbq zc HB.out.size) pp.b.size) ((HC.out.kept HB.out zc).kept pp.b (Kbq zc HB.out.size)) (by omega))
     rw [HNC.out] at HCn
     go_wp2
     (refine Q05 (by kernel_rfl) (by kernel_rfl) ?_;intro hne9;(repeat (go_big_quiet_step ((go_at_call 43;exact Q09 _ (HCn.out _)))));(with_reducible refine wpQuiet_nil ?_);intro _ hw9;obtain ⟨pq,hw8⟩:=hw9;subst hw8)
     obtain ⟨g3w,hg3w⟩:∃W,pq.v=W:=⟨_,rfl⟩
     have hb:=pq.b
     rw [hg3w] at hb ⊢
     clear GZ1 GZ3 HCn
     replace z0:=bC hb z0 zz
     replace z1:=bC hb z1 zz
     replace z2:=bC hb z2 zz
     replace z3:=bC hb z3 zz
     replace z4:=bC hb z4 zz
     replace fz0:=bF hb fz0 zz
     replace fz1:=bF hb fz1 zz
     replace fz2:=bF hb fz2 zz
     replace fz3:=bF hb fz3 zz
     replace fz4:=bF hb fz4 zz
     replace zz:=Kbq zz hb.size
     replace k0:=bC hb k0 zk
     replace k1:=bC hb k1 zk
     replace k2:=bC hb k2 zk
     replace k3:=bC hb k3 zk
     replace k4:=bC hb k4 zk
     replace zk:=Kbq zk hb.size
     replace r0:=bC hb r0 zr
     replace r1:=bC hb r1 zr
     replace r2:=bC hb r2 zr
     replace r3:=bC hb r3 zr
     replace r4:=bC hb r4 zr
     replace fr0:=bF hb fr0 zr
     replace fr1:=bF hb fr1 zr
     replace fr2:=bF hb fr2 zr
     replace fr3:=bF hb fr3 zr
     replace fr4:=bF hb fr4 zr
     replace zr:=Kbq zr hb.size
     replace s0:=bC hb s0 zs
     replace s1:=bC hb s1 zs
     replace s2:=bC hb s2 zs
     replace s3:=bC hb s3 zs
     replace s4:=bC hb s4 zs
     replace zs:=Kbq zs hb.size
     replace HB:=Q00 (HB.out.trans (hb.mono HB.out.size))
     clear hb
     clear hg3w pq
     have hsc:=HB.out.size
     have hrz:=zr
     have H3:=Q00 (Q0X m bc fc cc bt ft ct now a p g3w hn0 hn1 hfl hc0 hc16 ht0 ht16 (by omega) (by omega) (HC.out.kept HB.out zc) (HT.out.kept HB.out zt))
     obtain ⟨tl,htl⟩:∃q,Q11 m.t a p 0 (now+20+1)=q:=⟨_,rfl⟩
     rw [htl] at H3 HTl
     have hpl:tl.length=m.t.length:=by rw [←htl];exact Q0p _ _ _ _ _
     by_cases hok:0≤(Q0m m.t a p).1
     ·rw [decide_eq_true hok] at H3
      rw [if_pos hok] at HVl
      clear htl hok
      go_wp2_with fail
      refine (H3.out).mono ?_
      rintro e v4 ⟨b3,f3,c3,rfl,hz3,hrd,hb,hq3⟩
      have HR:=Q00 hrd
      have hs3:=hb.size
      clear hrd H3
      replace z0:=bC hb z0 zz
      replace z1:=bC hb z1 zz
      replace z2:=bC hb z2 zz
      replace z3:=bC hb z3 zz
      replace z4:=bC hb z4 zz
      replace fz0:=bF hb fz0 zz
      replace fz1:=bF hb fz1 zz
      replace fz2:=bF hb fz2 zz
      replace fz3:=bF hb fz3 zz
      replace fz4:=bF hb fz4 zz
      replace zz:=Kbq zz hb.size
      replace k0:=bC hb k0 zk
      replace k1:=bC hb k1 zk
      replace k2:=bC hb k2 zk
      replace k3:=bC hb k3 zk
      replace k4:=bC hb k4 zk
      replace zk:=Kbq zk hb.size
      replace r0:=bC hb r0 zr
      replace r1:=bC hb r1 zr
      replace r2:=bC hb r2 zr
      replace r3:=bC hb r3 zr
      replace r4:=bC hb r4 zr
      replace fr0:=bF hb fr0 zr
      replace fr1:=bF hb fr1 zr
      replace fr2:=bF hb fr2 zr
      replace fr3:=bF hb fr3 zr
      replace fr4:=bF hb fr4 zr
      replace zr:=Kbq zr hb.size
      replace s0:=bC hb s0 zs
      replace s1:=bC hb s1 zs
      replace s2:=bC hb s2 zs
      replace s3:=bC hb s3 zs
      replace s4:=bC hb s4 zs
      replace zs:=Kbq zs hb.size
      replace HB:=Q00 (HB.out.trans (hb.mono HB.out.size))
      clear hb
      obtain ⟨Wx,hWx⟩:∃W,(v4.alloc (.cells #[.int .i64 m.id,.int .i64 m.lim,.bool m.dr,.slice (some ⟨bc,fc,none⟩) m.c.length cc,.slice (some ⟨b3,f3,none⟩) m.t.length c3] 27))=W:=⟨_,rfl⟩
      have hb_Wx:Below v4.heap.size v4 Wx:=by rw [←hWx];exact ((Below.refl _ _).alloc (Kaq _) _)
      replace z0:=bC hb_Wx z0 zz
      replace z1:=bC hb_Wx z1 zz
      replace z2:=bC hb_Wx z2 zz
      replace z3:=bC hb_Wx z3 zz
      replace z4:=bC hb_Wx z4 zz
      replace fz0:=bF hb_Wx fz0 zz
      replace fz1:=bF hb_Wx fz1 zz
      replace fz2:=bF hb_Wx fz2 zz
      replace fz3:=bF hb_Wx fz3 zz
      replace fz4:=bF hb_Wx fz4 zz
      replace zz:=Kbq zz hb_Wx.size
      replace k0:=bC hb_Wx k0 zk
      replace k1:=bC hb_Wx k1 zk
      replace k2:=bC hb_Wx k2 zk
      replace k3:=bC hb_Wx k3 zk
      replace k4:=bC hb_Wx k4 zk
      replace zk:=Kbq zk hb_Wx.size
      replace r0:=bC hb_Wx r0 zr
      replace r1:=bC hb_Wx r1 zr
      replace r2:=bC hb_Wx r2 zr
      replace r3:=bC hb_Wx r3 zr
      replace r4:=bC hb_Wx r4 zr
      replace fr0:=bF hb_Wx fr0 zr
      replace fr1:=bF hb_Wx fr1 zr
      replace fr2:=bF hb_Wx fr2 zr
      replace fr3:=bF hb_Wx fr3 zr
      replace fr4:=bF hb_Wx fr4 zr
      replace zr:=Kbq zr hb_Wx.size
      replace s0:=bC hb_Wx s0 zs
      replace s1:=bC hb_Wx s1 zs
      replace s2:=bC hb_Wx s2 zs
      replace s3:=bC hb_Wx s3 zs
      replace s4:=bC hb_Wx s4 zs
      replace zs:=Kbq zs hb_Wx.size
      replace HB:=Q00 (HB.out.trans (hb_Wx.mono HB.out.size))
      clear hb_Wx
      have zo:v4.heap.size < Wx.heap.size:=by rw [←hWx];simp
      have o0:Wx.cell? ⟨v4.heap.size,0,none⟩=some (.int .i64 m.id):=by rw [←hWx];simp [go_sem]
      have o1:Wx.cell? ⟨v4.heap.size,1,none⟩=some (.int .i64 m.lim):=by rw [←hWx];simp [go_sem]
      have o2:Wx.cell? ⟨v4.heap.size,2,none⟩=some (.bool m.dr):=by rw [←hWx];simp [go_sem]
      have o3:Wx.cell? ⟨v4.heap.size,3,none⟩=some (.slice (some ⟨bc,fc,none⟩) m.c.length cc):=by rw [←hWx];simp [go_sem]
      have o4:Wx.cell? ⟨v4.heap.size,4,none⟩=some (.slice (some ⟨b3,f3,none⟩) m.t.length c3):=by rw [←hWx];simp [go_sem]
      have hbx:=(show Below v4.heap.size v4 Wx by rw [←hWx];exact (Below.refl _ _).alloc (Kaq _) _)
      have hsx:=hbx.size
      have HRx:=Q00 (Row.kept HR.out hbx hz3)
      clear HR hbx
      have hne1:v4.heap.size≠w.heap.size+1+1:=by omega
      have hne2:w.heap.size+1+1≠v4.heap.size:=by omega
      go_wp2
      refine bodyPost_ret (v:=.tuple #[agt m.id m.lim m.dr (.slice (some ⟨bc,fc,none⟩) m.c.length cc) (.slice (some ⟨b3,f3,none⟩) m.t.length c3),.int .i64 2]) (by simp [results,Try.results93,go_sem,r0,r1,r2,r3,r4]) rfl ⟨bc,fc,cc,b3,f3,c3,by rw [HVl.out],by simp;omega,by simp;omega, ?_, ?_, ?_,by omega,by omega⟩
      ·rw [HCl.out]
       exact (HC.out.kept HB.out zc).step (Q04 Wx (w.heap.size+1+1) (.int .i64 m.id) (.int .i64 m.lim) (.bool m.dr) (.slice (some ⟨bc,fc,none⟩) m.c.length cc) (.slice (some ⟨b3,f3,none⟩) m.t.length c3)) (by have:=HB.out.size;omega) (.inl (by omega))
      ·rw [HTl.out]
       exact Row.step HRx.out (Q04 Wx (w.heap.size+1+1) (.int .i64 m.id) (.int .i64 m.lim) (.bool m.dr) (.slice (some ⟨bc,fc,none⟩) m.c.length cc) (.slice (some ⟨b3,f3,none⟩) m.t.length c3)) (by omega) (by omega)
      ·exact Q07 HB.out (by omega) _ _ _ _ _
     ·rw [decide_eq_false hok] at H3
      rw [if_neg hok] at HVl
      have htle:tl=m.t:=by rw [←htl];unfold Q11;rw [if_neg hok]
      rw [htle] at HTl
      clear htl hok
      go_wp2_with fail
      refine (H3.out).mono ?_
      rintro e v4 ⟨b3,f3,c3,rfl,hz3,hrd,hb,hq3⟩
      have HR:=Q00 hrd
      have hs3:=hb.size
      clear hrd H3
      replace z0:=bC hb z0 zz
      replace z1:=bC hb z1 zz
      replace z2:=bC hb z2 zz
      replace z3:=bC hb z3 zz
      replace z4:=bC hb z4 zz
      replace fz0:=bF hb fz0 zz
      replace fz1:=bF hb fz1 zz
      replace fz2:=bF hb fz2 zz
      replace fz3:=bF hb fz3 zz
      replace fz4:=bF hb fz4 zz
      replace zz:=Kbq zz hb.size
      replace k0:=bC hb k0 zk
      replace k1:=bC hb k1 zk
      replace k2:=bC hb k2 zk
      replace k3:=bC hb k3 zk
      replace k4:=bC hb k4 zk
      replace zk:=Kbq zk hb.size
      replace r0:=bC hb r0 zr
      replace r1:=bC hb r1 zr
      replace r2:=bC hb r2 zr
      replace r3:=bC hb r3 zr
      replace r4:=bC hb r4 zr
      replace fr0:=bF hb fr0 zr
      replace fr1:=bF hb fr1 zr
      replace fr2:=bF hb fr2 zr
      replace fr3:=bF hb fr3 zr
      replace fr4:=bF hb fr4 zr
      replace zr:=Kbq zr hb.size
      replace s0:=bC hb s0 zs
      replace s1:=bC hb s1 zs
      replace s2:=bC hb s2 zs
      replace s3:=bC hb s3 zs
      replace s4:=bC hb s4 zs
      replace zs:=Kbq zs hb.size
      replace HB:=Q00 (HB.out.trans (hb.mono HB.out.size))
      clear hb
      obtain ⟨Wx,hWx⟩:∃W,(v4.alloc (.cells #[.int .i64 m.id,.int .i64 m.lim,.bool m.dr,.slice (some ⟨bc,fc,none⟩) m.c.length cc,.slice (some ⟨b3,f3,none⟩) m.t.length c3] 27))=W:=⟨_,rfl⟩
      have hb_Wx:Below v4.heap.size v4 Wx:=by rw [←hWx];exact ((Below.refl _ _).alloc (Kaq _) _)
      replace z0:=bC hb_Wx z0 zz
      replace z1:=bC hb_Wx z1 zz
      replace z2:=bC hb_Wx z2 zz
      replace z3:=bC hb_Wx z3 zz
      replace z4:=bC hb_Wx z4 zz
      replace fz0:=bF hb_Wx fz0 zz
      replace fz1:=bF hb_Wx fz1 zz
      replace fz2:=bF hb_Wx fz2 zz
      replace fz3:=bF hb_Wx fz3 zz
      replace fz4:=bF hb_Wx fz4 zz
      replace zz:=Kbq zz hb_Wx.size
      replace k0:=bC hb_Wx k0 zk
      replace k1:=bC hb_Wx k1 zk
      replace k2:=bC hb_Wx k2 zk
      replace k3:=bC hb_Wx k3 zk
      replace k4:=bC hb_Wx k4 zk
      replace zk:=Kbq zk hb_Wx.size
      replace r0:=bC hb_Wx r0 zr
      replace r1:=bC hb_Wx r1 zr
      replace r2:=bC hb_Wx r2 zr
      replace r3:=bC hb_Wx r3 zr
      replace r4:=bC hb_Wx r4 zr
      replace fr0:=bF hb_Wx fr0 zr
      replace fr1:=bF hb_Wx fr1 zr
      replace fr2:=bF hb_Wx fr2 zr
      replace fr3:=bF hb_Wx fr3 zr
      replace fr4:=bF hb_Wx fr4 zr
      replace zr:=Kbq zr hb_Wx.size
      replace s0:=bC hb_Wx s0 zs
      replace s1:=bC hb_Wx s1 zs
      replace s2:=bC hb_Wx s2 zs
      replace s3:=bC hb_Wx s3 zs
      replace s4:=bC hb_Wx s4 zs
      replace zs:=Kbq zs hb_Wx.size
      replace HB:=Q00 (HB.out.trans (hb_Wx.mono HB.out.size))
      clear hb_Wx
      have zo:v4.heap.size < Wx.heap.size:=by rw [←hWx];simp
      have o0:Wx.cell? ⟨v4.heap.size,0,none⟩=some (.int .i64 m.id):=by rw [←hWx];simp [go_sem]
      have o1:Wx.cell? ⟨v4.heap.size,1,none⟩=some (.int .i64 m.lim):=by rw [←hWx];simp [go_sem]
      have o2:Wx.cell? ⟨v4.heap.size,2,none⟩=some (.bool m.dr):=by rw [←hWx];simp [go_sem]
      have o3:Wx.cell? ⟨v4.heap.size,3,none⟩=some (.slice (some ⟨bc,fc,none⟩) m.c.length cc):=by rw [←hWx];simp [go_sem]
      have o4:Wx.cell? ⟨v4.heap.size,4,none⟩=some (.slice (some ⟨b3,f3,none⟩) m.t.length c3):=by rw [←hWx];simp [go_sem]
      have hbx:=(show Below v4.heap.size v4 Wx by rw [←hWx];exact (Below.refl _ _).alloc (Kaq _) _)
      have hsx:=hbx.size
      have HRx:=Q00 (Row.kept HR.out hbx hz3)
      clear HR hbx
      have hne1:v4.heap.size≠w.heap.size+1+1:=by omega
      have hne2:w.heap.size+1+1≠v4.heap.size:=by omega
      go_wp2
      refine bodyPost_ret (v:=.tuple #[agt m.id m.lim m.dr (.slice (some ⟨bc,fc,none⟩) m.c.length cc) (.slice (some ⟨bt,ft,none⟩) m.t.length ct),.int .i64 5]) (by simp [results,Try.results93,go_sem,r0,r1,r2,r3,r4]) rfl ⟨bc,fc,cc,bt,ft,ct,by rw [HVl.out],by simp;omega,by simp;omega, ?_, ?_, ?_,by omega,by omega⟩
      ·rw [HCl.out]
       exact (HC.out.kept HB.out zc).step (Q04 Wx (w.heap.size+1+1) (.int .i64 m.id) (.int .i64 m.lim) (.bool m.dr) (.slice (some ⟨bc,fc,none⟩) m.c.length cc) (.slice (some ⟨bt,ft,none⟩) m.t.length ct)) (by have:=HB.out.size;omega) (.inl (by omega))
      ·rw [HTl.out]
       exact (HT.out.kept HB.out zt).step (Q04 Wx (w.heap.size+1+1) (.int .i64 m.id) (.int .i64 m.lim) (.bool m.dr) (.slice (some ⟨bc,fc,none⟩) m.c.length cc) (.slice (some ⟨bt,ft,none⟩) m.t.length ct)) (by have:=HB.out.size;omega) (.inl (by omega))
      ·exact Q07 HB.out (by omega) _ _ _ _ _
    |true=>
     have hG:Q19 m a p true=false:=by rw [HGd.out];simp [*]
     rw [hG] at HV HHC HHT
     have HVl:=Q00 (HV.out.trans ((if_neg (by decide)).trans (if_pos rfl)))
     have HCl:=Q00 (HHC.out.trans (if_neg (by decide)))
     have HTl:=Q00 (HHT.out.trans (if_pos (.inr rfl)))
     clear HV HHC HHT HGd hG
     have HDR:=Q00 hdr
     clear hdr
     go_enter Try.func93,Try.ntmps93
     go_wp2_with fail
     refine (H1.out).mono ?_
     rintro e v1 ⟨rfl,hb⟩
     clear H1
     replace z0:=bC hb z0 zz
     replace z1:=bC hb z1 zz
     replace z2:=bC hb z2 zz
     replace z3:=bC hb z3 zz
     replace z4:=bC hb z4 zz
     replace fz0:=bF hb fz0 zz
     replace fz1:=bF hb fz1 zz
     replace fz2:=bF hb fz2 zz
     replace fz3:=bF hb fz3 zz
     replace fz4:=bF hb fz4 zz
     replace zz:=Kbq zz hb.size
     replace k0:=bC hb k0 zk
     replace k1:=bC hb k1 zk
     replace k2:=bC hb k2 zk
     replace k3:=bC hb k3 zk
     replace k4:=bC hb k4 zk
     replace zk:=Kbq zk hb.size
     replace r0:=bC hb r0 zr
     replace r1:=bC hb r1 zr
     replace r2:=bC hb r2 zr
     replace r3:=bC hb r3 zr
     replace r4:=bC hb r4 zr
     replace fr0:=bF hb fr0 zr
     replace fr1:=bF hb fr1 zr
     replace fr2:=bF hb fr2 zr
     replace fr3:=bF hb fr3 zr
     replace fr4:=bF hb fr4 zr
     replace zr:=Kbq zr hb.size
     replace HB:=Q00 (HB.out.trans (hb.mono HB.out.size))
     clear hb
     obtain ⟨W2,hW2⟩:∃W,(v1.alloc (.cells #[.bool q.u,.int .i64 q.a,.int .i64 q.p,.int .i64 q.v,.int .i64 q.t] 84))=W:=⟨_,rfl⟩
     have hb_W2:Below v1.heap.size v1 W2:=by rw [←hW2];exact ((Below.refl _ _).alloc (Kaq _) _)
     replace z0:=bC hb_W2 z0 zz
     replace z1:=bC hb_W2 z1 zz
     replace z2:=bC hb_W2 z2 zz
     replace z3:=bC hb_W2 z3 zz
     replace z4:=bC hb_W2 z4 zz
     replace fz0:=bF hb_W2 fz0 zz
     replace fz1:=bF hb_W2 fz1 zz
     replace fz2:=bF hb_W2 fz2 zz
     replace fz3:=bF hb_W2 fz3 zz
     replace fz4:=bF hb_W2 fz4 zz
     replace zz:=Kbq zz hb_W2.size
     replace k0:=bC hb_W2 k0 zk
     replace k1:=bC hb_W2 k1 zk
     replace k2:=bC hb_W2 k2 zk
     replace k3:=bC hb_W2 k3 zk
     replace k4:=bC hb_W2 k4 zk
     replace zk:=Kbq zk hb_W2.size
     replace r0:=bC hb_W2 r0 zr
     replace r1:=bC hb_W2 r1 zr
     replace r2:=bC hb_W2 r2 zr
     replace r3:=bC hb_W2 r3 zr
     replace r4:=bC hb_W2 r4 zr
     replace fr0:=bF hb_W2 fr0 zr
     replace fr1:=bF hb_W2 fr1 zr
     replace fr2:=bF hb_W2 fr2 zr
     replace fr3:=bF hb_W2 fr3 zr
     replace fr4:=bF hb_W2 fr4 zr
     replace zr:=Kbq zr hb_W2.size
     replace HB:=Q00 (HB.out.trans (hb_W2.mono HB.out.size))
     clear hb_W2
     have zs:v1.heap.size < W2.heap.size:=by rw [←hW2];simp
     have s0:W2.cell? ⟨v1.heap.size,0,none⟩=some (.bool q.u):=by rw [←hW2];simp [go_sem]
     have s1:W2.cell? ⟨v1.heap.size,1,none⟩=some (.int .i64 q.a):=by rw [←hW2];simp [go_sem]
     have s2:W2.cell? ⟨v1.heap.size,2,none⟩=some (.int .i64 q.p):=by rw [←hW2];simp [go_sem]
     have s3:W2.cell? ⟨v1.heap.size,3,none⟩=some (.int .i64 q.v):=by rw [←hW2];simp [go_sem]
     have s4:W2.cell? ⟨v1.heap.size,4,none⟩=some (.int .i64 q.t):=by rw [←hW2];simp [go_sem]
     have hlt':¬((nc:Int) < (m.c.length:Int)):=by omega
     have hdr:=HDR.out
     have HCn:=Q00 (fun pp:Grown W2=> Q0j bc fc cc m.c pp.v (Kbq (Kbq zc HB.out.size) pp.b.size) ((HC.out.kept HB.out zc).kept pp.b (Kbq zc HB.out.size)) (by omega))
     rw [HNC.out] at HCn
     have GZ1:=Grown.cell z1 zz
     have GZ2:=Grown.cell z2 zz
     have GZ3:=Grown.cell z3 zz
     go_wp2
     (refine Q05 (by kernel_rfl) (by kernel_rfl) ?_;intro hne9;(repeat (go_big_quiet_step ((go_at_call 43;exact Q09 _ (HCn.out _)))));(with_reducible refine wpQuiet_nil ?_);intro _ hw9;obtain ⟨pq,hw8⟩:=hw9;subst hw8)
     obtain ⟨g2w,hg2w⟩:∃W,pq.v=W:=⟨_,rfl⟩
     have hb:=pq.b
     rw [hg2w] at hb ⊢
     clear GZ1 GZ2 GZ3 HCn
     replace z0:=bC hb z0 zz
     replace z1:=bC hb z1 zz
     replace z2:=bC hb z2 zz
     replace z3:=bC hb z3 zz
     replace z4:=bC hb z4 zz
     replace fz0:=bF hb fz0 zz
     replace fz1:=bF hb fz1 zz
     replace fz2:=bF hb fz2 zz
     replace fz3:=bF hb fz3 zz
     replace fz4:=bF hb fz4 zz
     replace zz:=Kbq zz hb.size
     replace k0:=bC hb k0 zk
     replace k1:=bC hb k1 zk
     replace k2:=bC hb k2 zk
     replace k3:=bC hb k3 zk
     replace k4:=bC hb k4 zk
     replace zk:=Kbq zk hb.size
     replace r0:=bC hb r0 zr
     replace r1:=bC hb r1 zr
     replace r2:=bC hb r2 zr
     replace r3:=bC hb r3 zr
     replace r4:=bC hb r4 zr
     replace fr0:=bF hb fr0 zr
     replace fr1:=bF hb fr1 zr
     replace fr2:=bF hb fr2 zr
     replace fr3:=bF hb fr3 zr
     replace fr4:=bF hb fr4 zr
     replace zr:=Kbq zr hb.size
     replace s0:=bC hb s0 zs
     replace s1:=bC hb s1 zs
     replace s2:=bC hb s2 zs
     replace s3:=bC hb s3 zs
     replace s4:=bC hb s4 zs
     replace zs:=Kbq zs hb.size
     replace HB:=Q00 (HB.out.trans (hb.mono HB.out.size))
     clear hb
     clear hg2w pq
     clear hlt' hdr
     go_wp2
     refine bodyPost_ret (v:=.tuple #[agt m.id m.lim m.dr (.slice (some ⟨bc,fc,none⟩) m.c.length cc) (.slice (some ⟨bt,ft,none⟩) m.t.length ct),.int .i64 3]) (by simp [results,Try.results93,go_sem,r0,r1,r2,r3,r4]) rfl ⟨bc,fc,cc,bt,ft,ct,by rw [HVl.out],by simp;omega,by simp;omega, ?_, ?_, ?_,by omega,by omega⟩
     ·rw [HCl.out]
      exact (HC.out.kept HB.out zc).step (Q04 g2w (w.heap.size+1+1) (.int .i64 m.id) (.int .i64 m.lim) (.bool m.dr) (.slice (some ⟨bc,fc,none⟩) m.c.length cc) (.slice (some ⟨bt,ft,none⟩) m.t.length ct)) (by have:=HB.out.size;omega) (.inl (by omega))
     ·rw [HTl.out]
      exact (HT.out.kept HB.out zt).step (Q04 g2w (w.heap.size+1+1) (.int .i64 m.id) (.int .i64 m.lim) (.bool m.dr) (.slice (some ⟨bc,fc,none⟩) m.c.length cc) (.slice (some ⟨bt,ft,none⟩) m.t.length ct)) (by have:=HB.out.size;omega) (.inl (by omega))
     ·exact Q07 HB.out (by omega) _ _ _ _ _
   |true=>
    cases last with
    |false=>
     have hG:Q19 m a p false=false:=by rw [HGd.out];simp [*]
     rw [hG] at HV HHC HHT
     have HVl:=Q00 (HV.out.trans ((if_neg (by decide)).trans (if_neg (by decide))))
     have HCl:=Q00 (HHC.out.trans (if_neg (by decide)))
     have HTl:=Q00 (HHT.out.trans (if_neg (by simp)))
     clear HV HHC HHT HGd hG
     have HDR:=Q00 hdr
     clear hdr
     go_enter Try.func93,Try.ntmps93
     go_wp2_with fail
     refine (H1.out).mono ?_
     rintro e v1 ⟨rfl,hb⟩
     clear H1
     replace z0:=bC hb z0 zz
     replace z1:=bC hb z1 zz
     replace z2:=bC hb z2 zz
     replace z3:=bC hb z3 zz
     replace z4:=bC hb z4 zz
     replace fz0:=bF hb fz0 zz
     replace fz1:=bF hb fz1 zz
     replace fz2:=bF hb fz2 zz
     replace fz3:=bF hb fz3 zz
     replace fz4:=bF hb fz4 zz
     replace zz:=Kbq zz hb.size
     replace k0:=bC hb k0 zk
     replace k1:=bC hb k1 zk
     replace k2:=bC hb k2 zk
     replace k3:=bC hb k3 zk
     replace k4:=bC hb k4 zk
     replace zk:=Kbq zk hb.size
     replace r0:=bC hb r0 zr
     replace r1:=bC hb r1 zr
     replace r2:=bC hb r2 zr
     replace r3:=bC hb r3 zr
     replace r4:=bC hb r4 zr
     replace fr0:=bF hb fr0 zr
     replace fr1:=bF hb fr1 zr
     replace fr2:=bF hb fr2 zr
     replace fr3:=bF hb fr3 zr
     replace fr4:=bF hb fr4 zr
     replace zr:=Kbq zr hb.size
     replace HB:=Q00 (HB.out.trans (hb.mono HB.out.size))
     clear hb
     obtain ⟨W2,hW2⟩:∃W,(v1.alloc (.cells #[.bool q.u,.int .i64 q.a,.int .i64 q.p,.int .i64 q.v,.int .i64 q.t] 84))=W:=⟨_,rfl⟩
     have hb_W2:Below v1.heap.size v1 W2:=by rw [←hW2];exact ((Below.refl _ _).alloc (Kaq _) _)
     replace z0:=bC hb_W2 z0 zz
     replace z1:=bC hb_W2 z1 zz
     replace z2:=bC hb_W2 z2 zz
     replace z3:=bC hb_W2 z3 zz
     replace z4:=bC hb_W2 z4 zz
     replace fz0:=bF hb_W2 fz0 zz
     replace fz1:=bF hb_W2 fz1 zz
     replace fz2:=bF hb_W2 fz2 zz
     replace fz3:=bF hb_W2 fz3 zz
     replace fz4:=bF hb_W2 fz4 zz
     replace zz:=Kbq zz hb_W2.size
     replace k0:=bC hb_W2 k0 zk
     replace k1:=bC hb_W2 k1 zk
     replace k2:=bC hb_W2 k2 zk
     replace k3:=bC hb_W2 k3 zk
     replace k4:=bC hb_W2 k4 zk
     replace zk:=Kbq zk hb_W2.size
     replace r0:=bC hb_W2 r0 zr
     replace r1:=bC hb_W2 r1 zr
     replace r2:=bC hb_W2 r2 zr
     replace r3:=bC hb_W2 r3 zr
     replace r4:=bC hb_W2 r4 zr
     replace fr0:=bF hb_W2 fr0 zr
     replace fr1:=bF hb_W2 fr1 zr
     replace fr2:=bF hb_W2 fr2 zr
     replace fr3:=bF hb_W2 fr3 zr
     replace fr4:=bF hb_W2 fr4 zr
     replace zr:=Kbq zr hb_W2.size
     replace HB:=Q00 (HB.out.trans (hb_W2.mono HB.out.size))
     clear hb_W2
     have zs:v1.heap.size < W2.heap.size:=by rw [←hW2];simp
     have s0:W2.cell? ⟨v1.heap.size,0,none⟩=some (.bool q.u):=by rw [←hW2];simp [go_sem]
     have s1:W2.cell? ⟨v1.heap.size,1,none⟩=some (.int .i64 q.a):=by rw [←hW2];simp [go_sem]
     have s2:W2.cell? ⟨v1.heap.size,2,none⟩=some (.int .i64 q.p):=by rw [←hW2];simp [go_sem]
     have s3:W2.cell? ⟨v1.heap.size,3,none⟩=some (.int .i64 q.v):=by rw [←hW2];simp [go_sem]
     have s4:W2.cell? ⟨v1.heap.size,4,none⟩=some (.int .i64 q.t):=by rw [←hW2];simp [go_sem]
     have hlt':¬((nc:Int) < (m.c.length:Int)):=by omega
     have hdr:=HDR.out
     have HCn:=Q00 (fun pp:Grown W2=> Q0j bc fc cc m.c pp.v (Kbq (Kbq zc HB.out.size) pp.b.size) ((HC.out.kept HB.out zc).kept pp.b (Kbq zc HB.out.size)) (by omega))
     rw [HNC.out] at HCn
     have GZ1:=Grown.cell z1 zz
     have GZ2:=Grown.cell z2 zz
     have GZ3:=Grown.cell z3 zz
     go_wp2
     (refine Q05 (by kernel_rfl) (by kernel_rfl) ?_;intro hne9;(repeat (go_big_quiet_step ((go_at_call 43;exact Q09 _ (HCn.out _)))));(with_reducible refine wpQuiet_nil ?_);intro _ hw9;obtain ⟨pq,hw8⟩:=hw9;subst hw8)
     obtain ⟨g2w,hg2w⟩:∃W,pq.v=W:=⟨_,rfl⟩
     have hb:=pq.b
     rw [hg2w] at hb ⊢
     clear GZ1 GZ2 GZ3 HCn
     replace z0:=bC hb z0 zz
     replace z1:=bC hb z1 zz
     replace z2:=bC hb z2 zz
     replace z3:=bC hb z3 zz
     replace z4:=bC hb z4 zz
     replace fz0:=bF hb fz0 zz
     replace fz1:=bF hb fz1 zz
     replace fz2:=bF hb fz2 zz
     replace fz3:=bF hb fz3 zz
     replace fz4:=bF hb fz4 zz
     replace zz:=Kbq zz hb.size
     replace k0:=bC hb k0 zk
     replace k1:=bC hb k1 zk
     replace k2:=bC hb k2 zk
     replace k3:=bC hb k3 zk
     replace k4:=bC hb k4 zk
     replace zk:=Kbq zk hb.size
     replace r0:=bC hb r0 zr
     replace r1:=bC hb r1 zr
     replace r2:=bC hb r2 zr
     replace r3:=bC hb r3 zr
     replace r4:=bC hb r4 zr
     replace fr0:=bF hb fr0 zr
     replace fr1:=bF hb fr1 zr
     replace fr2:=bF hb fr2 zr
     replace fr3:=bF hb fr3 zr
     replace fr4:=bF hb fr4 zr
     replace zr:=Kbq zr hb.size
     replace s0:=bC hb s0 zs
     replace s1:=bC hb s1 zs
     replace s2:=bC hb s2 zs
     replace s3:=bC hb s3 zs
     replace s4:=bC hb s4 zs
     replace zs:=Kbq zs hb.size
     replace HB:=Q00 (HB.out.trans (hb.mono HB.out.size))
     clear hb
     clear hg2w pq
     clear hlt' hdr
     have GZ1:=Grown.cell z1 zz
     have GZ3:=Grown.cell z3 zz
     have HCn:=Q00 (fun pp:Grown g2w=> Q0j bc fc cc m.c pp.v (Kbq (Kbq zc HB.out.size) pp.b.size) ((HC.out.kept HB.out zc).kept pp.b (Kbq zc HB.out.size)) (by omega))
     rw [HNC.out] at HCn
     go_wp2
     (refine Q05 (by kernel_rfl) (by kernel_rfl) ?_;intro hne9;(repeat (go_big_quiet_step ((go_at_call 43;exact Q09 _ (HCn.out _)))));(with_reducible refine wpQuiet_nil ?_);intro _ hw9;obtain ⟨pq,hw8⟩:=hw9;subst hw8)
     obtain ⟨g3w,hg3w⟩:∃W,pq.v=W:=⟨_,rfl⟩
     have hb:=pq.b
     rw [hg3w] at hb ⊢
     clear GZ1 GZ3 HCn
     replace z0:=bC hb z0 zz
     replace z1:=bC hb z1 zz
     replace z2:=bC hb z2 zz
     replace z3:=bC hb z3 zz
     replace z4:=bC hb z4 zz
     replace fz0:=bF hb fz0 zz
     replace fz1:=bF hb fz1 zz
     replace fz2:=bF hb fz2 zz
     replace fz3:=bF hb fz3 zz
     replace fz4:=bF hb fz4 zz
     replace zz:=Kbq zz hb.size
     replace k0:=bC hb k0 zk
     replace k1:=bC hb k1 zk
     replace k2:=bC hb k2 zk
     replace k3:=bC hb k3 zk
     replace k4:=bC hb k4 zk
     replace zk:=Kbq zk hb.size
     replace r0:=bC hb r0 zr
     replace r1:=bC hb r1 zr
     replace r2:=bC hb r2 zr
     replace r3:=bC hb r3 zr
     replace r4:=bC hb r4 zr
     replace fr0:=bF hb fr0 zr
     replace fr1:=bF hb fr1 zr
     replace fr2:=bF hb fr2 zr
     replace fr3:=bF hb fr3 zr
     replace fr4:=bF hb fr4 zr
     replace zr:=Kbq zr hb.size
     replace s0:=bC hb s0 zs
     replace s1:=bC hb s1 zs
     replace s2:=bC hb s2 zs
     replace s3:=bC hb s3 zs
     replace s4:=bC hb s4 zs
     replace zs:=Kbq zs hb.size
     replace HB:=Q00 (HB.out.trans (hb.mono HB.out.size))
     clear hb
     clear hg3w pq
     have hsc:=HB.out.size
     have hrz:=zr
     have H3:=Q00 (Q0X m bc fc cc bt ft ct now a p g3w hn0 hn1 hfl hc0 hc16 ht0 ht16 (by omega) (by omega) (HC.out.kept HB.out zc) (HT.out.kept HB.out zt))
     obtain ⟨tl,htl⟩:∃q,Q11 m.t a p 0 (now+20+1)=q:=⟨_,rfl⟩
     rw [htl] at H3 HTl
     have hpl:tl.length=m.t.length:=by rw [←htl];exact Q0p _ _ _ _ _
     by_cases hok:0≤(Q0m m.t a p).1
     ·rw [decide_eq_true hok] at H3
      rw [if_pos hok] at HVl
      clear htl hok
      go_wp2_with fail
      refine (H3.out).mono ?_
      rintro e v4 ⟨b3,f3,c3,rfl,hz3,hrd,hb,hq3⟩
      have HR:=Q00 hrd
      have hs3:=hb.size
      clear hrd H3
      replace z0:=bC hb z0 zz
      replace z1:=bC hb z1 zz
      replace z2:=bC hb z2 zz
      replace z3:=bC hb z3 zz
      replace z4:=bC hb z4 zz
      replace fz0:=bF hb fz0 zz
      replace fz1:=bF hb fz1 zz
      replace fz2:=bF hb fz2 zz
      replace fz3:=bF hb fz3 zz
      replace fz4:=bF hb fz4 zz
      replace zz:=Kbq zz hb.size
      replace k0:=bC hb k0 zk
      replace k1:=bC hb k1 zk
      replace k2:=bC hb k2 zk
      replace k3:=bC hb k3 zk
      replace k4:=bC hb k4 zk
      replace zk:=Kbq zk hb.size
      replace r0:=bC hb r0 zr
      replace r1:=bC hb r1 zr
      replace r2:=bC hb r2 zr
      replace r3:=bC hb r3 zr
      replace r4:=bC hb r4 zr
      replace fr0:=bF hb fr0 zr
      replace fr1:=bF hb fr1 zr
      replace fr2:=bF hb fr2 zr
      replace fr3:=bF hb fr3 zr
      replace fr4:=bF hb fr4 zr
      replace zr:=Kbq zr hb.size
      replace s0:=bC hb s0 zs
      replace s1:=bC hb s1 zs
      replace s2:=bC hb s2 zs
      replace s3:=bC hb s3 zs
      replace s4:=bC hb s4 zs
      replace zs:=Kbq zs hb.size
      replace HB:=Q00 (HB.out.trans (hb.mono HB.out.size))
      clear hb
      obtain ⟨Wx,hWx⟩:∃W,(v4.alloc (.cells #[.int .i64 m.id,.int .i64 m.lim,.bool m.dr,.slice (some ⟨bc,fc,none⟩) m.c.length cc,.slice (some ⟨b3,f3,none⟩) m.t.length c3] 27))=W:=⟨_,rfl⟩
      have hb_Wx:Below v4.heap.size v4 Wx:=by rw [←hWx];exact ((Below.refl _ _).alloc (Kaq _) _)
      replace z0:=bC hb_Wx z0 zz
      replace z1:=bC hb_Wx z1 zz
      replace z2:=bC hb_Wx z2 zz
      replace z3:=bC hb_Wx z3 zz
      replace z4:=bC hb_Wx z4 zz
      replace fz0:=bF hb_Wx fz0 zz
      replace fz1:=bF hb_Wx fz1 zz
      replace fz2:=bF hb_Wx fz2 zz
      replace fz3:=bF hb_Wx fz3 zz
      replace fz4:=bF hb_Wx fz4 zz
      replace zz:=Kbq zz hb_Wx.size
      replace k0:=bC hb_Wx k0 zk
      replace k1:=bC hb_Wx k1 zk
      replace k2:=bC hb_Wx k2 zk
      replace k3:=bC hb_Wx k3 zk
      replace k4:=bC hb_Wx k4 zk
      replace zk:=Kbq zk hb_Wx.size
      replace r0:=bC hb_Wx r0 zr
      replace r1:=bC hb_Wx r1 zr
      replace r2:=bC hb_Wx r2 zr
      replace r3:=bC hb_Wx r3 zr
      replace r4:=bC hb_Wx r4 zr
      replace fr0:=bF hb_Wx fr0 zr
      replace fr1:=bF hb_Wx fr1 zr
      replace fr2:=bF hb_Wx fr2 zr
      replace fr3:=bF hb_Wx fr3 zr
      replace fr4:=bF hb_Wx fr4 zr
      replace zr:=Kbq zr hb_Wx.size
      replace s0:=bC hb_Wx s0 zs
      replace s1:=bC hb_Wx s1 zs
      replace s2:=bC hb_Wx s2 zs
      replace s3:=bC hb_Wx s3 zs
      replace s4:=bC hb_Wx s4 zs
      replace zs:=Kbq zs hb_Wx.size
      replace HB:=Q00 (HB.out.trans (hb_Wx.mono HB.out.size))
      clear hb_Wx
      have zo:v4.heap.size < Wx.heap.size:=by rw [←hWx];simp
      have o0:Wx.cell? ⟨v4.heap.size,0,none⟩=some (.int .i64 m.id):=by rw [←hWx];simp [go_sem]
      have o1:Wx.cell? ⟨v4.heap.size,1,none⟩=some (.int .i64 m.lim):=by rw [←hWx];simp [go_sem]
      have o2:Wx.cell? ⟨v4.heap.size,2,none⟩=some (.bool m.dr):=by rw [←hWx];simp [go_sem]
      have o3:Wx.cell? ⟨v4.heap.size,3,none⟩=some (.slice (some ⟨bc,fc,none⟩) m.c.length cc):=by rw [←hWx];simp [go_sem]
      have o4:Wx.cell? ⟨v4.heap.size,4,none⟩=some (.slice (some ⟨b3,f3,none⟩) m.t.length c3):=by rw [←hWx];simp [go_sem]
      have hbx:=(show Below v4.heap.size v4 Wx by rw [←hWx];exact (Below.refl _ _).alloc (Kaq _) _)
      have hsx:=hbx.size
      have HRx:=Q00 (Row.kept HR.out hbx hz3)
      clear HR hbx
      have hne1:v4.heap.size≠w.heap.size+1+1:=by omega
      have hne2:w.heap.size+1+1≠v4.heap.size:=by omega
      go_wp2
      refine bodyPost_ret (v:=.tuple #[agt m.id m.lim m.dr (.slice (some ⟨bc,fc,none⟩) m.c.length cc) (.slice (some ⟨b3,f3,none⟩) m.t.length c3),.int .i64 2]) (by simp [results,Try.results93,go_sem,r0,r1,r2,r3,r4]) rfl ⟨bc,fc,cc,b3,f3,c3,by rw [HVl.out],by simp;omega,by simp;omega, ?_, ?_, ?_,by omega,by omega⟩
      ·rw [HCl.out]
       exact (HC.out.kept HB.out zc).step (Q04 Wx (w.heap.size+1+1) (.int .i64 m.id) (.int .i64 m.lim) (.bool m.dr) (.slice (some ⟨bc,fc,none⟩) m.c.length cc) (.slice (some ⟨b3,f3,none⟩) m.t.length c3)) (by have:=HB.out.size;omega) (.inl (by omega))
      ·rw [HTl.out]
       exact Row.step HRx.out (Q04 Wx (w.heap.size+1+1) (.int .i64 m.id) (.int .i64 m.lim) (.bool m.dr) (.slice (some ⟨bc,fc,none⟩) m.c.length cc) (.slice (some ⟨b3,f3,none⟩) m.t.length c3)) (by omega) (by omega)
      ·exact Q07 HB.out (by omega) _ _ _ _ _
     ·rw [decide_eq_false hok] at H3
      rw [if_neg hok] at HVl
      have htle:tl=m.t:=by rw [←htl];unfold Q11;rw [if_neg hok]
      rw [htle] at HTl
      clear htl hok
      go_wp2_with fail
      refine (H3.out).mono ?_
      rintro e v4 ⟨b3,f3,c3,rfl,hz3,hrd,hb,hq3⟩
      have HR:=Q00 hrd
      have hs3:=hb.size
      clear hrd H3
      replace z0:=bC hb z0 zz
      replace z1:=bC hb z1 zz
      replace z2:=bC hb z2 zz
      replace z3:=bC hb z3 zz
      replace z4:=bC hb z4 zz
      replace fz0:=bF hb fz0 zz
      replace fz1:=bF hb fz1 zz
      replace fz2:=bF hb fz2 zz
      replace fz3:=bF hb fz3 zz
      replace fz4:=bF hb fz4 zz
      replace zz:=Kbq zz hb.size
      replace k0:=bC hb k0 zk
      replace k1:=bC hb k1 zk
      replace k2:=bC hb k2 zk
      replace k3:=bC hb k3 zk
      replace k4:=bC hb k4 zk
      replace zk:=Kbq zk hb.size
      replace r0:=bC hb r0 zr
      replace r1:=bC hb r1 zr
      replace r2:=bC hb r2 zr
      replace r3:=bC hb r3 zr
      replace r4:=bC hb r4 zr
      replace fr0:=bF hb fr0 zr
      replace fr1:=bF hb fr1 zr
      replace fr2:=bF hb fr2 zr
      replace fr3:=bF hb fr3 zr
      replace fr4:=bF hb fr4 zr
      replace zr:=Kbq zr hb.size
      replace s0:=bC hb s0 zs
      replace s1:=bC hb s1 zs
      replace s2:=bC hb s2 zs
      replace s3:=bC hb s3 zs
      replace s4:=bC hb s4 zs
      replace zs:=Kbq zs hb.size
      replace HB:=Q00 (HB.out.trans (hb.mono HB.out.size))
      clear hb
      obtain ⟨Wx,hWx⟩:∃W,(v4.alloc (.cells #[.int .i64 m.id,.int .i64 m.lim,.bool m.dr,.slice (some ⟨bc,fc,none⟩) m.c.length cc,.slice (some ⟨b3,f3,none⟩) m.t.length c3] 27))=W:=⟨_,rfl⟩
      have hb_Wx:Below v4.heap.size v4 Wx:=by rw [←hWx];exact ((Below.refl _ _).alloc (Kaq _) _)
      replace z0:=bC hb_Wx z0 zz
      replace z1:=bC hb_Wx z1 zz
      replace z2:=bC hb_Wx z2 zz
      replace z3:=bC hb_Wx z3 zz
      replace z4:=bC hb_Wx z4 zz
      replace fz0:=bF hb_Wx fz0 zz
      replace fz1:=bF hb_Wx fz1 zz
      replace fz2:=bF hb_Wx fz2 zz
      replace fz3:=bF hb_Wx fz3 zz
      replace fz4:=bF hb_Wx fz4 zz
      replace zz:=Kbq zz hb_Wx.size
      replace k0:=bC hb_Wx k0 zk
      replace k1:=bC hb_Wx k1 zk
      replace k2:=bC hb_Wx k2 zk
      replace k3:=bC hb_Wx k3 zk
      replace k4:=bC hb_Wx k4 zk
      replace zk:=Kbq zk hb_Wx.size
      replace r0:=bC hb_Wx r0 zr
      replace r1:=bC hb_Wx r1 zr
      replace r2:=bC hb_Wx r2 zr
      replace r3:=bC hb_Wx r3 zr
      replace r4:=bC hb_Wx r4 zr
      replace fr0:=bF hb_Wx fr0 zr
      replace fr1:=bF hb_Wx fr1 zr
      replace fr2:=bF hb_Wx fr2 zr
      replace fr3:=bF hb_Wx fr3 zr
      replace fr4:=bF hb_Wx fr4 zr
      replace zr:=Kbq zr hb_Wx.size
      replace s0:=bC hb_Wx s0 zs
      replace s1:=bC hb_Wx s1 zs
      replace s2:=bC hb_Wx s2 zs
      replace s3:=bC hb_Wx s3 zs
      replace s4:=bC hb_Wx s4 zs
      replace zs:=Kbq zs hb_Wx.size
      replace HB:=Q00 (HB.out.trans (hb_Wx.mono HB.out.size))
      clear hb_Wx
      have zo:v4.heap.size < Wx.heap.size:=by rw [←hWx];simp
      have o0:Wx.cell? ⟨v4.heap.size,0,none⟩=some (.int .i64 m.id):=by rw [←hWx];simp [go_sem]
      have o1:Wx.cell? ⟨v4.heap.size,1,none⟩=some (.int .i64 m.lim):=by rw [←hWx];simp [go_sem]
      have o2:Wx.cell? ⟨v4.heap.size,2,none⟩=some (.bool m.dr):=by rw [←hWx];simp [go_sem]
      have o3:Wx.cell? ⟨v4.heap.size,3,none⟩=some (.slice (some ⟨bc,fc,none⟩) m.c.length cc):=by rw [←hWx];simp [go_sem]
      have o4:Wx.cell? ⟨v4.heap.size,4,none⟩=some (.slice (some ⟨b3,f3,none⟩) m.t.length c3):=by rw [←hWx];simp [go_sem]
      have hbx:=(show Below v4.heap.size v4 Wx by rw [←hWx];exact (Below.refl _ _).alloc (Kaq _) _)
      have hsx:=hbx.size
      have HRx:=Q00 (Row.kept HR.out hbx hz3)
      clear HR hbx
      have hne1:v4.heap.size≠w.heap.size+1+1:=by omega
      have hne2:w.heap.size+1+1≠v4.heap.size:=by omega
      go_wp2
      refine bodyPost_ret (v:=.tuple #[agt m.id m.lim m.dr (.slice (some ⟨bc,fc,none⟩) m.c.length cc) (.slice (some ⟨bt,ft,none⟩) m.t.length ct),.int .i64 5]) (by simp [results,Try.results93,go_sem,r0,r1,r2,r3,r4]) rfl ⟨bc,fc,cc,bt,ft,ct,by rw [HVl.out],by simp;omega,by simp;omega, ?_, ?_, ?_,by omega,by omega⟩
      ·rw [HCl.out]
       exact (HC.out.kept HB.out zc).step (Q04 Wx (w.heap.size+1+1) (.int .i64 m.id) (.int .i64 m.lim) (.bool m.dr) (.slice (some ⟨bc,fc,none⟩) m.c.length cc) (.slice (some ⟨bt,ft,none⟩) m.t.length ct)) (by have:=HB.out.size;omega) (.inl (by omega))
      ·rw [HTl.out]
       exact (HT.out.kept HB.out zt).step (Q04 Wx (w.heap.size+1+1) (.int .i64 m.id) (.int .i64 m.lim) (.bool m.dr) (.slice (some ⟨bc,fc,none⟩) m.c.length cc) (.slice (some ⟨bt,ft,none⟩) m.t.length ct)) (by have:=HB.out.size;omega) (.inl (by omega))
      ·exact Q07 HB.out (by omega) _ _ _ _ _
    |true=>
     have hG:Q19 m a p true=false:=by rw [HGd.out];simp [*]
     rw [hG] at HV HHC HHT
     have HVl:=Q00 (HV.out.trans ((if_neg (by decide)).trans (if_pos rfl)))
     have HCl:=Q00 (HHC.out.trans (if_neg (by decide)))
     have HTl:=Q00 (HHT.out.trans (if_pos (.inr rfl)))
     clear HV HHC HHT HGd hG
     have HDR:=Q00 hdr
     clear hdr
     go_enter Try.func93,Try.ntmps93
     go_wp2_with fail
     refine (H1.out).mono ?_
     rintro e v1 ⟨rfl,hb⟩
     clear H1
     replace z0:=bC hb z0 zz
     replace z1:=bC hb z1 zz
     replace z2:=bC hb z2 zz
     replace z3:=bC hb z3 zz
     replace z4:=bC hb z4 zz
     replace fz0:=bF hb fz0 zz
     replace fz1:=bF hb fz1 zz
     replace fz2:=bF hb fz2 zz
     replace fz3:=bF hb fz3 zz
     replace fz4:=bF hb fz4 zz
     replace zz:=Kbq zz hb.size
     replace k0:=bC hb k0 zk
     replace k1:=bC hb k1 zk
     replace k2:=bC hb k2 zk
     replace k3:=bC hb k3 zk
     replace k4:=bC hb k4 zk
     replace zk:=Kbq zk hb.size
     replace r0:=bC hb r0 zr
     replace r1:=bC hb r1 zr
     replace r2:=bC hb r2 zr
     replace r3:=bC hb r3 zr
     replace r4:=bC hb r4 zr
     replace fr0:=bF hb fr0 zr
     replace fr1:=bF hb fr1 zr
     replace fr2:=bF hb fr2 zr
     replace fr3:=bF hb fr3 zr
     replace fr4:=bF hb fr4 zr
     replace zr:=Kbq zr hb.size
     replace HB:=Q00 (HB.out.trans (hb.mono HB.out.size))
     clear hb
     obtain ⟨W2,hW2⟩:∃W,(v1.alloc (.cells #[.bool q.u,.int .i64 q.a,.int .i64 q.p,.int .i64 q.v,.int .i64 q.t] 84))=W:=⟨_,rfl⟩
     have hb_W2:Below v1.heap.size v1 W2:=by rw [←hW2];exact ((Below.refl _ _).alloc (Kaq _) _)
     replace z0:=bC hb_W2 z0 zz
     replace z1:=bC hb_W2 z1 zz
     replace z2:=bC hb_W2 z2 zz
     replace z3:=bC hb_W2 z3 zz
     replace z4:=bC hb_W2 z4 zz
     replace fz0:=bF hb_W2 fz0 zz
     replace fz1:=bF hb_W2 fz1 zz
     replace fz2:=bF hb_W2 fz2 zz
     replace fz3:=bF hb_W2 fz3 zz
     replace fz4:=bF hb_W2 fz4 zz
     replace zz:=Kbq zz hb_W2.size
     replace k0:=bC hb_W2 k0 zk
     replace k1:=bC hb_W2 k1 zk
     replace k2:=bC hb_W2 k2 zk
     replace k3:=bC hb_W2 k3 zk
     replace k4:=bC hb_W2 k4 zk
     replace zk:=Kbq zk hb_W2.size
     replace r0:=bC hb_W2 r0 zr
     replace r1:=bC hb_W2 r1 zr
     replace r2:=bC hb_W2 r2 zr
     replace r3:=bC hb_W2 r3 zr
     replace r4:=bC hb_W2 r4 zr
     replace fr0:=bF hb_W2 fr0 zr
     replace fr1:=bF hb_W2 fr1 zr
     replace fr2:=bF hb_W2 fr2 zr
     replace fr3:=bF hb_W2 fr3 zr
     replace fr4:=bF hb_W2 fr4 zr
     replace zr:=Kbq zr hb_W2.size
     replace HB:=Q00 (HB.out.trans (hb_W2.mono HB.out.size))
     clear hb_W2
     have zs:v1.heap.size < W2.heap.size:=by rw [←hW2];simp
     have s0:W2.cell? ⟨v1.heap.size,0,none⟩=some (.bool q.u):=by rw [←hW2];simp [go_sem]
     have s1:W2.cell? ⟨v1.heap.size,1,none⟩=some (.int .i64 q.a):=by rw [←hW2];simp [go_sem]
     have s2:W2.cell? ⟨v1.heap.size,2,none⟩=some (.int .i64 q.p):=by rw [←hW2];simp [go_sem]
     have s3:W2.cell? ⟨v1.heap.size,3,none⟩=some (.int .i64 q.v):=by rw [←hW2];simp [go_sem]
     have s4:W2.cell? ⟨v1.heap.size,4,none⟩=some (.int .i64 q.t):=by rw [←hW2];simp [go_sem]
     have hlt':¬((nc:Int) < (m.c.length:Int)):=by omega
     have hdr:=HDR.out
     have HCn:=Q00 (fun pp:Grown W2=> Q0j bc fc cc m.c pp.v (Kbq (Kbq zc HB.out.size) pp.b.size) ((HC.out.kept HB.out zc).kept pp.b (Kbq zc HB.out.size)) (by omega))
     rw [HNC.out] at HCn
     have GZ1:=Grown.cell z1 zz
     have GZ2:=Grown.cell z2 zz
     have GZ3:=Grown.cell z3 zz
     go_wp2
     (refine Q05 (by kernel_rfl) (by kernel_rfl) ?_;intro hne9;(repeat (go_big_quiet_step ((go_at_call 43;exact Q09 _ (HCn.out _)))));(with_reducible refine wpQuiet_nil ?_);intro _ hw9;obtain ⟨pq,hw8⟩:=hw9;subst hw8)
     obtain ⟨g2w,hg2w⟩:∃W,pq.v=W:=⟨_,rfl⟩
     have hb:=pq.b
     rw [hg2w] at hb ⊢
     clear GZ1 GZ2 GZ3 HCn
     replace z0:=bC hb z0 zz
     replace z1:=bC hb z1 zz
     replace z2:=bC hb z2 zz
     replace z3:=bC hb z3 zz
     replace z4:=bC hb z4 zz
     replace fz0:=bF hb fz0 zz
     replace fz1:=bF hb fz1 zz
     replace fz2:=bF hb fz2 zz
     replace fz3:=bF hb fz3 zz
     replace fz4:=bF hb fz4 zz
     replace zz:=Kbq zz hb.size
     replace k0:=bC hb k0 zk
     replace k1:=bC hb k1 zk
     replace k2:=bC hb k2 zk
     replace k3:=bC hb k3 zk
     replace k4:=bC hb k4 zk
     replace zk:=Kbq zk hb.size
     replace r0:=bC hb r0 zr
     replace r1:=bC hb r1 zr
     replace r2:=bC hb r2 zr
     replace r3:=bC hb r3 zr
     replace r4:=bC hb r4 zr
     replace fr0:=bF hb fr0 zr
     replace fr1:=bF hb fr1 zr
     replace fr2:=bF hb fr2 zr
     replace fr3:=bF hb fr3 zr
     replace fr4:=bF hb fr4 zr
     replace zr:=Kbq zr hb.size
     replace s0:=bC hb s0 zs
     replace s1:=bC hb s1 zs
     replace s2:=bC hb s2 zs
     replace s3:=bC hb s3 zs
     replace s4:=bC hb s4 zs
     replace zs:=Kbq zs hb.size
     replace HB:=Q00 (HB.out.trans (hb.mono HB.out.size))
     clear hb
     clear hg2w pq
     clear hlt' hdr
     go_wp2
     refine bodyPost_ret (v:=.tuple #[agt m.id m.lim m.dr (.slice (some ⟨bc,fc,none⟩) m.c.length cc) (.slice (some ⟨bt,ft,none⟩) m.t.length ct),.int .i64 3]) (by simp [results,Try.results93,go_sem,r0,r1,r2,r3,r4]) rfl ⟨bc,fc,cc,bt,ft,ct,by rw [HVl.out],by simp;omega,by simp;omega, ?_, ?_, ?_,by omega,by omega⟩
     ·rw [HCl.out]
      exact (HC.out.kept HB.out zc).step (Q04 g2w (w.heap.size+1+1) (.int .i64 m.id) (.int .i64 m.lim) (.bool m.dr) (.slice (some ⟨bc,fc,none⟩) m.c.length cc) (.slice (some ⟨bt,ft,none⟩) m.t.length ct)) (by have:=HB.out.size;omega) (.inl (by omega))
     ·rw [HTl.out]
      exact (HT.out.kept HB.out zt).step (Q04 g2w (w.heap.size+1+1) (.int .i64 m.id) (.int .i64 m.lim) (.bool m.dr) (.slice (some ⟨bc,fc,none⟩) m.c.length cc) (.slice (some ⟨bt,ft,none⟩) m.t.length ct)) (by have:=HB.out.size;omega) (.inl (by omega))
     ·exact Q07 HB.out (by omega) _ _ _ _ _
  ·cases sh with
   |false=>
    cases last with
    |false=>
     have hG:Q19 m a p false=false:=by rw [HGd.out];simp [*]
     rw [hG] at HV HHC HHT
     have HVl:=Q00 (HV.out.trans ((if_neg (by decide)).trans (if_neg (by decide))))
     have HCl:=Q00 (HHC.out.trans (if_neg (by decide)))
     have HTl:=Q00 (HHT.out.trans (if_neg (by simp)))
     clear HV HHC HHT HGd hG
     have HDR:=Q00 hdr
     clear hdr
     go_enter Try.func93,Try.ntmps93
     go_wp2_with fail
     refine (H1.out).mono ?_
     rintro e v1 ⟨rfl,hb⟩
     clear H1
     replace z0:=bC hb z0 zz
     replace z1:=bC hb z1 zz
     replace z2:=bC hb z2 zz
     replace z3:=bC hb z3 zz
     replace z4:=bC hb z4 zz
     replace fz0:=bF hb fz0 zz
     replace fz1:=bF hb fz1 zz
     replace fz2:=bF hb fz2 zz
     replace fz3:=bF hb fz3 zz
     replace fz4:=bF hb fz4 zz
     replace zz:=Kbq zz hb.size
     replace k0:=bC hb k0 zk
     replace k1:=bC hb k1 zk
     replace k2:=bC hb k2 zk
     replace k3:=bC hb k3 zk
     replace k4:=bC hb k4 zk
     replace zk:=Kbq zk hb.size
     replace r0:=bC hb r0 zr
     replace r1:=bC hb r1 zr
     replace r2:=bC hb r2 zr
     replace r3:=bC hb r3 zr
     replace r4:=bC hb r4 zr
     replace fr0:=bF hb fr0 zr
     replace fr1:=bF hb fr1 zr
     replace fr2:=bF hb fr2 zr
     replace fr3:=bF hb fr3 zr
     replace fr4:=bF hb fr4 zr
     replace zr:=Kbq zr hb.size
     replace HB:=Q00 (HB.out.trans (hb.mono HB.out.size))
     clear hb
     obtain ⟨W2,hW2⟩:∃W,(v1.alloc (.cells #[.bool q.u,.int .i64 q.a,.int .i64 q.p,.int .i64 q.v,.int .i64 q.t] 84))=W:=⟨_,rfl⟩
     have hb_W2:Below v1.heap.size v1 W2:=by rw [←hW2];exact ((Below.refl _ _).alloc (Kaq _) _)
     replace z0:=bC hb_W2 z0 zz
     replace z1:=bC hb_W2 z1 zz
     replace z2:=bC hb_W2 z2 zz
     replace z3:=bC hb_W2 z3 zz
     replace z4:=bC hb_W2 z4 zz
     replace fz0:=bF hb_W2 fz0 zz
     replace fz1:=bF hb_W2 fz1 zz
     replace fz2:=bF hb_W2 fz2 zz
     replace fz3:=bF hb_W2 fz3 zz
     replace fz4:=bF hb_W2 fz4 zz
     replace zz:=Kbq zz hb_W2.size
     replace k0:=bC hb_W2 k0 zk
     replace k1:=bC hb_W2 k1 zk
     replace k2:=bC hb_W2 k2 zk
     replace k3:=bC hb_W2 k3 zk
     replace k4:=bC hb_W2 k4 zk
     replace zk:=Kbq zk hb_W2.size
     replace r0:=bC hb_W2 r0 zr
     replace r1:=bC hb_W2 r1 zr
     replace r2:=bC hb_W2 r2 zr
     replace r3:=bC hb_W2 r3 zr
     replace r4:=bC hb_W2 r4 zr
     replace fr0:=bF hb_W2 fr0 zr
     replace fr1:=bF hb_W2 fr1 zr
     replace fr2:=bF hb_W2 fr2 zr
     replace fr3:=bF hb_W2 fr3 zr
     replace fr4:=bF hb_W2 fr4 zr
     replace zr:=Kbq zr hb_W2.size
     replace HB:=Q00 (HB.out.trans (hb_W2.mono HB.out.size))
     clear hb_W2
     have zs:v1.heap.size < W2.heap.size:=by rw [←hW2];simp
     have s0:W2.cell? ⟨v1.heap.size,0,none⟩=some (.bool q.u):=by rw [←hW2];simp [go_sem]
     have s1:W2.cell? ⟨v1.heap.size,1,none⟩=some (.int .i64 q.a):=by rw [←hW2];simp [go_sem]
     have s2:W2.cell? ⟨v1.heap.size,2,none⟩=some (.int .i64 q.p):=by rw [←hW2];simp [go_sem]
     have s3:W2.cell? ⟨v1.heap.size,3,none⟩=some (.int .i64 q.v):=by rw [←hW2];simp [go_sem]
     have s4:W2.cell? ⟨v1.heap.size,4,none⟩=some (.int .i64 q.t):=by rw [←hW2];simp [go_sem]
     have hlt':¬((nc:Int) < (m.c.length:Int)):=by omega
     have hdr:=HDR.out
     have HCn:=Q00 (fun pp:Grown W2=> Q0j bc fc cc m.c pp.v (Kbq (Kbq zc HB.out.size) pp.b.size) ((HC.out.kept HB.out zc).kept pp.b (Kbq zc HB.out.size)) (by omega))
     rw [HNC.out] at HCn
     have GZ1:=Grown.cell z1 zz
     have GZ2:=Grown.cell z2 zz
     have GZ3:=Grown.cell z3 zz
     go_wp2
     (refine Q05 (by kernel_rfl) (by kernel_rfl) ?_;intro hne9;(repeat (go_big_quiet_step ((go_at_call 43;exact Q09 _ (HCn.out _)))));(with_reducible refine wpQuiet_nil ?_);intro _ hw9;obtain ⟨pq,hw8⟩:=hw9;subst hw8)
     obtain ⟨g2w,hg2w⟩:∃W,pq.v=W:=⟨_,rfl⟩
     have hb:=pq.b
     rw [hg2w] at hb ⊢
     clear GZ1 GZ2 GZ3 HCn
     replace z0:=bC hb z0 zz
     replace z1:=bC hb z1 zz
     replace z2:=bC hb z2 zz
     replace z3:=bC hb z3 zz
     replace z4:=bC hb z4 zz
     replace fz0:=bF hb fz0 zz
     replace fz1:=bF hb fz1 zz
     replace fz2:=bF hb fz2 zz
     replace fz3:=bF hb fz3 zz
     replace fz4:=bF hb fz4 zz
     replace zz:=Kbq zz hb.size
     replace k0:=bC hb k0 zk
     replace k1:=bC hb k1 zk
     replace k2:=bC hb k2 zk
     replace k3:=bC hb k3 zk
     replace k4:=bC hb k4 zk
     replace zk:=Kbq zk hb.size
     replace r0:=bC hb r0 zr
     replace r1:=bC hb r1 zr
     replace r2:=bC hb r2 zr
     replace r3:=bC hb r3 zr
     replace r4:=bC hb r4 zr
     replace fr0:=bF hb fr0 zr
     replace fr1:=bF hb fr1 zr
     replace fr2:=bF hb fr2 zr
     replace fr3:=bF hb fr3 zr
     replace fr4:=bF hb fr4 zr
     replace zr:=Kbq zr hb.size
     replace s0:=bC hb s0 zs
     replace s1:=bC hb s1 zs
     replace s2:=bC hb s2 zs
     replace s3:=bC hb s3 zs
     replace s4:=bC hb s4 zs
     replace zs:=Kbq zs hb.size
     replace HB:=Q00 (HB.out.trans (hb.mono HB.out.size))
     clear hb
     clear hg2w pq
     clear hlt' hdr
     have GZ1:=Grown.cell z1 zz
     have GZ3:=Grown.cell z3 zz
     have HCn:=Q00 (fun pp:Grown g2w=> Q0j bc fc cc m.c pp.v (Kbq (Kbq zc HB.out.size) pp.b.size) ((HC.out.kept HB.out zc).kept pp.b (Kbq zc HB.out.size)) (by omega))
     rw [HNC.out] at HCn
     go_wp2
     (refine Q05 (by kernel_rfl) (by kernel_rfl) ?_;intro hne9;(repeat (go_big_quiet_step ((go_at_call 43;exact Q09 _ (HCn.out _)))));(with_reducible refine wpQuiet_nil ?_);intro _ hw9;obtain ⟨pq,hw8⟩:=hw9;subst hw8)
     obtain ⟨g3w,hg3w⟩:∃W,pq.v=W:=⟨_,rfl⟩
     have hb:=pq.b
     rw [hg3w] at hb ⊢
     clear GZ1 GZ3 HCn
     replace z0:=bC hb z0 zz
     replace z1:=bC hb z1 zz
     replace z2:=bC hb z2 zz
     replace z3:=bC hb z3 zz
     replace z4:=bC hb z4 zz
     replace fz0:=bF hb fz0 zz
     replace fz1:=bF hb fz1 zz
     replace fz2:=bF hb fz2 zz
     replace fz3:=bF hb fz3 zz
     replace fz4:=bF hb fz4 zz
     replace zz:=Kbq zz hb.size
     replace k0:=bC hb k0 zk
     replace k1:=bC hb k1 zk
     replace k2:=bC hb k2 zk
     replace k3:=bC hb k3 zk
     replace k4:=bC hb k4 zk
     replace zk:=Kbq zk hb.size
     replace r0:=bC hb r0 zr
     replace r1:=bC hb r1 zr
     replace r2:=bC hb r2 zr
     replace r3:=bC hb r3 zr
     replace r4:=bC hb r4 zr
     replace fr0:=bF hb fr0 zr
     replace fr1:=bF hb fr1 zr
     replace fr2:=bF hb fr2 zr
     replace fr3:=bF hb fr3 zr
     replace fr4:=bF hb fr4 zr
     replace zr:=Kbq zr hb.size
     replace s0:=bC hb s0 zs
     replace s1:=bC hb s1 zs
     replace s2:=bC hb s2 zs
     replace s3:=bC hb s3 zs
     replace s4:=bC hb s4 zs
     replace zs:=Kbq zs hb.size
     replace HB:=Q00 (HB.out.trans (hb.mono HB.out.size))
     clear hb
     clear hg3w pq
     have hsc:=HB.out.size
     have hrz:=zr
     have H3:=Q00 (Q0X m bc fc cc bt ft ct now a p g3w hn0 hn1 hfl hc0 hc16 ht0 ht16 (by omega) (by omega) (HC.out.kept HB.out zc) (HT.out.kept HB.out zt))
     obtain ⟨tl,htl⟩:∃q,Q11 m.t a p 0 (now+20+1)=q:=⟨_,rfl⟩
     rw [htl] at H3 HTl
     have hpl:tl.length=m.t.length:=by rw [←htl];exact Q0p _ _ _ _ _
     by_cases hok:0≤(Q0m m.t a p).1
     ·rw [decide_eq_true hok] at H3
      rw [if_pos hok] at HVl
      clear htl hok
      go_wp2_with fail
      refine (H3.out).mono ?_
      rintro e v4 ⟨b3,f3,c3,rfl,hz3,hrd,hb,hq3⟩
      have HR:=Q00 hrd
      have hs3:=hb.size
      clear hrd H3
      replace z0:=bC hb z0 zz
      replace z1:=bC hb z1 zz
      replace z2:=bC hb z2 zz
      replace z3:=bC hb z3 zz
      replace z4:=bC hb z4 zz
      replace fz0:=bF hb fz0 zz
      replace fz1:=bF hb fz1 zz
      replace fz2:=bF hb fz2 zz
      replace fz3:=bF hb fz3 zz
      replace fz4:=bF hb fz4 zz
      replace zz:=Kbq zz hb.size
      replace k0:=bC hb k0 zk
      replace k1:=bC hb k1 zk
      replace k2:=bC hb k2 zk
      replace k3:=bC hb k3 zk
      replace k4:=bC hb k4 zk
      replace zk:=Kbq zk hb.size
      replace r0:=bC hb r0 zr
      replace r1:=bC hb r1 zr
      replace r2:=bC hb r2 zr
      replace r3:=bC hb r3 zr
      replace r4:=bC hb r4 zr
      replace fr0:=bF hb fr0 zr
      replace fr1:=bF hb fr1 zr
      replace fr2:=bF hb fr2 zr
      replace fr3:=bF hb fr3 zr
      replace fr4:=bF hb fr4 zr
      replace zr:=Kbq zr hb.size
      replace s0:=bC hb s0 zs
      replace s1:=bC hb s1 zs
      replace s2:=bC hb s2 zs
      replace s3:=bC hb s3 zs
      replace s4:=bC hb s4 zs
      replace zs:=Kbq zs hb.size
      replace HB:=Q00 (HB.out.trans (hb.mono HB.out.size))
      clear hb
      obtain ⟨Wx,hWx⟩:∃W,(v4.alloc (.cells #[.int .i64 m.id,.int .i64 m.lim,.bool m.dr,.slice (some ⟨bc,fc,none⟩) m.c.length cc,.slice (some ⟨b3,f3,none⟩) m.t.length c3] 27))=W:=⟨_,rfl⟩
      have hb_Wx:Below v4.heap.size v4 Wx:=by rw [←hWx];exact ((Below.refl _ _).alloc (Kaq _) _)
      replace z0:=bC hb_Wx z0 zz
      replace z1:=bC hb_Wx z1 zz
      replace z2:=bC hb_Wx z2 zz
      replace z3:=bC hb_Wx z3 zz
      replace z4:=bC hb_Wx z4 zz
      replace fz0:=bF hb_Wx fz0 zz
      replace fz1:=bF hb_Wx fz1 zz
      replace fz2:=bF hb_Wx fz2 zz
      replace fz3:=bF hb_Wx fz3 zz
      replace fz4:=bF hb_Wx fz4 zz
      replace zz:=Kbq zz hb_Wx.size
      replace k0:=bC hb_Wx k0 zk
      replace k1:=bC hb_Wx k1 zk
      replace k2:=bC hb_Wx k2 zk
      replace k3:=bC hb_Wx k3 zk
      replace k4:=bC hb_Wx k4 zk
      replace zk:=Kbq zk hb_Wx.size
      replace r0:=bC hb_Wx r0 zr
      replace r1:=bC hb_Wx r1 zr
      replace r2:=bC hb_Wx r2 zr
      replace r3:=bC hb_Wx r3 zr
      replace r4:=bC hb_Wx r4 zr
      replace fr0:=bF hb_Wx fr0 zr
      replace fr1:=bF hb_Wx fr1 zr
      replace fr2:=bF hb_Wx fr2 zr
      replace fr3:=bF hb_Wx fr3 zr
      replace fr4:=bF hb_Wx fr4 zr
      replace zr:=Kbq zr hb_Wx.size
      replace s0:=bC hb_Wx s0 zs
      replace s1:=bC hb_Wx s1 zs
      replace s2:=bC hb_Wx s2 zs
      replace s3:=bC hb_Wx s3 zs
      replace s4:=bC hb_Wx s4 zs
      replace zs:=Kbq zs hb_Wx.size
      replace HB:=Q00 (HB.out.trans (hb_Wx.mono HB.out.size))
      clear hb_Wx
      have zo:v4.heap.size < Wx.heap.size:=by rw [←hWx];simp
      have o0:Wx.cell? ⟨v4.heap.size,0,none⟩=some (.int .i64 m.id):=by rw [←hWx];simp [go_sem]
      have o1:Wx.cell? ⟨v4.heap.size,1,none⟩=some (.int .i64 m.lim):=by rw [←hWx];simp [go_sem]
      have o2:Wx.cell? ⟨v4.heap.size,2,none⟩=some (.bool m.dr):=by rw [←hWx];simp [go_sem]
      have o3:Wx.cell? ⟨v4.heap.size,3,none⟩=some (.slice (some ⟨bc,fc,none⟩) m.c.length cc):=by rw [←hWx];simp [go_sem]
      have o4:Wx.cell? ⟨v4.heap.size,4,none⟩=some (.slice (some ⟨b3,f3,none⟩) m.t.length c3):=by rw [←hWx];simp [go_sem]
      have hbx:=(show Below v4.heap.size v4 Wx by rw [←hWx];exact (Below.refl _ _).alloc (Kaq _) _)
      have hsx:=hbx.size
      have HRx:=Q00 (Row.kept HR.out hbx hz3)
      clear HR hbx
      have hne1:v4.heap.size≠w.heap.size+1+1:=by omega
      have hne2:w.heap.size+1+1≠v4.heap.size:=by omega
      go_wp2
      refine bodyPost_ret (v:=.tuple #[agt m.id m.lim m.dr (.slice (some ⟨bc,fc,none⟩) m.c.length cc) (.slice (some ⟨b3,f3,none⟩) m.t.length c3),.int .i64 2]) (by simp [results,Try.results93,go_sem,r0,r1,r2,r3,r4]) rfl ⟨bc,fc,cc,b3,f3,c3,by rw [HVl.out],by simp;omega,by simp;omega, ?_, ?_, ?_,by omega,by omega⟩
      ·rw [HCl.out]
       exact (HC.out.kept HB.out zc).step (Q04 Wx (w.heap.size+1+1) (.int .i64 m.id) (.int .i64 m.lim) (.bool m.dr) (.slice (some ⟨bc,fc,none⟩) m.c.length cc) (.slice (some ⟨b3,f3,none⟩) m.t.length c3)) (by have:=HB.out.size;omega) (.inl (by omega))
      ·rw [HTl.out]
       exact Row.step HRx.out (Q04 Wx (w.heap.size+1+1) (.int .i64 m.id) (.int .i64 m.lim) (.bool m.dr) (.slice (some ⟨bc,fc,none⟩) m.c.length cc) (.slice (some ⟨b3,f3,none⟩) m.t.length c3)) (by omega) (by omega)
      ·exact Q07 HB.out (by omega) _ _ _ _ _
     ·rw [decide_eq_false hok] at H3
      rw [if_neg hok] at HVl
      have htle:tl=m.t:=by rw [←htl];unfold Q11;rw [if_neg hok]
      rw [htle] at HTl
      clear htl hok
      go_wp2_with fail
      refine (H3.out).mono ?_
      rintro e v4 ⟨b3,f3,c3,rfl,hz3,hrd,hb,hq3⟩
      have HR:=Q00 hrd
      have hs3:=hb.size
      clear hrd H3
      replace z0:=bC hb z0 zz
      replace z1:=bC hb z1 zz
      replace z2:=bC hb z2 zz
      replace z3:=bC hb z3 zz
      replace z4:=bC hb z4 zz
      replace fz0:=bF hb fz0 zz
      replace fz1:=bF hb fz1 zz
      replace fz2:=bF hb fz2 zz
      replace fz3:=bF hb fz3 zz
      replace fz4:=bF hb fz4 zz
      replace zz:=Kbq zz hb.size
      replace k0:=bC hb k0 zk
      replace k1:=bC hb k1 zk
      replace k2:=bC hb k2 zk
      replace k3:=bC hb k3 zk
      replace k4:=bC hb k4 zk
      replace zk:=Kbq zk hb.size
      replace r0:=bC hb r0 zr
      replace r1:=bC hb r1 zr
      replace r2:=bC hb r2 zr
      replace r3:=bC hb r3 zr
      replace r4:=bC hb r4 zr
      replace fr0:=bF hb fr0 zr
      replace fr1:=bF hb fr1 zr
      replace fr2:=bF hb fr2 zr
      replace fr3:=bF hb fr3 zr
      replace fr4:=bF hb fr4 zr
      replace zr:=Kbq zr hb.size
      replace s0:=bC hb s0 zs
      replace s1:=bC hb s1 zs
      replace s2:=bC hb s2 zs
      replace s3:=bC hb s3 zs
      replace s4:=bC hb s4 zs
      replace zs:=Kbq zs hb.size
      replace HB:=Q00 (HB.out.trans (hb.mono HB.out.size))
      clear hb
      obtain ⟨Wx,hWx⟩:∃W,(v4.alloc (.cells #[.int .i64 m.id,.int .i64 m.lim,.bool m.dr,.slice (some ⟨bc,fc,none⟩) m.c.length cc,.slice (some ⟨b3,f3,none⟩) m.t.length c3] 27))=W:=⟨_,rfl⟩
      have hb_Wx:Below v4.heap.size v4 Wx:=by rw [←hWx];exact ((Below.refl _ _).alloc (Kaq _) _)
      replace z0:=bC hb_Wx z0 zz
      replace z1:=bC hb_Wx z1 zz
      replace z2:=bC hb_Wx z2 zz
      replace z3:=bC hb_Wx z3 zz
      replace z4:=bC hb_Wx z4 zz
      replace fz0:=bF hb_Wx fz0 zz
      replace fz1:=bF hb_Wx fz1 zz
      replace fz2:=bF hb_Wx fz2 zz
      replace fz3:=bF hb_Wx fz3 zz
      replace fz4:=bF hb_Wx fz4 zz
      replace zz:=Kbq zz hb_Wx.size
      replace k0:=bC hb_Wx k0 zk
      replace k1:=bC hb_Wx k1 zk
      replace k2:=bC hb_Wx k2 zk
      replace k3:=bC hb_Wx k3 zk
      replace k4:=bC hb_Wx k4 zk
      replace zk:=Kbq zk hb_Wx.size
      replace r0:=bC hb_Wx r0 zr
      replace r1:=bC hb_Wx r1 zr
      replace r2:=bC hb_Wx r2 zr
      replace r3:=bC hb_Wx r3 zr
      replace r4:=bC hb_Wx r4 zr
      replace fr0:=bF hb_Wx fr0 zr
      replace fr1:=bF hb_Wx fr1 zr
      replace fr2:=bF hb_Wx fr2 zr
      replace fr3:=bF hb_Wx fr3 zr
      replace fr4:=bF hb_Wx fr4 zr
      replace zr:=Kbq zr hb_Wx.size
      replace s0:=bC hb_Wx s0 zs
      replace s1:=bC hb_Wx s1 zs
      replace s2:=bC hb_Wx s2 zs
      replace s3:=bC hb_Wx s3 zs
      replace s4:=bC hb_Wx s4 zs
      replace zs:=Kbq zs hb_Wx.size
      replace HB:=Q00 (HB.out.trans (hb_Wx.mono HB.out.size))
      clear hb_Wx
      have zo:v4.heap.size < Wx.heap.size:=by rw [←hWx];simp
      have o0:Wx.cell? ⟨v4.heap.size,0,none⟩=some (.int .i64 m.id):=by rw [←hWx];simp [go_sem]
      have o1:Wx.cell? ⟨v4.heap.size,1,none⟩=some (.int .i64 m.lim):=by rw [←hWx];simp [go_sem]
      have o2:Wx.cell? ⟨v4.heap.size,2,none⟩=some (.bool m.dr):=by rw [←hWx];simp [go_sem]
      have o3:Wx.cell? ⟨v4.heap.size,3,none⟩=some (.slice (some ⟨bc,fc,none⟩) m.c.length cc):=by rw [←hWx];simp [go_sem]
      have o4:Wx.cell? ⟨v4.heap.size,4,none⟩=some (.slice (some ⟨b3,f3,none⟩) m.t.length c3):=by rw [←hWx];simp [go_sem]
      have hbx:=(show Below v4.heap.size v4 Wx by rw [←hWx];exact (Below.refl _ _).alloc (Kaq _) _)
      have hsx:=hbx.size
      have HRx:=Q00 (Row.kept HR.out hbx hz3)
      clear HR hbx
      have hne1:v4.heap.size≠w.heap.size+1+1:=by omega
      have hne2:w.heap.size+1+1≠v4.heap.size:=by omega
      go_wp2
      refine bodyPost_ret (v:=.tuple #[agt m.id m.lim m.dr (.slice (some ⟨bc,fc,none⟩) m.c.length cc) (.slice (some ⟨bt,ft,none⟩) m.t.length ct),.int .i64 5]) (by simp [results,Try.results93,go_sem,r0,r1,r2,r3,r4]) rfl ⟨bc,fc,cc,bt,ft,ct,by rw [HVl.out],by simp;omega,by simp;omega, ?_, ?_, ?_,by omega,by omega⟩
      ·rw [HCl.out]
       exact (HC.out.kept HB.out zc).step (Q04 Wx (w.heap.size+1+1) (.int .i64 m.id) (.int .i64 m.lim) (.bool m.dr) (.slice (some ⟨bc,fc,none⟩) m.c.length cc) (.slice (some ⟨bt,ft,none⟩) m.t.length ct)) (by have:=HB.out.size;omega) (.inl (by omega))
      ·rw [HTl.out]
       exact (HT.out.kept HB.out zt).step (Q04 Wx (w.heap.size+1+1) (.int .i64 m.id) (.int .i64 m.lim) (.bool m.dr) (.slice (some ⟨bc,fc,none⟩) m.c.length cc) (.slice (some ⟨bt,ft,none⟩) m.t.length ct)) (by have:=HB.out.size;omega) (.inl (by omega))
      ·exact Q07 HB.out (by omega) _ _ _ _ _
    |true=>
     have hG:Q19 m a p true=false:=by rw [HGd.out];simp [*]
     rw [hG] at HV HHC HHT
     have HVl:=Q00 (HV.out.trans ((if_neg (by decide)).trans (if_pos rfl)))
     have HCl:=Q00 (HHC.out.trans (if_neg (by decide)))
     have HTl:=Q00 (HHT.out.trans (if_pos (.inr rfl)))
     clear HV HHC HHT HGd hG
     have HDR:=Q00 hdr
     clear hdr
     go_enter Try.func93,Try.ntmps93
     go_wp2_with fail
     refine (H1.out).mono ?_
     rintro e v1 ⟨rfl,hb⟩
     clear H1
     replace z0:=bC hb z0 zz
     replace z1:=bC hb z1 zz
     replace z2:=bC hb z2 zz
     replace z3:=bC hb z3 zz
     replace z4:=bC hb z4 zz
     replace fz0:=bF hb fz0 zz
     replace fz1:=bF hb fz1 zz
     replace fz2:=bF hb fz2 zz
     replace fz3:=bF hb fz3 zz
     replace fz4:=bF hb fz4 zz
     replace zz:=Kbq zz hb.size
     replace k0:=bC hb k0 zk
     replace k1:=bC hb k1 zk
     replace k2:=bC hb k2 zk
     replace k3:=bC hb k3 zk
     replace k4:=bC hb k4 zk
     replace zk:=Kbq zk hb.size
     replace r0:=bC hb r0 zr
     replace r1:=bC hb r1 zr
     replace r2:=bC hb r2 zr
     replace r3:=bC hb r3 zr
     replace r4:=bC hb r4 zr
     replace fr0:=bF hb fr0 zr
     replace fr1:=bF hb fr1 zr
     replace fr2:=bF hb fr2 zr
     replace fr3:=bF hb fr3 zr
     replace fr4:=bF hb fr4 zr
     replace zr:=Kbq zr hb.size
     replace HB:=Q00 (HB.out.trans (hb.mono HB.out.size))
     clear hb
     obtain ⟨W2,hW2⟩:∃W,(v1.alloc (.cells #[.bool q.u,.int .i64 q.a,.int .i64 q.p,.int .i64 q.v,.int .i64 q.t] 84))=W:=⟨_,rfl⟩
     have hb_W2:Below v1.heap.size v1 W2:=by rw [←hW2];exact ((Below.refl _ _).alloc (Kaq _) _)
     replace z0:=bC hb_W2 z0 zz
     replace z1:=bC hb_W2 z1 zz
     replace z2:=bC hb_W2 z2 zz
     replace z3:=bC hb_W2 z3 zz
     replace z4:=bC hb_W2 z4 zz
     replace fz0:=bF hb_W2 fz0 zz
     replace fz1:=bF hb_W2 fz1 zz
     replace fz2:=bF hb_W2 fz2 zz
     replace fz3:=bF hb_W2 fz3 zz
     replace fz4:=bF hb_W2 fz4 zz
     replace zz:=Kbq zz hb_W2.size
     replace k0:=bC hb_W2 k0 zk
     replace k1:=bC hb_W2 k1 zk
     replace k2:=bC hb_W2 k2 zk
     replace k3:=bC hb_W2 k3 zk
     replace k4:=bC hb_W2 k4 zk
     replace zk:=Kbq zk hb_W2.size
     replace r0:=bC hb_W2 r0 zr
     replace r1:=bC hb_W2 r1 zr
     replace r2:=bC hb_W2 r2 zr
     replace r3:=bC hb_W2 r3 zr
     replace r4:=bC hb_W2 r4 zr
     replace fr0:=bF hb_W2 fr0 zr
     replace fr1:=bF hb_W2 fr1 zr
     replace fr2:=bF hb_W2 fr2 zr
     replace fr3:=bF hb_W2 fr3 zr
     replace fr4:=bF hb_W2 fr4 zr
     replace zr:=Kbq zr hb_W2.size
     replace HB:=Q00 (HB.out.trans (hb_W2.mono HB.out.size))
     clear hb_W2
     have zs:v1.heap.size < W2.heap.size:=by rw [←hW2];simp
     have s0:W2.cell? ⟨v1.heap.size,0,none⟩=some (.bool q.u):=by rw [←hW2];simp [go_sem]
     have s1:W2.cell? ⟨v1.heap.size,1,none⟩=some (.int .i64 q.a):=by rw [←hW2];simp [go_sem]
     have s2:W2.cell? ⟨v1.heap.size,2,none⟩=some (.int .i64 q.p):=by rw [←hW2];simp [go_sem]
     have s3:W2.cell? ⟨v1.heap.size,3,none⟩=some (.int .i64 q.v):=by rw [←hW2];simp [go_sem]
     have s4:W2.cell? ⟨v1.heap.size,4,none⟩=some (.int .i64 q.t):=by rw [←hW2];simp [go_sem]
     have hlt':¬((nc:Int) < (m.c.length:Int)):=by omega
     have hdr:=HDR.out
     have HCn:=Q00 (fun pp:Grown W2=> Q0j bc fc cc m.c pp.v (Kbq (Kbq zc HB.out.size) pp.b.size) ((HC.out.kept HB.out zc).kept pp.b (Kbq zc HB.out.size)) (by omega))
     rw [HNC.out] at HCn
     have GZ1:=Grown.cell z1 zz
     have GZ2:=Grown.cell z2 zz
     have GZ3:=Grown.cell z3 zz
     go_wp2
     (refine Q05 (by kernel_rfl) (by kernel_rfl) ?_;intro hne9;(repeat (go_big_quiet_step ((go_at_call 43;exact Q09 _ (HCn.out _)))));(with_reducible refine wpQuiet_nil ?_);intro _ hw9;obtain ⟨pq,hw8⟩:=hw9;subst hw8)
     obtain ⟨g2w,hg2w⟩:∃W,pq.v=W:=⟨_,rfl⟩
     have hb:=pq.b
     rw [hg2w] at hb ⊢
     clear GZ1 GZ2 GZ3 HCn
     replace z0:=bC hb z0 zz
     replace z1:=bC hb z1 zz
     replace z2:=bC hb z2 zz
     replace z3:=bC hb z3 zz
     replace z4:=bC hb z4 zz
     replace fz0:=bF hb fz0 zz
     replace fz1:=bF hb fz1 zz
     replace fz2:=bF hb fz2 zz
     replace fz3:=bF hb fz3 zz
     replace fz4:=bF hb fz4 zz
     replace zz:=Kbq zz hb.size
     replace k0:=bC hb k0 zk
     replace k1:=bC hb k1 zk
     replace k2:=bC hb k2 zk
     replace k3:=bC hb k3 zk
     replace k4:=bC hb k4 zk
     replace zk:=Kbq zk hb.size
     replace r0:=bC hb r0 zr
     replace r1:=bC hb r1 zr
     replace r2:=bC hb r2 zr
     replace r3:=bC hb r3 zr
     replace r4:=bC hb r4 zr
     replace fr0:=bF hb fr0 zr
     replace fr1:=bF hb fr1 zr
     replace fr2:=bF hb fr2 zr
     replace fr3:=bF hb fr3 zr
     replace fr4:=bF hb fr4 zr
     replace zr:=Kbq zr hb.size
     replace s0:=bC hb s0 zs
     replace s1:=bC hb s1 zs
     replace s2:=bC hb s2 zs
     replace s3:=bC hb s3 zs
     replace s4:=bC hb s4 zs
     replace zs:=Kbq zs hb.size
     replace HB:=Q00 (HB.out.trans (hb.mono HB.out.size))
     clear hb
     clear hg2w pq
     clear hlt' hdr
     go_wp2
     refine bodyPost_ret (v:=.tuple #[agt m.id m.lim m.dr (.slice (some ⟨bc,fc,none⟩) m.c.length cc) (.slice (some ⟨bt,ft,none⟩) m.t.length ct),.int .i64 3]) (by simp [results,Try.results93,go_sem,r0,r1,r2,r3,r4]) rfl ⟨bc,fc,cc,bt,ft,ct,by rw [HVl.out],by simp;omega,by simp;omega, ?_, ?_, ?_,by omega,by omega⟩
     ·rw [HCl.out]
      exact (HC.out.kept HB.out zc).step (Q04 g2w (w.heap.size+1+1) (.int .i64 m.id) (.int .i64 m.lim) (.bool m.dr) (.slice (some ⟨bc,fc,none⟩) m.c.length cc) (.slice (some ⟨bt,ft,none⟩) m.t.length ct)) (by have:=HB.out.size;omega) (.inl (by omega))
     ·rw [HTl.out]
      exact (HT.out.kept HB.out zt).step (Q04 g2w (w.heap.size+1+1) (.int .i64 m.id) (.int .i64 m.lim) (.bool m.dr) (.slice (some ⟨bc,fc,none⟩) m.c.length cc) (.slice (some ⟨bt,ft,none⟩) m.t.length ct)) (by have:=HB.out.size;omega) (.inl (by omega))
     ·exact Q07 HB.out (by omega) _ _ _ _ _
   |true=>
    cases last with
    |false=>
     have hG:Q19 m a p false=false:=by rw [HGd.out];simp [*]
     rw [hG] at HV HHC HHT
     have HVl:=Q00 (HV.out.trans ((if_neg (by decide)).trans (if_neg (by decide))))
     have HCl:=Q00 (HHC.out.trans (if_neg (by decide)))
     have HTl:=Q00 (HHT.out.trans (if_neg (by simp)))
     clear HV HHC HHT HGd hG
     have HDR:=Q00 hdr
     clear hdr
     go_enter Try.func93,Try.ntmps93
     go_wp2_with fail
     refine (H1.out).mono ?_
     rintro e v1 ⟨rfl,hb⟩
     clear H1
     replace z0:=bC hb z0 zz
     replace z1:=bC hb z1 zz
     replace z2:=bC hb z2 zz
     replace z3:=bC hb z3 zz
     replace z4:=bC hb z4 zz
     replace fz0:=bF hb fz0 zz
     replace fz1:=bF hb fz1 zz
     replace fz2:=bF hb fz2 zz
     replace fz3:=bF hb fz3 zz
     replace fz4:=bF hb fz4 zz
     replace zz:=Kbq zz hb.size
     replace k0:=bC hb k0 zk
     replace k1:=bC hb k1 zk
     replace k2:=bC hb k2 zk
     replace k3:=bC hb k3 zk
     replace k4:=bC hb k4 zk
     replace zk:=Kbq zk hb.size
     replace r0:=bC hb r0 zr
     replace r1:=bC hb r1 zr
     replace r2:=bC hb r2 zr
     replace r3:=bC hb r3 zr
     replace r4:=bC hb r4 zr
     replace fr0:=bF hb fr0 zr
     replace fr1:=bF hb fr1 zr
     replace fr2:=bF hb fr2 zr
     replace fr3:=bF hb fr3 zr
     replace fr4:=bF hb fr4 zr
     replace zr:=Kbq zr hb.size
     replace HB:=Q00 (HB.out.trans (hb.mono HB.out.size))
     clear hb
     obtain ⟨W2,hW2⟩:∃W,(v1.alloc (.cells #[.bool q.u,.int .i64 q.a,.int .i64 q.p,.int .i64 q.v,.int .i64 q.t] 84))=W:=⟨_,rfl⟩
     have hb_W2:Below v1.heap.size v1 W2:=by rw [←hW2];exact ((Below.refl _ _).alloc (Kaq _) _)
     replace z0:=bC hb_W2 z0 zz
     replace z1:=bC hb_W2 z1 zz
     replace z2:=bC hb_W2 z2 zz
     replace z3:=bC hb_W2 z3 zz
     replace z4:=bC hb_W2 z4 zz
     replace fz0:=bF hb_W2 fz0 zz
     replace fz1:=bF hb_W2 fz1 zz
     replace fz2:=bF hb_W2 fz2 zz
     replace fz3:=bF hb_W2 fz3 zz
     replace fz4:=bF hb_W2 fz4 zz
     replace zz:=Kbq zz hb_W2.size
     replace k0:=bC hb_W2 k0 zk
     replace k1:=bC hb_W2 k1 zk
     replace k2:=bC hb_W2 k2 zk
     replace k3:=bC hb_W2 k3 zk
     replace k4:=bC hb_W2 k4 zk
     replace zk:=Kbq zk hb_W2.size
     replace r0:=bC hb_W2 r0 zr
     replace r1:=bC hb_W2 r1 zr
     replace r2:=bC hb_W2 r2 zr
     replace r3:=bC hb_W2 r3 zr
     replace r4:=bC hb_W2 r4 zr
     replace fr0:=bF hb_W2 fr0 zr
     replace fr1:=bF hb_W2 fr1 zr
     replace fr2:=bF hb_W2 fr2 zr
     replace fr3:=bF hb_W2 fr3 zr
     replace fr4:=bF hb_W2 fr4 zr
     replace zr:=Kbq zr hb_W2.size
     replace HB:=Q00 (HB.out.trans (hb_W2.mono HB.out.size))
     clear hb_W2
     have zs:v1.heap.size < W2.heap.size:=by rw [←hW2];simp
     have s0:W2.cell? ⟨v1.heap.size,0,none⟩=some (.bool q.u):=by rw [←hW2];simp [go_sem]
     have s1:W2.cell? ⟨v1.heap.size,1,none⟩=some (.int .i64 q.a):=by rw [←hW2];simp [go_sem]
     have s2:W2.cell? ⟨v1.heap.size,2,none⟩=some (.int .i64 q.p):=by rw [←hW2];simp [go_sem]
     have s3:W2.cell? ⟨v1.heap.size,3,none⟩=some (.int .i64 q.v):=by rw [←hW2];simp [go_sem]
     have s4:W2.cell? ⟨v1.heap.size,4,none⟩=some (.int .i64 q.t):=by rw [←hW2];simp [go_sem]
     have hlt':¬((nc:Int) < (m.c.length:Int)):=by omega
     have hdr:=HDR.out
     have HCn:=Q00 (fun pp:Grown W2=> Q0j bc fc cc m.c pp.v (Kbq (Kbq zc HB.out.size) pp.b.size) ((HC.out.kept HB.out zc).kept pp.b (Kbq zc HB.out.size)) (by omega))
     rw [HNC.out] at HCn
     have GZ1:=Grown.cell z1 zz
     have GZ2:=Grown.cell z2 zz
     have GZ3:=Grown.cell z3 zz
     go_wp2
     (refine Q05 (by kernel_rfl) (by kernel_rfl) ?_;intro hne9;(repeat (go_big_quiet_step ((go_at_call 43;exact Q09 _ (HCn.out _)))));(with_reducible refine wpQuiet_nil ?_);intro _ hw9;obtain ⟨pq,hw8⟩:=hw9;subst hw8)
     obtain ⟨g2w,hg2w⟩:∃W,pq.v=W:=⟨_,rfl⟩
     have hb:=pq.b
     rw [hg2w] at hb ⊢
     clear GZ1 GZ2 GZ3 HCn
     replace z0:=bC hb z0 zz
     replace z1:=bC hb z1 zz
     replace z2:=bC hb z2 zz
     replace z3:=bC hb z3 zz
     replace z4:=bC hb z4 zz
     replace fz0:=bF hb fz0 zz
     replace fz1:=bF hb fz1 zz
     replace fz2:=bF hb fz2 zz
     replace fz3:=bF hb fz3 zz
     replace fz4:=bF hb fz4 zz
     replace zz:=Kbq zz hb.size
     replace k0:=bC hb k0 zk
     replace k1:=bC hb k1 zk
     replace k2:=bC hb k2 zk
     replace k3:=bC hb k3 zk
     replace k4:=bC hb k4 zk
     replace zk:=Kbq zk hb.size
     replace r0:=bC hb r0 zr
     replace r1:=bC hb r1 zr
     replace r2:=bC hb r2 zr
     replace r3:=bC hb r3 zr
     replace r4:=bC hb r4 zr
     replace fr0:=bF hb fr0 zr
     replace fr1:=bF hb fr1 zr
     replace fr2:=bF hb fr2 zr
     replace fr3:=bF hb fr3 zr
     replace fr4:=bF hb fr4 zr
     replace zr:=Kbq zr hb.size
     replace s0:=bC hb s0 zs
     replace s1:=bC hb s1 zs
     replace s2:=bC hb s2 zs
     replace s3:=bC hb s3 zs
     replace s4:=bC hb s4 zs
     replace zs:=Kbq zs hb.size
     replace HB:=Q00 (HB.out.trans (hb.mono HB.out.size))
     clear hb
     clear hg2w pq
     clear hlt' hdr
     have GZ1:=Grown.cell z1 zz
     have GZ3:=Grown.cell z3 zz
     have HCn:=Q00 (fun pp:Grown g2w=> Q0j bc fc cc m.c pp.v (Kbq (Kbq zc HB.out.size) pp.b.size) ((HC.out.kept HB.out zc).kept pp.b (Kbq zc HB.out.size)) (by omega))
     rw [HNC.out] at HCn
     go_wp2
     (refine Q05 (by kernel_rfl) (by kernel_rfl) ?_;intro hne9;(repeat (go_big_quiet_step ((go_at_call 43;exact Q09 _ (HCn.out _)))));(with_reducible refine wpQuiet_nil ?_);intro _ hw9;obtain ⟨pq,hw8⟩:=hw9;subst hw8)
     obtain ⟨g3w,hg3w⟩:∃W,pq.v=W:=⟨_,rfl⟩
     have hb:=pq.b
     rw [hg3w] at hb ⊢
     clear GZ1 GZ3 HCn
     replace z0:=bC hb z0 zz
     replace z1:=bC hb z1 zz
     replace z2:=bC hb z2 zz
     replace z3:=bC hb z3 zz
     replace z4:=bC hb z4 zz
     replace fz0:=bF hb fz0 zz
     replace fz1:=bF hb fz1 zz
     replace fz2:=bF hb fz2 zz
     replace fz3:=bF hb fz3 zz
     replace fz4:=bF hb fz4 zz
     replace zz:=Kbq zz hb.size
     replace k0:=bC hb k0 zk
     replace k1:=bC hb k1 zk
     replace k2:=bC hb k2 zk
     replace k3:=bC hb k3 zk
     replace k4:=bC hb k4 zk
     replace zk:=Kbq zk hb.size
     replace r0:=bC hb r0 zr
     replace r1:=bC hb r1 zr
     replace r2:=bC hb r2 zr
     replace r3:=bC hb r3 zr
     replace r4:=bC hb r4 zr
     replace fr0:=bF hb fr0 zr
     replace fr1:=bF hb fr1 zr
     replace fr2:=bF hb fr2 zr
     replace fr3:=bF hb fr3 zr
     replace fr4:=bF hb fr4 zr
     replace zr:=Kbq zr hb.size
     replace s0:=bC hb s0 zs
     replace s1:=bC hb s1 zs
     replace s2:=bC hb s2 zs
     replace s3:=bC hb s3 zs
     replace s4:=bC hb s4 zs
     replace zs:=Kbq zs hb.size
     replace HB:=Q00 (HB.out.trans (hb.mono HB.out.size))
     clear hb
     clear hg3w pq
     have hsc:=HB.out.size
     have hrz:=zr
     have H3:=Q00 (Q0X m bc fc cc bt ft ct now a p g3w hn0 hn1 hfl hc0 hc16 ht0 ht16 (by omega) (by omega) (HC.out.kept HB.out zc) (HT.out.kept HB.out zt))
     obtain ⟨tl,htl⟩:∃q,Q11 m.t a p 0 (now+20+1)=q:=⟨_,rfl⟩
     rw [htl] at H3 HTl
     have hpl:tl.length=m.t.length:=by rw [←htl];exact Q0p _ _ _ _ _
     by_cases hok:0≤(Q0m m.t a p).1
     ·rw [decide_eq_true hok] at H3
      rw [if_pos hok] at HVl
      clear htl hok
      go_wp2_with fail
      refine (H3.out).mono ?_
      rintro e v4 ⟨b3,f3,c3,rfl,hz3,hrd,hb,hq3⟩
      have HR:=Q00 hrd
      have hs3:=hb.size
      clear hrd H3
      replace z0:=bC hb z0 zz
      replace z1:=bC hb z1 zz
      replace z2:=bC hb z2 zz
      replace z3:=bC hb z3 zz
      replace z4:=bC hb z4 zz
      replace fz0:=bF hb fz0 zz
      replace fz1:=bF hb fz1 zz
      replace fz2:=bF hb fz2 zz
      replace fz3:=bF hb fz3 zz
      replace fz4:=bF hb fz4 zz
      replace zz:=Kbq zz hb.size
      replace k0:=bC hb k0 zk
      replace k1:=bC hb k1 zk
      replace k2:=bC hb k2 zk
      replace k3:=bC hb k3 zk
      replace k4:=bC hb k4 zk
      replace zk:=Kbq zk hb.size
      replace r0:=bC hb r0 zr
      replace r1:=bC hb r1 zr
      replace r2:=bC hb r2 zr
      replace r3:=bC hb r3 zr
      replace r4:=bC hb r4 zr
      replace fr0:=bF hb fr0 zr
      replace fr1:=bF hb fr1 zr
      replace fr2:=bF hb fr2 zr
      replace fr3:=bF hb fr3 zr
      replace fr4:=bF hb fr4 zr
      replace zr:=Kbq zr hb.size
      replace s0:=bC hb s0 zs
      replace s1:=bC hb s1 zs
      replace s2:=bC hb s2 zs
      replace s3:=bC hb s3 zs
      replace s4:=bC hb s4 zs
      replace zs:=Kbq zs hb.size
      replace HB:=Q00 (HB.out.trans (hb.mono HB.out.size))
      clear hb
      obtain ⟨Wx,hWx⟩:∃W,(v4.alloc (.cells #[.int .i64 m.id,.int .i64 m.lim,.bool m.dr,.slice (some ⟨bc,fc,none⟩) m.c.length cc,.slice (some ⟨b3,f3,none⟩) m.t.length c3] 27))=W:=⟨_,rfl⟩
      have hb_Wx:Below v4.heap.size v4 Wx:=by rw [←hWx];exact ((Below.refl _ _).alloc (Kaq _) _)
      replace z0:=bC hb_Wx z0 zz
      replace z1:=bC hb_Wx z1 zz
      replace z2:=bC hb_Wx z2 zz
      replace z3:=bC hb_Wx z3 zz
      replace z4:=bC hb_Wx z4 zz
      replace fz0:=bF hb_Wx fz0 zz
      replace fz1:=bF hb_Wx fz1 zz
      replace fz2:=bF hb_Wx fz2 zz
      replace fz3:=bF hb_Wx fz3 zz
      replace fz4:=bF hb_Wx fz4 zz
      replace zz:=Kbq zz hb_Wx.size
      replace k0:=bC hb_Wx k0 zk
      replace k1:=bC hb_Wx k1 zk
      replace k2:=bC hb_Wx k2 zk
      replace k3:=bC hb_Wx k3 zk
      replace k4:=bC hb_Wx k4 zk
      replace zk:=Kbq zk hb_Wx.size
      replace r0:=bC hb_Wx r0 zr
      replace r1:=bC hb_Wx r1 zr
      replace r2:=bC hb_Wx r2 zr
      replace r3:=bC hb_Wx r3 zr
      replace r4:=bC hb_Wx r4 zr
      replace fr0:=bF hb_Wx fr0 zr
      replace fr1:=bF hb_Wx fr1 zr
      replace fr2:=bF hb_Wx fr2 zr
      replace fr3:=bF hb_Wx fr3 zr
      replace fr4:=bF hb_Wx fr4 zr
      replace zr:=Kbq zr hb_Wx.size
      replace s0:=bC hb_Wx s0 zs
      replace s1:=bC hb_Wx s1 zs
      replace s2:=bC hb_Wx s2 zs
      replace s3:=bC hb_Wx s3 zs
      replace s4:=bC hb_Wx s4 zs
      replace zs:=Kbq zs hb_Wx.size
      replace HB:=Q00 (HB.out.trans (hb_Wx.mono HB.out.size))
      clear hb_Wx
      have zo:v4.heap.size < Wx.heap.size:=by rw [←hWx];simp
      have o0:Wx.cell? ⟨v4.heap.size,0,none⟩=some (.int .i64 m.id):=by rw [←hWx];simp [go_sem]
      have o1:Wx.cell? ⟨v4.heap.size,1,none⟩=some (.int .i64 m.lim):=by rw [←hWx];simp [go_sem]
      have o2:Wx.cell? ⟨v4.heap.size,2,none⟩=some (.bool m.dr):=by rw [←hWx];simp [go_sem]
      have o3:Wx.cell? ⟨v4.heap.size,3,none⟩=some (.slice (some ⟨bc,fc,none⟩) m.c.length cc):=by rw [←hWx];simp [go_sem]
      have o4:Wx.cell? ⟨v4.heap.size,4,none⟩=some (.slice (some ⟨b3,f3,none⟩) m.t.length c3):=by rw [←hWx];simp [go_sem]
      have hbx:=(show Below v4.heap.size v4 Wx by rw [←hWx];exact (Below.refl _ _).alloc (Kaq _) _)
      have hsx:=hbx.size
      have HRx:=Q00 (Row.kept HR.out hbx hz3)
      clear HR hbx
      have hne1:v4.heap.size≠w.heap.size+1+1:=by omega
      have hne2:w.heap.size+1+1≠v4.heap.size:=by omega
      go_wp2
      refine bodyPost_ret (v:=.tuple #[agt m.id m.lim m.dr (.slice (some ⟨bc,fc,none⟩) m.c.length cc) (.slice (some ⟨b3,f3,none⟩) m.t.length c3),.int .i64 2]) (by simp [results,Try.results93,go_sem,r0,r1,r2,r3,r4]) rfl ⟨bc,fc,cc,b3,f3,c3,by rw [HVl.out],by simp;omega,by simp;omega, ?_, ?_, ?_,by omega,by omega⟩
      ·rw [HCl.out]
       exact (HC.out.kept HB.out zc).step (Q04 Wx (w.heap.size+1+1) (.int .i64 m.id) (.int .i64 m.lim) (.bool m.dr) (.slice (some ⟨bc,fc,none⟩) m.c.length cc) (.slice (some ⟨b3,f3,none⟩) m.t.length c3)) (by have:=HB.out.size;omega) (.inl (by omega))
      ·rw [HTl.out]
       exact Row.step HRx.out (Q04 Wx (w.heap.size+1+1) (.int .i64 m.id) (.int .i64 m.lim) (.bool m.dr) (.slice (some ⟨bc,fc,none⟩) m.c.length cc) (.slice (some ⟨b3,f3,none⟩) m.t.length c3)) (by omega) (by omega)
      ·exact Q07 HB.out (by omega) _ _ _ _ _
     ·rw [decide_eq_false hok] at H3
      rw [if_neg hok] at HVl
      have htle:tl=m.t:=by rw [←htl];unfold Q11;rw [if_neg hok]
      rw [htle] at HTl
      clear htl hok
      go_wp2_with fail
      refine (H3.out).mono ?_
      rintro e v4 ⟨b3,f3,c3,rfl,hz3,hrd,hb,hq3⟩
      have HR:=Q00 hrd
      have hs3:=hb.size
      clear hrd H3
      replace z0:=bC hb z0 zz
      replace z1:=bC hb z1 zz
      replace z2:=bC hb z2 zz
      replace z3:=bC hb z3 zz
      replace z4:=bC hb z4 zz
      replace fz0:=bF hb fz0 zz
      replace fz1:=bF hb fz1 zz
      replace fz2:=bF hb fz2 zz
      replace fz3:=bF hb fz3 zz
      replace fz4:=bF hb fz4 zz
      replace zz:=Kbq zz hb.size
      replace k0:=bC hb k0 zk
      replace k1:=bC hb k1 zk
      replace k2:=bC hb k2 zk
      replace k3:=bC hb k3 zk
      replace k4:=bC hb k4 zk
      replace zk:=Kbq zk hb.size
      replace r0:=bC hb r0 zr
      replace r1:=bC hb r1 zr
      replace r2:=bC hb r2 zr
      replace r3:=bC hb r3 zr
      replace r4:=bC hb r4 zr
      replace fr0:=bF hb fr0 zr
      replace fr1:=bF hb fr1 zr
      replace fr2:=bF hb fr2 zr
      replace fr3:=bF hb fr3 zr
      replace fr4:=bF hb fr4 zr
      replace zr:=Kbq zr hb.size
      replace s0:=bC hb s0 zs
      replace s1:=bC hb s1 zs
      replace s2:=bC hb s2 zs
      replace s3:=bC hb s3 zs
      replace s4:=bC hb s4 zs
      replace zs:=Kbq zs hb.size
      replace HB:=Q00 (HB.out.trans (hb.mono HB.out.size))
      clear hb
      obtain ⟨Wx,hWx⟩:∃W,(v4.alloc (.cells #[.int .i64 m.id,.int .i64 m.lim,.bool m.dr,.slice (some ⟨bc,fc,none⟩) m.c.length cc,.slice (some ⟨b3,f3,none⟩) m.t.length c3] 27))=W:=⟨_,rfl⟩
      have hb_Wx:Below v4.heap.size v4 Wx:=by rw [←hWx];exact ((Below.refl _ _).alloc (Kaq _) _)
      replace z0:=bC hb_Wx z0 zz
      replace z1:=bC hb_Wx z1 zz
      replace z2:=bC hb_Wx z2 zz
      replace z3:=bC hb_Wx z3 zz
      replace z4:=bC hb_Wx z4 zz
      replace fz0:=bF hb_Wx fz0 zz
      replace fz1:=bF hb_Wx fz1 zz
      replace fz2:=bF hb_Wx fz2 zz
      replace fz3:=bF hb_Wx fz3 zz
      replace fz4:=bF hb_Wx fz4 zz
      replace zz:=Kbq zz hb_Wx.size
      replace k0:=bC hb_Wx k0 zk
      replace k1:=bC hb_Wx k1 zk
      replace k2:=bC hb_Wx k2 zk
      replace k3:=bC hb_Wx k3 zk
      replace k4:=bC hb_Wx k4 zk
      replace zk:=Kbq zk hb_Wx.size
      replace r0:=bC hb_Wx r0 zr
      replace r1:=bC hb_Wx r1 zr
      replace r2:=bC hb_Wx r2 zr
      replace r3:=bC hb_Wx r3 zr
      replace r4:=bC hb_Wx r4 zr
      replace fr0:=bF hb_Wx fr0 zr
      replace fr1:=bF hb_Wx fr1 zr
      replace fr2:=bF hb_Wx fr2 zr
      replace fr3:=bF hb_Wx fr3 zr
      replace fr4:=bF hb_Wx fr4 zr
      replace zr:=Kbq zr hb_Wx.size
      replace s0:=bC hb_Wx s0 zs
      replace s1:=bC hb_Wx s1 zs
      replace s2:=bC hb_Wx s2 zs
      replace s3:=bC hb_Wx s3 zs
      replace s4:=bC hb_Wx s4 zs
      replace zs:=Kbq zs hb_Wx.size
      replace HB:=Q00 (HB.out.trans (hb_Wx.mono HB.out.size))
      clear hb_Wx
      have zo:v4.heap.size < Wx.heap.size:=by rw [←hWx];simp
      have o0:Wx.cell? ⟨v4.heap.size,0,none⟩=some (.int .i64 m.id):=by rw [←hWx];simp [go_sem]
      have o1:Wx.cell? ⟨v4.heap.size,1,none⟩=some (.int .i64 m.lim):=by rw [←hWx];simp [go_sem]
      have o2:Wx.cell? ⟨v4.heap.size,2,none⟩=some (.bool m.dr):=by rw [←hWx];simp [go_sem]
      have o3:Wx.cell? ⟨v4.heap.size,3,none⟩=some (.slice (some ⟨bc,fc,none⟩) m.c.length cc):=by rw [←hWx];simp [go_sem]
      have o4:Wx.cell? ⟨v4.heap.size,4,none⟩=some (.slice (some ⟨b3,f3,none⟩) m.t.length c3):=by rw [←hWx];simp [go_sem]
      have hbx:=(show Below v4.heap.size v4 Wx by rw [←hWx];exact (Below.refl _ _).alloc (Kaq _) _)
      have hsx:=hbx.size
      have HRx:=Q00 (Row.kept HR.out hbx hz3)
      clear HR hbx
      have hne1:v4.heap.size≠w.heap.size+1+1:=by omega
      have hne2:w.heap.size+1+1≠v4.heap.size:=by omega
      go_wp2
      refine bodyPost_ret (v:=.tuple #[agt m.id m.lim m.dr (.slice (some ⟨bc,fc,none⟩) m.c.length cc) (.slice (some ⟨bt,ft,none⟩) m.t.length ct),.int .i64 5]) (by simp [results,Try.results93,go_sem,r0,r1,r2,r3,r4]) rfl ⟨bc,fc,cc,bt,ft,ct,by rw [HVl.out],by simp;omega,by simp;omega, ?_, ?_, ?_,by omega,by omega⟩
      ·rw [HCl.out]
       exact (HC.out.kept HB.out zc).step (Q04 Wx (w.heap.size+1+1) (.int .i64 m.id) (.int .i64 m.lim) (.bool m.dr) (.slice (some ⟨bc,fc,none⟩) m.c.length cc) (.slice (some ⟨bt,ft,none⟩) m.t.length ct)) (by have:=HB.out.size;omega) (.inl (by omega))
      ·rw [HTl.out]
       exact (HT.out.kept HB.out zt).step (Q04 Wx (w.heap.size+1+1) (.int .i64 m.id) (.int .i64 m.lim) (.bool m.dr) (.slice (some ⟨bc,fc,none⟩) m.c.length cc) (.slice (some ⟨bt,ft,none⟩) m.t.length ct)) (by have:=HB.out.size;omega) (.inl (by omega))
      ·exact Q07 HB.out (by omega) _ _ _ _ _
    |true=>
     have hG:Q19 m a p true=false:=by rw [HGd.out];simp [*]
     rw [hG] at HV HHC HHT
     have HVl:=Q00 (HV.out.trans ((if_neg (by decide)).trans (if_pos rfl)))
     have HCl:=Q00 (HHC.out.trans (if_neg (by decide)))
     have HTl:=Q00 (HHT.out.trans (if_pos (.inr rfl)))
     clear HV HHC HHT HGd hG
     have HDR:=Q00 hdr
     clear hdr
     go_enter Try.func93,Try.ntmps93
     go_wp2_with fail
     refine (H1.out).mono ?_
     rintro e v1 ⟨rfl,hb⟩
     clear H1
     replace z0:=bC hb z0 zz
     replace z1:=bC hb z1 zz
     replace z2:=bC hb z2 zz
     replace z3:=bC hb z3 zz
     replace z4:=bC hb z4 zz
     replace fz0:=bF hb fz0 zz
     replace fz1:=bF hb fz1 zz
     replace fz2:=bF hb fz2 zz
     replace fz3:=bF hb fz3 zz
     replace fz4:=bF hb fz4 zz
     replace zz:=Kbq zz hb.size
     replace k0:=bC hb k0 zk
     replace k1:=bC hb k1 zk
     replace k2:=bC hb k2 zk
     replace k3:=bC hb k3 zk
     replace k4:=bC hb k4 zk
     replace zk:=Kbq zk hb.size
     replace r0:=bC hb r0 zr
     replace r1:=bC hb r1 zr
     replace r2:=bC hb r2 zr
     replace r3:=bC hb r3 zr
     replace r4:=bC hb r4 zr
     replace fr0:=bF hb fr0 zr
     replace fr1:=bF hb fr1 zr
     replace fr2:=bF hb fr2 zr
     replace fr3:=bF hb fr3 zr
     replace fr4:=bF hb fr4 zr
     replace zr:=Kbq zr hb.size
     replace HB:=Q00 (HB.out.trans (hb.mono HB.out.size))
     clear hb
     obtain ⟨W2,hW2⟩:∃W,(v1.alloc (.cells #[.bool q.u,.int .i64 q.a,.int .i64 q.p,.int .i64 q.v,.int .i64 q.t] 84))=W:=⟨_,rfl⟩
     have hb_W2:Below v1.heap.size v1 W2:=by rw [←hW2];exact ((Below.refl _ _).alloc (Kaq _) _)
     replace z0:=bC hb_W2 z0 zz
     replace z1:=bC hb_W2 z1 zz
     replace z2:=bC hb_W2 z2 zz
     replace z3:=bC hb_W2 z3 zz
     replace z4:=bC hb_W2 z4 zz
     replace fz0:=bF hb_W2 fz0 zz
     replace fz1:=bF hb_W2 fz1 zz
     replace fz2:=bF hb_W2 fz2 zz
     replace fz3:=bF hb_W2 fz3 zz
     replace fz4:=bF hb_W2 fz4 zz
     replace zz:=Kbq zz hb_W2.size
     replace k0:=bC hb_W2 k0 zk
     replace k1:=bC hb_W2 k1 zk
     replace k2:=bC hb_W2 k2 zk
     replace k3:=bC hb_W2 k3 zk
     replace k4:=bC hb_W2 k4 zk
     replace zk:=Kbq zk hb_W2.size
     replace r0:=bC hb_W2 r0 zr
     replace r1:=bC hb_W2 r1 zr
     replace r2:=bC hb_W2 r2 zr
     replace r3:=bC hb_W2 r3 zr
     replace r4:=bC hb_W2 r4 zr
     replace fr0:=bF hb_W2 fr0 zr
     replace fr1:=bF hb_W2 fr1 zr
     replace fr2:=bF hb_W2 fr2 zr
     replace fr3:=bF hb_W2 fr3 zr
     replace fr4:=bF hb_W2 fr4 zr
     replace zr:=Kbq zr hb_W2.size
     replace HB:=Q00 (HB.out.trans (hb_W2.mono HB.out.size))
     clear hb_W2
     have zs:v1.heap.size < W2.heap.size:=by rw [←hW2];simp
     have s0:W2.cell? ⟨v1.heap.size,0,none⟩=some (.bool q.u):=by rw [←hW2];simp [go_sem]
     have s1:W2.cell? ⟨v1.heap.size,1,none⟩=some (.int .i64 q.a):=by rw [←hW2];simp [go_sem]
     have s2:W2.cell? ⟨v1.heap.size,2,none⟩=some (.int .i64 q.p):=by rw [←hW2];simp [go_sem]
     have s3:W2.cell? ⟨v1.heap.size,3,none⟩=some (.int .i64 q.v):=by rw [←hW2];simp [go_sem]
     have s4:W2.cell? ⟨v1.heap.size,4,none⟩=some (.int .i64 q.t):=by rw [←hW2];simp [go_sem]
     have hlt':¬((nc:Int) < (m.c.length:Int)):=by omega
     have hdr:=HDR.out
     have HCn:=Q00 (fun pp:Grown W2=> Q0j bc fc cc m.c pp.v (Kbq (Kbq zc HB.out.size) pp.b.size) ((HC.out.kept HB.out zc).kept pp.b (Kbq zc HB.out.size)) (by omega))
     rw [HNC.out] at HCn
     have GZ1:=Grown.cell z1 zz
     have GZ2:=Grown.cell z2 zz
     have GZ3:=Grown.cell z3 zz
     go_wp2
     (refine Q05 (by kernel_rfl) (by kernel_rfl) ?_;intro hne9;(repeat (go_big_quiet_step ((go_at_call 43;exact Q09 _ (HCn.out _)))));(with_reducible refine wpQuiet_nil ?_);intro _ hw9;obtain ⟨pq,hw8⟩:=hw9;subst hw8)
     obtain ⟨g2w,hg2w⟩:∃W,pq.v=W:=⟨_,rfl⟩
     have hb:=pq.b
     rw [hg2w] at hb ⊢
     clear GZ1 GZ2 GZ3 HCn
     replace z0:=bC hb z0 zz
     replace z1:=bC hb z1 zz
     replace z2:=bC hb z2 zz
     replace z3:=bC hb z3 zz
     replace z4:=bC hb z4 zz
     replace fz0:=bF hb fz0 zz
     replace fz1:=bF hb fz1 zz
     replace fz2:=bF hb fz2 zz
     replace fz3:=bF hb fz3 zz
     replace fz4:=bF hb fz4 zz
     replace zz:=Kbq zz hb.size
     replace k0:=bC hb k0 zk
     replace k1:=bC hb k1 zk
     replace k2:=bC hb k2 zk
     replace k3:=bC hb k3 zk
     replace k4:=bC hb k4 zk
     replace zk:=Kbq zk hb.size
     replace r0:=bC hb r0 zr
     replace r1:=bC hb r1 zr
     replace r2:=bC hb r2 zr
     replace r3:=bC hb r3 zr
     replace r4:=bC hb r4 zr
     replace fr0:=bF hb fr0 zr
     replace fr1:=bF hb fr1 zr
     replace fr2:=bF hb fr2 zr
     replace fr3:=bF hb fr3 zr
     replace fr4:=bF hb fr4 zr
     replace zr:=Kbq zr hb.size
     replace s0:=bC hb s0 zs
     replace s1:=bC hb s1 zs
     replace s2:=bC hb s2 zs
     replace s3:=bC hb s3 zs
     replace s4:=bC hb s4 zs
     replace zs:=Kbq zs hb.size
     replace HB:=Q00 (HB.out.trans (hb.mono HB.out.size))
     clear hb
     clear hg2w pq
     clear hlt' hdr
     go_wp2
     refine bodyPost_ret (v:=.tuple #[agt m.id m.lim m.dr (.slice (some ⟨bc,fc,none⟩) m.c.length cc) (.slice (some ⟨bt,ft,none⟩) m.t.length ct),.int .i64 3]) (by simp [results,Try.results93,go_sem,r0,r1,r2,r3,r4]) rfl ⟨bc,fc,cc,bt,ft,ct,by rw [HVl.out],by simp;omega,by simp;omega, ?_, ?_, ?_,by omega,by omega⟩
     ·rw [HCl.out]
      exact (HC.out.kept HB.out zc).step (Q04 g2w (w.heap.size+1+1) (.int .i64 m.id) (.int .i64 m.lim) (.bool m.dr) (.slice (some ⟨bc,fc,none⟩) m.c.length cc) (.slice (some ⟨bt,ft,none⟩) m.t.length ct)) (by have:=HB.out.size;omega) (.inl (by omega))
     ·rw [HTl.out]
      exact (HT.out.kept HB.out zt).step (Q04 g2w (w.heap.size+1+1) (.int .i64 m.id) (.int .i64 m.lim) (.bool m.dr) (.slice (some ⟨bc,fc,none⟩) m.c.length cc) (.slice (some ⟨bt,ft,none⟩) m.t.length ct)) (by have:=HB.out.size;omega) (.inl (by omega))
     ·exact Q07 HB.out (by omega) _ _ _ _ _
end Go.Proofs.Ytljogkoaaidlcaa
