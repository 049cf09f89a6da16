/- Several texts in one: SHdS3, SHdI, SHdI2, SHdI3, SHdI4, SHdI5. -/
import Derived.Test.YtljogkoaaidlcaaQHandL14
namespace Go.Proofs.Ytljogkoaaidlcaa
open Go.ChangeShapes Go.WideShapes Go.ChangeAt Go.RowKit Go.Joins
set_option linter.unusedVariables false
set_option linter.unusedSimpArgs false
set_option maxRecDepth 100000
set_option maxHeartbeats 40000000
abbrev Q8B (a b f s:Int) (v g:Value) (p t:Int):Value:=.agg #[.int .i64 a,.int .i64 b,.int .i64 f,.int .i64 s,v,g,.int .i64 p,.int .i64 t]
def Q0M (k gl:Nat):Bool:=decide ((k:Int)=(gl:Int) - 1)
def hdV (m:Am) (now a p f sb sf:Int) (k gl:Nat) (st:Int):Int:=
 if sb=m.id then (if (bits .and .i64 f 3==1)=true∧10 < now - st then 4 else if (Q0m m.c a p).2=true then 0 else if sf=1 then Q41 m a p (Q0M k gl) else if Q0M k gl=true then 3 else 2) else 6
def hdC (m:Am) (now a p f s sb sf:Int) (k gl:Nat) (st:Int):List Sl:=
 if sb=m.id then (if (bits .and .i64 f 3==1)=true∧10 < now - st then m.c else if (Q0m m.c a p).2=true then Q2T m.c now a p f s else if sf=1 then Q3V m now a p s (Q0M k gl) else m.c) else m.c
def hdT (m:Am) (now a p f sb sf:Int) (k gl:Nat) (st:Int):List Sl:=
 if sb=m.id then (if (bits .and .i64 f 3==1)=true∧10 < now - st then m.t else if (Q0m m.c a p).2=true then Q3e m.t now a p f else if sf=1 then Q3T m now a p (Q0M k gl) else m.t) else m.t
theorem Q57 (a b f s:Int) (o:Option Addr) (n cp:Nat) (w:World):Calls Try.prog 74 #[.agg #[.int .i64 a,.int .i64 b,.int .i64 f,.int .i64 s,.slice o n cp]] w fun e w'=> e=.returned (.bool (bits .and .i64 f 3==1))∧Below w.heap.size w w':=by
 have hB:Below w.heap.size w w:=Below.refl _ _
 go_enter Try.func74,Try.ntmps74
 go_wp2
 all_goals go_ret
 all_goals exact ⟨rfl,by (repeat (first|with_reducible (first|exact hB|exact Below.refl _ _|refine Below.drew ?_|refine below_drewN ?_ _|refine Below.alloc ?_ ?_ _|refine Below.setCell ?_ ?_ _)|(focus (simp;first|done|omega))|omega))⟩
theorem Q34 (m:Am) (bc fc cc bt ft ct:Nat) (now a p f s:Int) (o:Option Addr) (n cp:Nat) (bg fg gl cg k:Nat) (sb sf st:Int) (w:World) (hn0:0≤now) (hn1:now≤100000) (hfl:Q0c a p=true) (hc0:0 < m.c.length) (hc16:m.c.length≤16) (ht0:0 < m.t.length) (ht16:m.t.length≤16) (zc:bc < w.heap.size) (zt:bt < w.heap.size) (hC:Row w bc fc m.c) (hT:Row w bt ft m.t) (hok:Q0F m.c) (hk:k < gl) (hgl:gl≤1048576) (zg:bg < w.heap.size)
  (hs0:w.cell? ⟨bg,fg+k * 2,none⟩=some (.int .i64 sb)) (hs1:w.cell? ⟨bg,fg+k * 2+1,none⟩=some (.int .i64 sf)) (hst0:0≤st) (hst1:st≤100000):
  Calls Try.prog 68 #[agt m.id m.lim m.dr (.slice (some ⟨bc,fc,none⟩) m.c.length cc) (.slice (some ⟨bt,ft,none⟩) m.t.length ct),.int .i64 now,Q8B a p f s (.slice o n cp) (.slice (some ⟨bg,fg,none⟩) gl cg) (k:Int) st] w fun e w'=> ∃bc' fc' cc' bt' ft' ct',e=.returned (.tuple #[agt m.id m.lim m.dr (.slice (some ⟨bc',fc',none⟩) m.c.length cc') (.slice (some ⟨bt',ft',none⟩) m.t.length ct'),.int .i64 (hdV m now a p f sb sf k gl st)])∧bc' < w'.heap.size∧bt' < w'.heap.size∧Row w' bc' fc' (hdC m now a p f s sb sf k gl st)∧Row w' bt' ft' (hdT m now a p f sb sf k gl st)∧Below w.heap.size w w'∧(bc'=bc∨w.heap.size≤bc')∧(bt'=bt∨w.heap.size≤bt'):=by
 have HC:=Q00 hC
 have HT:=Q00 hT
 clear hC hT
 have hw1:IntKind.i64.wrap (now - st)=now - st:=by rw [IntKind.wrap_i64];omega
 have hw2:IntKind.i64.wrap ((gl:Int) - 1)=(gl:Int) - 1:=by rw [IntKind.wrap_i64];omega
 have hki:(k:Int) < (gl:Int):=by omega
 have hk0:(0:Int)≤(k:Int):=by omega
 have HV:=Q00 (show hdV m now a p f sb sf k gl st=if sb=m.id then (if (bits .and .i64 f 3==1)=true∧10 < now - st then 4 else if (Q0m m.c a p).2=true then 0 else if sf=1 then Q41 m a p (Q0M k gl) else if Q0M k gl=true then 3 else 2) else 6 from rfl)
 have HHC:=Q00 (show hdC m now a p f s sb sf k gl st=if sb=m.id then (if (bits .and .i64 f 3==1)=true∧10 < now - st then m.c else if (Q0m m.c a p).2=true then Q2T m.c now a p f s else if sf=1 then Q3V m now a p s (Q0M k gl) else m.c) else m.c from rfl)
 have HHT:=Q00 (show hdT m now a p f sb sf k gl st=if sb=m.id then (if (bits .and .i64 f 3==1)=true∧10 < now - st then m.t else if (Q0m m.c a p).2=true then Q3e m.t now a p f else if sf=1 then Q3T m now a p (Q0M k gl) else m.t) else m.t from rfl)
 obtain ⟨W0,hW0⟩:∃W,(((w.alloc (.cells #[.int .i64 m.id,.int .i64 m.lim,.bool m.dr,.slice (some ⟨bc,fc,none⟩) m.c.length cc,.slice (some ⟨bt,ft,none⟩) m.t.length ct] 27)).alloc (.cells #[.int .i64 a,.int .i64 p,.int .i64 f,.int .i64 s,.slice o n cp,.slice (some ⟨bg,fg,none⟩) gl cg,.int .i64 (k:Int),.int .i64 st] 34)).alloc (.cells #[.int .i64 0,.int .i64 0,.bool false,.slice none 0 0,.slice none 0 0] 27))=W:=⟨_,rfl⟩
 have hb_W0:Below w.heap.size w W0:=by rw [←hW0];exact ((((Below.refl _ _).alloc (Kaq _) _).alloc (by simp <;> omega) _).alloc (by simp <;> omega) _)
 have HB:=Q00 hb_W0
 clear hb_W0
 have zz:w.heap.size < W0.heap.size:=by rw [←hW0];simp <;> omega
 have z0:W0.cell? ⟨w.heap.size,0,none⟩=some (.int .i64 m.id):=by rw [←hW0];simp [go_sem]
 have z1:W0.cell? ⟨w.heap.size,1,none⟩=some (.int .i64 m.lim):=by rw [←hW0];simp [go_sem]
 have z2:W0.cell? ⟨w.heap.size,2,none⟩=some (.bool m.dr):=by rw [←hW0];simp [go_sem]
 have z3:W0.cell? ⟨w.heap.size,3,none⟩=some (.slice (some ⟨bc,fc,none⟩) m.c.length cc):=by rw [←hW0];simp [go_sem]
 have z4:W0.cell? ⟨w.heap.size,4,none⟩=some (.slice (some ⟨bt,ft,none⟩) m.t.length ct):=by rw [←hW0];simp [go_sem]
 have fz0:W0.frozen? ⟨w.heap.size,0,none⟩=false:=by rw [←hW0];simp [go_sem]
 have fz1:W0.frozen? ⟨w.heap.size,1,none⟩=false:=by rw [←hW0];simp [go_sem]
 have fz2:W0.frozen? ⟨w.heap.size,2,none⟩=false:=by rw [←hW0];simp [go_sem]
 have fz3:W0.frozen? ⟨w.heap.size,3,none⟩=false:=by rw [←hW0];simp [go_sem]
 have fz4:W0.frozen? ⟨w.heap.size,4,none⟩=false:=by rw [←hW0];simp [go_sem]
 have zu:w.heap.size+1 < W0.heap.size:=by rw [←hW0];simp <;> omega
 have u0:W0.cell? ⟨w.heap.size+1,0,none⟩=some (.int .i64 a):=by rw [←hW0];simp [go_sem]
 have u1:W0.cell? ⟨w.heap.size+1,1,none⟩=some (.int .i64 p):=by rw [←hW0];simp [go_sem]
 have u2:W0.cell? ⟨w.heap.size+1,2,none⟩=some (.int .i64 f):=by rw [←hW0];simp [go_sem]
 have u3:W0.cell? ⟨w.heap.size+1,3,none⟩=some (.int .i64 s):=by rw [←hW0];simp [go_sem]
 have u4:W0.cell? ⟨w.heap.size+1,4,none⟩=some (.slice o n cp):=by rw [←hW0];simp [go_sem]
 have u5:W0.cell? ⟨w.heap.size+1,5,none⟩=some (.slice (some ⟨bg,fg,none⟩) gl cg):=by rw [←hW0];simp [go_sem]
 have u6:W0.cell? ⟨w.heap.size+1,6,none⟩=some (.int .i64 (k:Int)):=by rw [←hW0];simp [go_sem]
 have u7:W0.cell? ⟨w.heap.size+1,7,none⟩=some (.int .i64 st):=by rw [←hW0];simp [go_sem]
 have zr:w.heap.size+1+1 < W0.heap.size:=by rw [←hW0];simp
 have r0:W0.cell? ⟨w.heap.size+1+1,0,none⟩=some (.int .i64 0):=by rw [←hW0];simp [go_sem]
 have r1:W0.cell? ⟨w.heap.size+1+1,1,none⟩=some (.int .i64 0):=by rw [←hW0];simp [go_sem]
 have r2:W0.cell? ⟨w.heap.size+1+1,2,none⟩=some (.bool false):=by rw [←hW0];simp [go_sem]
 have r3:W0.cell? ⟨w.heap.size+1+1,3,none⟩=some (.slice none 0 0):=by rw [←hW0];simp [go_sem]
 have r4:W0.cell? ⟨w.heap.size+1+1,4,none⟩=some (.slice none 0 0):=by rw [←hW0];simp [go_sem]
 have fr0:W0.frozen? ⟨w.heap.size+1+1,0,none⟩=false:=by rw [←hW0];simp [go_sem]
 have fr1:W0.frozen? ⟨w.heap.size+1+1,1,none⟩=false:=by rw [←hW0];simp [go_sem]
 have fr2:W0.frozen? ⟨w.heap.size+1+1,2,none⟩=false:=by rw [←hW0];simp [go_sem]
 have fr3:W0.frozen? ⟨w.heap.size+1+1,3,none⟩=false:=by rw [←hW0];simp [go_sem]
 have fr4:W0.frozen? ⟨w.heap.size+1+1,4,none⟩=false:=by rw [←hW0];simp [go_sem]
 have hz0:=zr
 have g0:=(HB.out.cell (p:=⟨bg,fg+k * 2,none⟩) zg).trans hs0
 have g1:=(HB.out.cell (p:=⟨bg,fg+k * 2+1,none⟩) zg).trans hs1
 clear hs0 hs1
 have H0:=Q00 (fun W=> Q57 a p f s o n cp W)
 obtain ⟨op,hop⟩:∃q,(bits .and .i64 f 3==1)=q:=⟨_,rfl⟩
 rw [hop] at H0 HV HHC HHT
 clear hop
 obtain ⟨has,hhas⟩:∃q,(Q0m m.c a p).2=q:=⟨_,rfl⟩
 rw [hhas] at HV HHC HHT
 have H1:=Q00 (fun W (hb:Below w.heap.size w W)=> Q3D bc fc cc m.c a p W hc0 (by omega) hfl (Kbq zc hb.size) (HC.out.kept hb zc))
 rw [hhas] at H1
 obtain ⟨q,hq⟩:∃q,Q5B m.c a p=q:=⟨_,rfl⟩
 rw [hq] at H1
 clear hq hhas
 obtain ⟨lb,hlb⟩:∃q,Q0M k gl=q:=⟨_,rfl⟩
 rw [hlb] at HV HHC HHT
 by_cases h1:sb=m.id
 ·skip
  subst h1
  cases op with
  |false=>
   have HV2:=Q00 (HV.out.trans ((if_pos rfl).trans (if_neg (by rintro ⟨h,_⟩;cases h))))
   have HC2:=Q00 (HHC.out.trans ((if_pos rfl).trans (if_neg (by rintro ⟨h,_⟩;cases h))))
   have HT2:=Q00 (HHT.out.trans ((if_pos rfl).trans (if_neg (by rintro ⟨h,_⟩;cases h))))
   clear HV HHC HHT
   cases has with
   |true=>
    have HVl:=Q00 (HV2.out.trans (if_pos rfl))
    have HCl:=Q00 (HC2.out.trans (if_pos rfl))
    have HTl:=Q00 (HT2.out.trans (if_pos rfl))
    clear HV2 HC2 HT2
    go_enter Try.func68,Try.ntmps68
    have u5w:=u5
    have u6w:=u6
    obtain ⟨Ws,hWs⟩:∃W,(W0.alloc (.cells #[.int .i64 m.id,.int .i64 sf] 41))=W:=⟨_,rfl⟩
    have hb_Ws:Below W0.heap.size W0 Ws:=by rw [←hWs];exact ((Below.refl _ _).alloc (Kaq _) _)
    replace z0:=bC hb_Ws z0 zz
    replace z1:=bC hb_Ws z1 zz
    replace z2:=bC hb_Ws z2 zz
    replace z3:=bC hb_Ws z3 zz
    replace z4:=bC hb_Ws z4 zz
    replace fz0:=bF hb_Ws fz0 zz
    replace fz1:=bF hb_Ws fz1 zz
    replace fz2:=bF hb_Ws fz2 zz
    replace fz3:=bF hb_Ws fz3 zz
    replace fz4:=bF hb_Ws fz4 zz
    replace zz:=Kbq zz hb_Ws.size
    replace u0:=bC hb_Ws u0 zu
    replace u1:=bC hb_Ws u1 zu
    replace u2:=bC hb_Ws u2 zu
    replace u3:=bC hb_Ws u3 zu
    replace u4:=bC hb_Ws u4 zu
    replace u5:=bC hb_Ws u5 zu
    replace u6:=bC hb_Ws u6 zu
    replace u7:=bC hb_Ws u7 zu
    replace zu:=Kbq zu hb_Ws.size
    replace r0:=bC hb_Ws r0 zr
    replace r1:=bC hb_Ws r1 zr
    replace r2:=bC hb_Ws r2 zr
    replace r3:=bC hb_Ws r3 zr
    replace r4:=bC hb_Ws r4 zr
    replace fr0:=bF hb_Ws fr0 zr
    replace fr1:=bF hb_Ws fr1 zr
    replace fr2:=bF hb_Ws fr2 zr
    replace fr3:=bF hb_Ws fr3 zr
    replace fr4:=bF hb_Ws fr4 zr
    replace zr:=Kbq zr hb_Ws.size
    replace HB:=Q00 (HB.out.trans (hb_Ws.mono HB.out.size))
    clear hb_Ws
    have zs:W0.heap.size < Ws.heap.size:=by rw [←hWs];simp
    have s0:Ws.cell? ⟨W0.heap.size,0,none⟩=some (.int .i64 m.id):=by rw [←hWs];simp [go_sem]
    have s1:Ws.cell? ⟨W0.heap.size,1,none⟩=some (.int .i64 sf):=by rw [←hWs];simp [go_sem]
    go_wp2_with fail
    refine (H0.out _).mono ?_
    rintro e v1 ⟨rfl,hb⟩
    clear H0
    replace z0:=bC hb z0 zz
    replace z1:=bC hb z1 zz
    replace z2:=bC hb z2 zz
    replace z3:=bC hb z3 zz
    replace z4:=bC hb z4 zz
    replace fz0:=bF hb fz0 zz
    replace fz1:=bF hb fz1 zz
    replace fz2:=bF hb fz2 zz
    replace fz3:=bF hb fz3 zz
    replace fz4:=bF hb fz4 zz
    replace zz:=Kbq zz hb.size
    replace u0:=bC hb u0 zu
    replace u1:=bC hb u1 zu
    replace u2:=bC hb u2 zu
    replace u3:=bC hb u3 zu
    replace u4:=bC hb u4 zu
    replace u5:=bC hb u5 zu
    replace u6:=bC hb u6 zu
    replace u7:=bC hb u7 zu
    replace zu:=Kbq zu hb.size
    replace r0:=bC hb r0 zr
    replace r1:=bC hb r1 zr
    replace r2:=bC hb r2 zr
    replace r3:=bC hb r3 zr
    replace r4:=bC hb r4 zr
    replace fr0:=bF hb fr0 zr
    replace fr1:=bF hb fr1 zr
    replace fr2:=bF hb fr2 zr
    replace fr3:=bF hb fr3 zr
    replace fr4:=bF hb fr4 zr
    replace zr:=Kbq zr hb.size
    replace s0:=bC hb s0 zs
    replace s1:=bC hb s1 zs
    replace zs:=Kbq zs hb.size
    replace HB:=Q00 (HB.out.trans (hb.mono HB.out.size))
    clear hb
    go_wp2_with fail
    refine (H1.out v1 HB.out).mono ?_
    rintro e v2 ⟨rfl,hb⟩
    clear H1
    replace z0:=bC hb z0 zz
    replace z1:=bC hb z1 zz
    replace z2:=bC hb z2 zz
    replace z3:=bC hb z3 zz
    replace z4:=bC hb z4 zz
    replace fz0:=bF hb fz0 zz
    replace fz1:=bF hb fz1 zz
    replace fz2:=bF hb fz2 zz
    replace fz3:=bF hb fz3 zz
    replace fz4:=bF hb fz4 zz
    replace zz:=Kbq zz hb.size
    replace u0:=bC hb u0 zu
    replace u1:=bC hb u1 zu
    replace u2:=bC hb u2 zu
    replace u3:=bC hb u3 zu
    replace u4:=bC hb u4 zu
    replace u5:=bC hb u5 zu
    replace u6:=bC hb u6 zu
    replace u7:=bC hb u7 zu
    replace zu:=Kbq zu hb.size
    replace r0:=bC hb r0 zr
    replace r1:=bC hb r1 zr
    replace r2:=bC hb r2 zr
    replace r3:=bC hb r3 zr
    replace r4:=bC hb r4 zr
    replace fr0:=bF hb fr0 zr
    replace fr1:=bF hb fr1 zr
    replace fr2:=bF hb fr2 zr
    replace fr3:=bF hb fr3 zr
    replace fr4:=bF hb fr4 zr
    replace zr:=Kbq zr hb.size
    replace s0:=bC hb s0 zs
    replace s1:=bC hb s1 zs
    replace zs:=Kbq zs hb.size
    replace HB:=Q00 (HB.out.trans (hb.mono HB.out.size))
    clear hb
    obtain ⟨W4,hW4⟩:∃W,(v2.alloc (.cells #[.bool q.u,.int .i64 q.a,.int .i64 q.p,.int .i64 q.v,.int .i64 q.t] 84))=W:=⟨_,rfl⟩
    have hb_W4:Below v2.heap.size v2 W4:=by rw [←hW4];exact ((Below.refl _ _).alloc (Kaq _) _)
    replace z0:=bC hb_W4 z0 zz
    replace z1:=bC hb_W4 z1 zz
    replace z2:=bC hb_W4 z2 zz
    replace z3:=bC hb_W4 z3 zz
    replace z4:=bC hb_W4 z4 zz
    replace fz0:=bF hb_W4 fz0 zz
    replace fz1:=bF hb_W4 fz1 zz
    replace fz2:=bF hb_W4 fz2 zz
    replace fz3:=bF hb_W4 fz3 zz
    replace fz4:=bF hb_W4 fz4 zz
    replace zz:=Kbq zz hb_W4.size
    replace u0:=bC hb_W4 u0 zu
    replace u1:=bC hb_W4 u1 zu
    replace u2:=bC hb_W4 u2 zu
    replace u3:=bC hb_W4 u3 zu
    replace u4:=bC hb_W4 u4 zu
    replace u5:=bC hb_W4 u5 zu
    replace u6:=bC hb_W4 u6 zu
    replace u7:=bC hb_W4 u7 zu
    replace zu:=Kbq zu hb_W4.size
    replace r0:=bC hb_W4 r0 zr
    replace r1:=bC hb_W4 r1 zr
    replace r2:=bC hb_W4 r2 zr
    replace r3:=bC hb_W4 r3 zr
    replace r4:=bC hb_W4 r4 zr
    replace fr0:=bF hb_W4 fr0 zr
    replace fr1:=bF hb_W4 fr1 zr
    replace fr2:=bF hb_W4 fr2 zr
    replace fr3:=bF hb_W4 fr3 zr
    replace fr4:=bF hb_W4 fr4 zr
    replace zr:=Kbq zr hb_W4.size
    replace s0:=bC hb_W4 s0 zs
    replace s1:=bC hb_W4 s1 zs
    replace zs:=Kbq zs hb_W4.size
    replace HB:=Q00 (HB.out.trans (hb_W4.mono HB.out.size))
    clear hb_W4
    have zy:v2.heap.size < W4.heap.size:=by rw [←hW4];simp
    have y0:W4.cell? ⟨v2.heap.size,0,none⟩=some (.bool q.u):=by rw [←hW4];simp [go_sem]
    have y1:W4.cell? ⟨v2.heap.size,1,none⟩=some (.int .i64 q.a):=by rw [←hW4];simp [go_sem]
    have y2:W4.cell? ⟨v2.heap.size,2,none⟩=some (.int .i64 q.p):=by rw [←hW4];simp [go_sem]
    have y3:W4.cell? ⟨v2.heap.size,3,none⟩=some (.int .i64 q.v):=by rw [←hW4];simp [go_sem]
    have y4:W4.cell? ⟨v2.heap.size,4,none⟩=some (.int .i64 q.t):=by rw [←hW4];simp [go_sem]
    have hrz:=zr
    have hsc:=HB.out.size
    have H3:=Q00 (Q4c m bc fc cc bt ft ct now a p f s o n cp W4 hn0 hn1 hfl hc0 hc16 ht0 ht16 (by omega) (by omega) (HC.out.kept HB.out zc) (HT.out.kept HB.out zt) hok)
    go_wp2_with fail
    refine (H3.out).mono ?_
    rintro e v3 ⟨b2,f2,c2,b3,f3,c3,rfl,hz2,hz3,hrc,hrt,hb,hq2,hq3⟩
    have HRc:=Q00 hrc
    have HRt:=Q00 hrt
    have hs3:=hb.size
    clear hrc hrt H3
    replace z0:=bC hb z0 zz
    replace z1:=bC hb z1 zz
    replace z2:=bC hb z2 zz
    replace z3:=bC hb z3 zz
    replace z4:=bC hb z4 zz
    replace fz0:=bF hb fz0 zz
    replace fz1:=bF hb fz1 zz
    replace fz2:=bF hb fz2 zz
    replace fz3:=bF hb fz3 zz
    replace fz4:=bF hb fz4 zz
    replace zz:=Kbq zz hb.size
    replace u0:=bC hb u0 zu
    replace u1:=bC hb u1 zu
    replace u2:=bC hb u2 zu
    replace u3:=bC hb u3 zu
    replace u4:=bC hb u4 zu
    replace u5:=bC hb u5 zu
    replace u6:=bC hb u6 zu
    replace u7:=bC hb u7 zu
    replace zu:=Kbq zu hb.size
    replace r0:=bC hb r0 zr
    replace r1:=bC hb r1 zr
    replace r2:=bC hb r2 zr
    replace r3:=bC hb r3 zr
    replace r4:=bC hb r4 zr
    replace fr0:=bF hb fr0 zr
    replace fr1:=bF hb fr1 zr
    replace fr2:=bF hb fr2 zr
    replace fr3:=bF hb fr3 zr
    replace fr4:=bF hb fr4 zr
    replace zr:=Kbq zr hb.size
    replace s0:=bC hb s0 zs
    replace s1:=bC hb s1 zs
    replace zs:=Kbq zs hb.size
    replace y0:=bC hb y0 zy
    replace y1:=bC hb y1 zy
    replace y2:=bC hb y2 zy
    replace y3:=bC hb y3 zy
    replace y4:=bC hb y4 zy
    replace zy:=Kbq zy hb.size
    replace HB:=Q00 (HB.out.trans (hb.mono HB.out.size))
    clear hb
    go_wp2
    refine bodyPost_ret (v:=.tuple #[agt m.id m.lim m.dr (.slice (some ⟨b2,f2,none⟩) m.c.length c2) (.slice (some ⟨b3,f3,none⟩) m.t.length c3),.int .i64 0]) (by simp [results,Try.results68,go_sem,r0,r1,r2,r3,r4]) rfl ⟨b2,f2,c2,b3,f3,c3,by rw [HVl.out],by simp;omega,by simp;omega, ?_, ?_, ?_,by omega,by omega⟩
    ·rw [HCl.out]
     exact Row.step HRc.out (Q04 v3 (w.heap.size+1+1) (.int .i64 m.id) (.int .i64 m.lim) (.bool m.dr) (.slice (some ⟨b2,f2,none⟩) m.c.length c2) (.slice (some ⟨b3,f3,none⟩) m.t.length c3)) hz2 (by omega)
    ·rw [HTl.out]
     exact Row.step HRt.out (Q04 v3 (w.heap.size+1+1) (.int .i64 m.id) (.int .i64 m.lim) (.bool m.dr) (.slice (some ⟨b2,f2,none⟩) m.c.length c2) (.slice (some ⟨b3,f3,none⟩) m.t.length c3)) hz3 (by omega)
    ·exact Q07 HB.out (by omega) _ _ _ _ _
   |false=>
    have HV3:=Q00 (HV2.out.trans (if_neg (by decide)))
    have HC3:=Q00 (HC2.out.trans (if_neg (by decide)))
    have HT3:=Q00 (HT2.out.trans (if_neg (by decide)))
    clear HV2 HC2 HT2
    cases lb with
    |false=>
     have hlb':¬((k:Int)=(gl:Int) - 1):=of_decide_eq_false hlb
     have HLB:=Q00 hlb'
     clear hlb'
     by_cases hsf:sf=1
     ·have HVl:=Q00 (HV3.out.trans (if_pos hsf))
      have HCl:=Q00 (HC3.out.trans (if_pos hsf))
      have HTl:=Q00 (HT3.out.trans (if_pos hsf))
      clear HV3 HC3 HT3
      subst hsf
      go_enter Try.func68,Try.ntmps68
      have u5w:=u5
      have u6w:=u6
      obtain ⟨Ws,hWs⟩:∃W,(W0.alloc (.cells #[.int .i64 m.id,.int .i64 1] 41))=W:=⟨_,rfl⟩
      have hb_Ws:Below W0.heap.size W0 Ws:=by rw [←hWs];exact ((Below.refl _ _).alloc (Kaq _) _)
      replace z0:=bC hb_Ws z0 zz
      replace z1:=bC hb_Ws z1 zz
      replace z2:=bC hb_Ws z2 zz
      replace z3:=bC hb_Ws z3 zz
      replace z4:=bC hb_Ws z4 zz
      replace fz0:=bF hb_Ws fz0 zz
      replace fz1:=bF hb_Ws fz1 zz
      replace fz2:=bF hb_Ws fz2 zz
      replace fz3:=bF hb_Ws fz3 zz
      replace fz4:=bF hb_Ws fz4 zz
      replace zz:=Kbq zz hb_Ws.size
      replace u0:=bC hb_Ws u0 zu
      replace u1:=bC hb_Ws u1 zu
      replace u2:=bC hb_Ws u2 zu
      replace u3:=bC hb_Ws u3 zu
      replace u4:=bC hb_Ws u4 zu
      replace u5:=bC hb_Ws u5 zu
      replace u6:=bC hb_Ws u6 zu
      replace u7:=bC hb_Ws u7 zu
      replace zu:=Kbq zu hb_Ws.size
      replace r0:=bC hb_Ws r0 zr
      replace r1:=bC hb_Ws r1 zr
      replace r2:=bC hb_Ws r2 zr
      replace r3:=bC hb_Ws r3 zr
      replace r4:=bC hb_Ws r4 zr
      replace fr0:=bF hb_Ws fr0 zr
      replace fr1:=bF hb_Ws fr1 zr
      replace fr2:=bF hb_Ws fr2 zr
      replace fr3:=bF hb_Ws fr3 zr
      replace fr4:=bF hb_Ws fr4 zr
      replace zr:=Kbq zr hb_Ws.size
      replace HB:=Q00 (HB.out.trans (hb_Ws.mono HB.out.size))
      clear hb_Ws
      have zs:W0.heap.size < Ws.heap.size:=by rw [←hWs];simp
      have s0:Ws.cell? ⟨W0.heap.size,0,none⟩=some (.int .i64 m.id):=by rw [←hWs];simp [go_sem]
      have s1:Ws.cell? ⟨W0.heap.size,1,none⟩=some (.int .i64 1):=by rw [←hWs];simp [go_sem]
      go_wp2_with fail
      refine (H0.out _).mono ?_
      rintro e v1 ⟨rfl,hb⟩
      clear H0
      replace z0:=bC hb z0 zz
      replace z1:=bC hb z1 zz
      replace z2:=bC hb z2 zz
      replace z3:=bC hb z3 zz
      replace z4:=bC hb z4 zz
      replace fz0:=bF hb fz0 zz
      replace fz1:=bF hb fz1 zz
      replace fz2:=bF hb fz2 zz
      replace fz3:=bF hb fz3 zz
      replace fz4:=bF hb fz4 zz
      replace zz:=Kbq zz hb.size
      replace u0:=bC hb u0 zu
      replace u1:=bC hb u1 zu
      replace u2:=bC hb u2 zu
      replace u3:=bC hb u3 zu
      replace u4:=bC hb u4 zu
      replace u5:=bC hb u5 zu
      replace u6:=bC hb u6 zu
      replace u7:=bC hb u7 zu
      replace zu:=Kbq zu hb.size
      replace r0:=bC hb r0 zr
      replace r1:=bC hb r1 zr
      replace r2:=bC hb r2 zr
      replace r3:=bC hb r3 zr
      replace r4:=bC hb r4 zr
      replace fr0:=bF hb fr0 zr
      replace fr1:=bF hb fr1 zr
      replace fr2:=bF hb fr2 zr
      replace fr3:=bF hb fr3 zr
      replace fr4:=bF hb fr4 zr
      replace zr:=Kbq zr hb.size
      replace s0:=bC hb s0 zs
      replace s1:=bC hb s1 zs
      replace zs:=Kbq zs hb.size
      replace HB:=Q00 (HB.out.trans (hb.mono HB.out.size))
      clear hb
      go_wp2_with fail
      refine (H1.out v1 HB.out).mono ?_
      rintro e v2 ⟨rfl,hb⟩
      clear H1
      replace z0:=bC hb z0 zz
      replace z1:=bC hb z1 zz
      replace z2:=bC hb z2 zz
      replace z3:=bC hb z3 zz
      replace z4:=bC hb z4 zz
      replace fz0:=bF hb fz0 zz
      replace fz1:=bF hb fz1 zz
      replace fz2:=bF hb fz2 zz
      replace fz3:=bF hb fz3 zz
      replace fz4:=bF hb fz4 zz
      replace zz:=Kbq zz hb.size
      replace u0:=bC hb u0 zu
      replace u1:=bC hb u1 zu
      replace u2:=bC hb u2 zu
      replace u3:=bC hb u3 zu
      replace u4:=bC hb u4 zu
      replace u5:=bC hb u5 zu
      replace u6:=bC hb u6 zu
      replace u7:=bC hb u7 zu
      replace zu:=Kbq zu hb.size
      replace r0:=bC hb r0 zr
      replace r1:=bC hb r1 zr
      replace r2:=bC hb r2 zr
      replace r3:=bC hb r3 zr
      replace r4:=bC hb r4 zr
      replace fr0:=bF hb fr0 zr
      replace fr1:=bF hb fr1 zr
      replace fr2:=bF hb fr2 zr
      replace fr3:=bF hb fr3 zr
      replace fr4:=bF hb fr4 zr
      replace zr:=Kbq zr hb.size
      replace s0:=bC hb s0 zs
      replace s1:=bC hb s1 zs
      replace zs:=Kbq zs hb.size
      replace HB:=Q00 (HB.out.trans (hb.mono HB.out.size))
      clear hb
      obtain ⟨W4,hW4⟩:∃W,(v2.alloc (.cells #[.bool q.u,.int .i64 q.a,.int .i64 q.p,.int .i64 q.v,.int .i64 q.t] 84))=W:=⟨_,rfl⟩
      have hb_W4:Below v2.heap.size v2 W4:=by rw [←hW4];exact ((Below.refl _ _).alloc (Kaq _) _)
      replace z0:=bC hb_W4 z0 zz
      replace z1:=bC hb_W4 z1 zz
      replace z2:=bC hb_W4 z2 zz
      replace z3:=bC hb_W4 z3 zz
      replace z4:=bC hb_W4 z4 zz
      replace fz0:=bF hb_W4 fz0 zz
      replace fz1:=bF hb_W4 fz1 zz
      replace fz2:=bF hb_W4 fz2 zz
      replace fz3:=bF hb_W4 fz3 zz
      replace fz4:=bF hb_W4 fz4 zz
      replace zz:=Kbq zz hb_W4.size
      replace u0:=bC hb_W4 u0 zu
      replace u1:=bC hb_W4 u1 zu
      replace u2:=bC hb_W4 u2 zu
      replace u3:=bC hb_W4 u3 zu
      replace u4:=bC hb_W4 u4 zu
      replace u5:=bC hb_W4 u5 zu
      replace u6:=bC hb_W4 u6 zu
      replace u7:=bC hb_W4 u7 zu
      replace zu:=Kbq zu hb_W4.size
      replace r0:=bC hb_W4 r0 zr
      replace r1:=bC hb_W4 r1 zr
      replace r2:=bC hb_W4 r2 zr
      replace r3:=bC hb_W4 r3 zr
      replace r4:=bC hb_W4 r4 zr
      replace fr0:=bF hb_W4 fr0 zr
      replace fr1:=bF hb_W4 fr1 zr
      replace fr2:=bF hb_W4 fr2 zr
      replace fr3:=bF hb_W4 fr3 zr
      replace fr4:=bF hb_W4 fr4 zr
      replace zr:=Kbq zr hb_W4.size
      replace s0:=bC hb_W4 s0 zs
      replace s1:=bC hb_W4 s1 zs
      replace zs:=Kbq zs hb_W4.size
      replace HB:=Q00 (HB.out.trans (hb_W4.mono HB.out.size))
      clear hb_W4
      have zy:v2.heap.size < W4.heap.size:=by rw [←hW4];simp
      have y0:W4.cell? ⟨v2.heap.size,0,none⟩=some (.bool q.u):=by rw [←hW4];simp [go_sem]
      have y1:W4.cell? ⟨v2.heap.size,1,none⟩=some (.int .i64 q.a):=by rw [←hW4];simp [go_sem]
      have y2:W4.cell? ⟨v2.heap.size,2,none⟩=some (.int .i64 q.p):=by rw [←hW4];simp [go_sem]
      have y3:W4.cell? ⟨v2.heap.size,3,none⟩=some (.int .i64 q.v):=by rw [←hW4];simp [go_sem]
      have y4:W4.cell? ⟨v2.heap.size,4,none⟩=some (.int .i64 q.t):=by rw [←hW4];simp [go_sem]
      have hlb2:=HLB.out
      have hlb3:((k:Int)==(gl:Int) - 1)=false:=beq_eq_false_iff_ne.2 hlb2
      have hrz:=zr
      have hsc:=HB.out.size
      have H3:=Q00 (Q2n m bc fc cc bt ft ct now a p f s o n cp false W4 hn0 hn1 hfl hc0 hc16 ht0 ht16 (by omega) (by omega) (HC.out.kept HB.out zc) (HT.out.kept HB.out zt))
      obtain ⟨hv,hhv⟩:∃q,Q41 m a p false=q:=⟨_,rfl⟩
      rw [hhv] at H3 HVl
      clear hhv
      go_wp2_with fail
      refine (H3.out).mono ?_
      rintro e v3 ⟨b2,f2,c2,b3,f3,c3,rfl,hz2,hz3,hrc,hrt,hb,hq2,hq3⟩
      have HRc:=Q00 hrc
      have HRt:=Q00 hrt
      have hs3:=hb.size
      clear hrc hrt H3
      replace z0:=bC hb z0 zz
      replace z1:=bC hb z1 zz
      replace z2:=bC hb z2 zz
      replace z3:=bC hb z3 zz
      replace z4:=bC hb z4 zz
      replace fz0:=bF hb fz0 zz
      replace fz1:=bF hb fz1 zz
      replace fz2:=bF hb fz2 zz
      replace fz3:=bF hb fz3 zz
      replace fz4:=bF hb fz4 zz
      replace zz:=Kbq zz hb.size
      replace u0:=bC hb u0 zu
      replace u1:=bC hb u1 zu
      replace u2:=bC hb u2 zu
      replace u3:=bC hb u3 zu
      replace u4:=bC hb u4 zu
      replace u5:=bC hb u5 zu
      replace u6:=bC hb u6 zu
      replace u7:=bC hb u7 zu
      replace zu:=Kbq zu hb.size
      replace r0:=bC hb r0 zr
      replace r1:=bC hb r1 zr
      replace r2:=bC hb r2 zr
      replace r3:=bC hb r3 zr
      replace r4:=bC hb r4 zr
      replace fr0:=bF hb fr0 zr
      replace fr1:=bF hb fr1 zr
      replace fr2:=bF hb fr2 zr
      replace fr3:=bF hb fr3 zr
      replace fr4:=bF hb fr4 zr
      replace zr:=Kbq zr hb.size
      replace s0:=bC hb s0 zs
      replace s1:=bC hb s1 zs
      replace zs:=Kbq zs hb.size
      replace y0:=bC hb y0 zy
      replace y1:=bC hb y1 zy
      replace y2:=bC hb y2 zy
      replace y3:=bC hb y3 zy
      replace y4:=bC hb y4 zy
      replace zy:=Kbq zy hb.size
      replace HB:=Q00 (HB.out.trans (hb.mono HB.out.size))
      clear hb
      go_wp2
      refine bodyPost_ret (v:=.tuple #[agt m.id m.lim m.dr (.slice (some ⟨b2,f2,none⟩) m.c.length c2) (.slice (some ⟨b3,f3,none⟩) m.t.length c3),.int .i64 hv]) (by simp [results,Try.results68,go_sem,r0,r1,r2,r3,r4]) rfl ⟨b2,f2,c2,b3,f3,c3,by rw [HVl.out],by simp;omega,by simp;omega, ?_, ?_, ?_,by omega,by omega⟩
      ·rw [HCl.out]
       exact Row.step HRc.out (Q04 v3 (w.heap.size+1+1) (.int .i64 m.id) (.int .i64 m.lim) (.bool m.dr) (.slice (some ⟨b2,f2,none⟩) m.c.length c2) (.slice (some ⟨b3,f3,none⟩) m.t.length c3)) hz2 (by omega)
      ·rw [HTl.out]
       exact Row.step HRt.out (Q04 v3 (w.heap.size+1+1) (.int .i64 m.id) (.int .i64 m.lim) (.bool m.dr) (.slice (some ⟨b2,f2,none⟩) m.c.length c2) (.slice (some ⟨b3,f3,none⟩) m.t.length c3)) hz3 (by omega)
      ·exact Q07 HB.out (by omega) _ _ _ _ _
     ·have HV4:=Q00 (HV3.out.trans (if_neg hsf))
      have HVl:=Q00 (HV4.out.trans (if_neg (by decide)))
      have HCl:=Q00 (HC3.out.trans (if_neg hsf))
      have HTl:=Q00 (HT3.out.trans (if_neg hsf))
      clear HV3 HC3 HT3 HV4
      go_enter Try.func68,Try.ntmps68
      have u5w:=u5
      have u6w:=u6
      obtain ⟨Ws,hWs⟩:∃W,(W0.alloc (.cells #[.int .i64 m.id,.int .i64 sf] 41))=W:=⟨_,rfl⟩
      have hb_Ws:Below W0.heap.size W0 Ws:=by rw [←hWs];exact ((Below.refl _ _).alloc (Kaq _) _)
      replace z0:=bC hb_Ws z0 zz
      replace z1:=bC hb_Ws z1 zz
      replace z2:=bC hb_Ws z2 zz
      replace z3:=bC hb_Ws z3 zz
      replace z4:=bC hb_Ws z4 zz
      replace fz0:=bF hb_Ws fz0 zz
      replace fz1:=bF hb_Ws fz1 zz
      replace fz2:=bF hb_Ws fz2 zz
      replace fz3:=bF hb_Ws fz3 zz
      replace fz4:=bF hb_Ws fz4 zz
      replace zz:=Kbq zz hb_Ws.size
      replace u0:=bC hb_Ws u0 zu
      replace u1:=bC hb_Ws u1 zu
      replace u2:=bC hb_Ws u2 zu
      replace u3:=bC hb_Ws u3 zu
      replace u4:=bC hb_Ws u4 zu
      replace u5:=bC hb_Ws u5 zu
      replace u6:=bC hb_Ws u6 zu
      replace u7:=bC hb_Ws u7 zu
      replace zu:=Kbq zu hb_Ws.size
      replace r0:=bC hb_Ws r0 zr
      replace r1:=bC hb_Ws r1 zr
      replace r2:=bC hb_Ws r2 zr
      replace r3:=bC hb_Ws r3 zr
      replace r4:=bC hb_Ws r4 zr
      replace fr0:=bF hb_Ws fr0 zr
      replace fr1:=bF hb_Ws fr1 zr
      replace fr2:=bF hb_Ws fr2 zr
      replace fr3:=bF hb_Ws fr3 zr
      replace fr4:=bF hb_Ws fr4 zr
      replace zr:=Kbq zr hb_Ws.size
      replace HB:=Q00 (HB.out.trans (hb_Ws.mono HB.out.size))
      clear hb_Ws
      have zs:W0.heap.size < Ws.heap.size:=by rw [←hWs];simp
      have s0:Ws.cell? ⟨W0.heap.size,0,none⟩=some (.int .i64 m.id):=by rw [←hWs];simp [go_sem]
      have s1:Ws.cell? ⟨W0.heap.size,1,none⟩=some (.int .i64 sf):=by rw [←hWs];simp [go_sem]
      go_wp2_with fail
      refine (H0.out _).mono ?_
      rintro e v1 ⟨rfl,hb⟩
      clear H0
      replace z0:=bC hb z0 zz
      replace z1:=bC hb z1 zz
      replace z2:=bC hb z2 zz
      replace z3:=bC hb z3 zz
      replace z4:=bC hb z4 zz
      replace fz0:=bF hb fz0 zz
      replace fz1:=bF hb fz1 zz
      replace fz2:=bF hb fz2 zz
      replace fz3:=bF hb fz3 zz
      replace fz4:=bF hb fz4 zz
      replace zz:=Kbq zz hb.size
      replace u0:=bC hb u0 zu
      replace u1:=bC hb u1 zu
      replace u2:=bC hb u2 zu
      replace u3:=bC hb u3 zu
      replace u4:=bC hb u4 zu
      replace u5:=bC hb u5 zu
      replace u6:=bC hb u6 zu
      replace u7:=bC hb u7 zu
      replace zu:=Kbq zu hb.size
      replace r0:=bC hb r0 zr
      replace r1:=bC hb r1 zr
      replace r2:=bC hb r2 zr
      replace r3:=bC hb r3 zr
      replace r4:=bC hb r4 zr
      replace fr0:=bF hb fr0 zr
      replace fr1:=bF hb fr1 zr
      replace fr2:=bF hb fr2 zr
      replace fr3:=bF hb fr3 zr
      replace fr4:=bF hb fr4 zr
      replace zr:=Kbq zr hb.size
      replace s0:=bC hb s0 zs
      replace s1:=bC hb s1 zs
      replace zs:=Kbq zs hb.size
      replace HB:=Q00 (HB.out.trans (hb.mono HB.out.size))
      clear hb
      go_wp2_with fail
      refine (H1.out v1 HB.out).mono ?_
      rintro e v2 ⟨rfl,hb⟩
      clear H1
      replace z0:=bC hb z0 zz
      replace z1:=bC hb z1 zz
      replace z2:=bC hb z2 zz
      replace z3:=bC hb z3 zz
      replace z4:=bC hb z4 zz
      replace fz0:=bF hb fz0 zz
      replace fz1:=bF hb fz1 zz
      replace fz2:=bF hb fz2 zz
      replace fz3:=bF hb fz3 zz
      replace fz4:=bF hb fz4 zz
      replace zz:=Kbq zz hb.size
      replace u0:=bC hb u0 zu
      replace u1:=bC hb u1 zu
      replace u2:=bC hb u2 zu
      replace u3:=bC hb u3 zu
      replace u4:=bC hb u4 zu
      replace u5:=bC hb u5 zu
      replace u6:=bC hb u6 zu
      replace u7:=bC hb u7 zu
      replace zu:=Kbq zu hb.size
      replace r0:=bC hb r0 zr
      replace r1:=bC hb r1 zr
      replace r2:=bC hb r2 zr
      replace r3:=bC hb r3 zr
      replace r4:=bC hb r4 zr
      replace fr0:=bF hb fr0 zr
      replace fr1:=bF hb fr1 zr
      replace fr2:=bF hb fr2 zr
      replace fr3:=bF hb fr3 zr
      replace fr4:=bF hb fr4 zr
      replace zr:=Kbq zr hb.size
      replace s0:=bC hb s0 zs
      replace s1:=bC hb s1 zs
      replace zs:=Kbq zs hb.size
      replace HB:=Q00 (HB.out.trans (hb.mono HB.out.size))
      clear hb
      obtain ⟨W4,hW4⟩:∃W,(v2.alloc (.cells #[.bool q.u,.int .i64 q.a,.int .i64 q.p,.int .i64 q.v,.int .i64 q.t] 84))=W:=⟨_,rfl⟩
      have hb_W4:Below v2.heap.size v2 W4:=by rw [←hW4];exact ((Below.refl _ _).alloc (Kaq _) _)
      replace z0:=bC hb_W4 z0 zz
      replace z1:=bC hb_W4 z1 zz
      replace z2:=bC hb_W4 z2 zz
      replace z3:=bC hb_W4 z3 zz
      replace z4:=bC hb_W4 z4 zz
      replace fz0:=bF hb_W4 fz0 zz
      replace fz1:=bF hb_W4 fz1 zz
      replace fz2:=bF hb_W4 fz2 zz
      replace fz3:=bF hb_W4 fz3 zz
      replace fz4:=bF hb_W4 fz4 zz
      replace zz:=Kbq zz hb_W4.size
      replace u0:=bC hb_W4 u0 zu
      replace u1:=bC hb_W4 u1 zu
      replace u2:=bC hb_W4 u2 zu
      replace u3:=bC hb_W4 u3 zu
      replace u4:=bC hb_W4 u4 zu
      replace u5:=bC hb_W4 u5 zu
      replace u6:=bC hb_W4 u6 zu
      replace u7:=bC hb_W4 u7 zu
      replace zu:=Kbq zu hb_W4.size
      replace r0:=bC hb_W4 r0 zr
      replace r1:=bC hb_W4 r1 zr
      replace r2:=bC hb_W4 r2 zr
      replace r3:=bC hb_W4 r3 zr
      replace r4:=bC hb_W4 r4 zr
      replace fr0:=bF hb_W4 fr0 zr
      replace fr1:=bF hb_W4 fr1 zr
      replace fr2:=bF hb_W4 fr2 zr
      replace fr3:=bF hb_W4 fr3 zr
      replace fr4:=bF hb_W4 fr4 zr
      replace zr:=Kbq zr hb_W4.size
      replace s0:=bC hb_W4 s0 zs
      replace s1:=bC hb_W4 s1 zs
      replace zs:=Kbq zs hb_W4.size
      replace HB:=Q00 (HB.out.trans (hb_W4.mono HB.out.size))
      clear hb_W4
      have zy:v2.heap.size < W4.heap.size:=by rw [←hW4];simp
      have y0:W4.cell? ⟨v2.heap.size,0,none⟩=some (.bool q.u):=by rw [←hW4];simp [go_sem]
      have y1:W4.cell? ⟨v2.heap.size,1,none⟩=some (.int .i64 q.a):=by rw [←hW4];simp [go_sem]
      have y2:W4.cell? ⟨v2.heap.size,2,none⟩=some (.int .i64 q.p):=by rw [←hW4];simp [go_sem]
      have y3:W4.cell? ⟨v2.heap.size,3,none⟩=some (.int .i64 q.v):=by rw [←hW4];simp [go_sem]
      have y4:W4.cell? ⟨v2.heap.size,4,none⟩=some (.int .i64 q.t):=by rw [←hW4];simp [go_sem]
      have hlb2:=HLB.out
      have hlb3:((k:Int)==(gl:Int) - 1)=false:=beq_eq_false_iff_ne.2 hlb2
      go_wp2
      refine bodyPost_ret (v:=.tuple #[agt m.id m.lim m.dr (.slice (some ⟨bc,fc,none⟩) m.c.length cc) (.slice (some ⟨bt,ft,none⟩) m.t.length ct),.int .i64 2]) (by simp [results,Try.results68,go_sem,r0,r1,r2,r3,r4]) rfl ⟨bc,fc,cc,bt,ft,ct,by rw [HVl.out],by simp;omega,by simp;omega, ?_, ?_, ?_,by omega,by omega⟩
      ·rw [HCl.out]
       exact (HC.out.kept HB.out zc).step (Q04 W4 (w.heap.size+1+1) (.int .i64 m.id) (.int .i64 m.lim) (.bool m.dr) (.slice (some ⟨bc,fc,none⟩) m.c.length cc) (.slice (some ⟨bt,ft,none⟩) m.t.length ct)) (by have:=HB.out.size;omega) (.inl (by omega))
      ·rw [HTl.out]
       exact (HT.out.kept HB.out zt).step (Q04 W4 (w.heap.size+1+1) (.int .i64 m.id) (.int .i64 m.lim) (.bool m.dr) (.slice (some ⟨bc,fc,none⟩) m.c.length cc) (.slice (some ⟨bt,ft,none⟩) m.t.length ct)) (by have:=HB.out.size;omega) (.inl (by omega))
      ·exact Q07 HB.out (by omega) _ _ _ _ _
    |true=>
     have hlb':(k:Int)=(gl:Int) - 1:=of_decide_eq_true hlb
     have HLB:=Q00 hlb'
     clear hlb'
     by_cases hsf:sf=1
     ·have HVl:=Q00 (HV3.out.trans (if_pos hsf))
      have HCl:=Q00 (HC3.out.trans (if_pos hsf))
      have HTl:=Q00 (HT3.out.trans (if_pos hsf))
      clear HV3 HC3 HT3
      subst hsf
      go_enter Try.func68,Try.ntmps68
      have u5w:=u5
      have u6w:=u6
      obtain ⟨Ws,hWs⟩:∃W,(W0.alloc (.cells #[.int .i64 m.id,.int .i64 1] 41))=W:=⟨_,rfl⟩
      have hb_Ws:Below W0.heap.size W0 Ws:=by rw [←hWs];exact ((Below.refl _ _).alloc (Kaq _) _)
      replace z0:=bC hb_Ws z0 zz
      replace z1:=bC hb_Ws z1 zz
      replace z2:=bC hb_Ws z2 zz
      replace z3:=bC hb_Ws z3 zz
      replace z4:=bC hb_Ws z4 zz
      replace fz0:=bF hb_Ws fz0 zz
      replace fz1:=bF hb_Ws fz1 zz
      replace fz2:=bF hb_Ws fz2 zz
      replace fz3:=bF hb_Ws fz3 zz
      replace fz4:=bF hb_Ws fz4 zz
      replace zz:=Kbq zz hb_Ws.size
      replace u0:=bC hb_Ws u0 zu
      replace u1:=bC hb_Ws u1 zu
      replace u2:=bC hb_Ws u2 zu
      replace u3:=bC hb_Ws u3 zu
      replace u4:=bC hb_Ws u4 zu
      replace u5:=bC hb_Ws u5 zu
      replace u6:=bC hb_Ws u6 zu
      replace u7:=bC hb_Ws u7 zu
      replace zu:=Kbq zu hb_Ws.size
      replace r0:=bC hb_Ws r0 zr
      replace r1:=bC hb_Ws r1 zr
      replace r2:=bC hb_Ws r2 zr
      replace r3:=bC hb_Ws r3 zr
      replace r4:=bC hb_Ws r4 zr
      replace fr0:=bF hb_Ws fr0 zr
      replace fr1:=bF hb_Ws fr1 zr
      replace fr2:=bF hb_Ws fr2 zr
      replace fr3:=bF hb_Ws fr3 zr
      replace fr4:=bF hb_Ws fr4 zr
      replace zr:=Kbq zr hb_Ws.size
      replace HB:=Q00 (HB.out.trans (hb_Ws.mono HB.out.size))
      clear hb_Ws
      have zs:W0.heap.size < Ws.heap.size:=by rw [←hWs];simp
      have s0:Ws.cell? ⟨W0.heap.size,0,none⟩=some (.int .i64 m.id):=by rw [←hWs];simp [go_sem]
      have s1:Ws.cell? ⟨W0.heap.size,1,none⟩=some (.int .i64 1):=by rw [←hWs];simp [go_sem]
      go_wp2_with fail
      refine (H0.out _).mono ?_
      rintro e v1 ⟨rfl,hb⟩
      clear H0
      replace z0:=bC hb z0 zz
      replace z1:=bC hb z1 zz
      replace z2:=bC hb z2 zz
      replace z3:=bC hb z3 zz
      replace z4:=bC hb z4 zz
      replace fz0:=bF hb fz0 zz
      replace fz1:=bF hb fz1 zz
      replace fz2:=bF hb fz2 zz
      replace fz3:=bF hb fz3 zz
      replace fz4:=bF hb fz4 zz
      replace zz:=Kbq zz hb.size
      replace u0:=bC hb u0 zu
      replace u1:=bC hb u1 zu
      replace u2:=bC hb u2 zu
      replace u3:=bC hb u3 zu
      replace u4:=bC hb u4 zu
      replace u5:=bC hb u5 zu
      replace u6:=bC hb u6 zu
      replace u7:=bC hb u7 zu
      replace zu:=Kbq zu hb.size
      replace r0:=bC hb r0 zr
      replace r1:=bC hb r1 zr
      replace r2:=bC hb r2 zr
      replace r3:=bC hb r3 zr
      replace r4:=bC hb r4 zr
      replace fr0:=bF hb fr0 zr
      replace fr1:=bF hb fr1 zr
      replace fr2:=bF hb fr2 zr
      replace fr3:=bF hb fr3 zr
      replace fr4:=bF hb fr4 zr
      replace zr:=Kbq zr hb.size
      replace s0:=bC hb s0 zs
      replace s1:=bC hb s1 zs
      replace zs:=Kbq zs hb.size
      replace HB:=Q00 (HB.out.trans (hb.mono HB.out.size))
      clear hb
      go_wp2_with fail
      refine (H1.out v1 HB.out).mono ?_
      rintro e v2 ⟨rfl,hb⟩
      clear H1
      replace z0:=bC hb z0 zz
      replace z1:=bC hb z1 zz
      replace z2:=bC hb z2 zz
      replace z3:=bC hb z3 zz
      replace z4:=bC hb z4 zz
      replace fz0:=bF hb fz0 zz
      replace fz1:=bF hb fz1 zz
      replace fz2:=bF hb fz2 zz
      replace fz3:=bF hb fz3 zz
      replace fz4:=bF hb fz4 zz
      replace zz:=Kbq zz hb.size
      replace u0:=bC hb u0 zu
      replace u1:=bC hb u1 zu
      replace u2:=bC hb u2 zu
      replace u3:=bC hb u3 zu
      replace u4:=bC hb u4 zu
      replace u5:=bC hb u5 zu
      replace u6:=bC hb u6 zu
      replace u7:=bC hb u7 zu
      replace zu:=Kbq zu hb.size
      replace r0:=bC hb r0 zr
      replace r1:=bC hb r1 zr
      replace r2:=bC hb r2 zr
      replace r3:=bC hb r3 zr
      replace r4:=bC hb r4 zr
      replace fr0:=bF hb fr0 zr
      replace fr1:=bF hb fr1 zr
      replace fr2:=bF hb fr2 zr
      replace fr3:=bF hb fr3 zr
      replace fr4:=bF hb fr4 zr
      replace zr:=Kbq zr hb.size
      replace s0:=bC hb s0 zs
      replace s1:=bC hb s1 zs
      replace zs:=Kbq zs hb.size
      replace HB:=Q00 (HB.out.trans (hb.mono HB.out.size))
      clear hb
      obtain ⟨W4,hW4⟩:∃W,(v2.alloc (.cells #[.bool q.u,.int .i64 q.a,.int .i64 q.p,.int .i64 q.v,.int .i64 q.t] 84))=W:=⟨_,rfl⟩
      have hb_W4:Below v2.heap.size v2 W4:=by rw [←hW4];exact ((Below.refl _ _).alloc (Kaq _) _)
      replace z0:=bC hb_W4 z0 zz
      replace z1:=bC hb_W4 z1 zz
      replace z2:=bC hb_W4 z2 zz
      replace z3:=bC hb_W4 z3 zz
      replace z4:=bC hb_W4 z4 zz
      replace fz0:=bF hb_W4 fz0 zz
      replace fz1:=bF hb_W4 fz1 zz
      replace fz2:=bF hb_W4 fz2 zz
      replace fz3:=bF hb_W4 fz3 zz
      replace fz4:=bF hb_W4 fz4 zz
      replace zz:=Kbq zz hb_W4.size
      replace u0:=bC hb_W4 u0 zu
      replace u1:=bC hb_W4 u1 zu
      replace u2:=bC hb_W4 u2 zu
      replace u3:=bC hb_W4 u3 zu
      replace u4:=bC hb_W4 u4 zu
      replace u5:=bC hb_W4 u5 zu
      replace u6:=bC hb_W4 u6 zu
      replace u7:=bC hb_W4 u7 zu
      replace zu:=Kbq zu hb_W4.size
      replace r0:=bC hb_W4 r0 zr
      replace r1:=bC hb_W4 r1 zr
      replace r2:=bC hb_W4 r2 zr
      replace r3:=bC hb_W4 r3 zr
      replace r4:=bC hb_W4 r4 zr
      replace fr0:=bF hb_W4 fr0 zr
      replace fr1:=bF hb_W4 fr1 zr
      replace fr2:=bF hb_W4 fr2 zr
      replace fr3:=bF hb_W4 fr3 zr
      replace fr4:=bF hb_W4 fr4 zr
      replace zr:=Kbq zr hb_W4.size
      replace s0:=bC hb_W4 s0 zs
      replace s1:=bC hb_W4 s1 zs
      replace zs:=Kbq zs hb_W4.size
      replace HB:=Q00 (HB.out.trans (hb_W4.mono HB.out.size))
      clear hb_W4
      have zy:v2.heap.size < W4.heap.size:=by rw [←hW4];simp
      have y0:W4.cell? ⟨v2.heap.size,0,none⟩=some (.bool q.u):=by rw [←hW4];simp [go_sem]
      have y1:W4.cell? ⟨v2.heap.size,1,none⟩=some (.int .i64 q.a):=by rw [←hW4];simp [go_sem]
      have y2:W4.cell? ⟨v2.heap.size,2,none⟩=some (.int .i64 q.p):=by rw [←hW4];simp [go_sem]
      have y3:W4.cell? ⟨v2.heap.size,3,none⟩=some (.int .i64 q.v):=by rw [←hW4];simp [go_sem]
      have y4:W4.cell? ⟨v2.heap.size,4,none⟩=some (.int .i64 q.t):=by rw [←hW4];simp [go_sem]
      have hlb2:=HLB.out
      have hrz:=zr
      have hsc:=HB.out.size
      have H3:=Q00 (Q2n m bc fc cc bt ft ct now a p f s o n cp true W4 hn0 hn1 hfl hc0 hc16 ht0 ht16 (by omega) (by omega) (HC.out.kept HB.out zc) (HT.out.kept HB.out zt))
      obtain ⟨hv,hhv⟩:∃q,Q41 m a p true=q:=⟨_,rfl⟩
      rw [hhv] at H3 HVl
      clear hhv
      go_wp2_with fail
      refine (H3.out).mono ?_
      rintro e v3 ⟨b2,f2,c2,b3,f3,c3,rfl,hz2,hz3,hrc,hrt,hb,hq2,hq3⟩
      have HRc:=Q00 hrc
      have HRt:=Q00 hrt
      have hs3:=hb.size
      clear hrc hrt H3
      replace z0:=bC hb z0 zz
      replace z1:=bC hb z1 zz
      replace z2:=bC hb z2 zz
      replace z3:=bC hb z3 zz
      replace z4:=bC hb z4 zz
      replace fz0:=bF hb fz0 zz
      replace fz1:=bF hb fz1 zz
      replace fz2:=bF hb fz2 zz
      replace fz3:=bF hb fz3 zz
      replace fz4:=bF hb fz4 zz
      replace zz:=Kbq zz hb.size
      replace u0:=bC hb u0 zu
      replace u1:=bC hb u1 zu
      replace u2:=bC hb u2 zu
      replace u3:=bC hb u3 zu
      replace u4:=bC hb u4 zu
      replace u5:=bC hb u5 zu
      replace u6:=bC hb u6 zu
      replace u7:=bC hb u7 zu
      replace zu:=Kbq zu hb.size
      replace r0:=bC hb r0 zr
      replace r1:=bC hb r1 zr
      replace r2:=bC hb r2 zr
      replace r3:=bC hb r3 zr
      replace r4:=bC hb r4 zr
      replace fr0:=bF hb fr0 zr
      replace fr1:=bF hb fr1 zr
      replace fr2:=bF hb fr2 zr
      replace fr3:=bF hb fr3 zr
      replace fr4:=bF hb fr4 zr
      replace zr:=Kbq zr hb.size
      replace s0:=bC hb s0 zs
      replace s1:=bC hb s1 zs
      replace zs:=Kbq zs hb.size
      replace y0:=bC hb y0 zy
      replace y1:=bC hb y1 zy
      replace y2:=bC hb y2 zy
      replace y3:=bC hb y3 zy
      replace y4:=bC hb y4 zy
      replace zy:=Kbq zy hb.size
      replace HB:=Q00 (HB.out.trans (hb.mono HB.out.size))
      clear hb
      go_wp2
      refine bodyPost_ret (v:=.tuple #[agt m.id m.lim m.dr (.slice (some ⟨b2,f2,none⟩) m.c.length c2) (.slice (some ⟨b3,f3,none⟩) m.t.length c3),.int .i64 hv]) (by simp [results,Try.results68,go_sem,r0,r1,r2,r3,r4]) rfl ⟨b2,f2,c2,b3,f3,c3,by rw [HVl.out],by simp;omega,by simp;omega, ?_, ?_, ?_,by omega,by omega⟩
      ·rw [HCl.out]
       exact Row.step HRc.out (Q04 v3 (w.heap.size+1+1) (.int .i64 m.id) (.int .i64 m.lim) (.bool m.dr) (.slice (some ⟨b2,f2,none⟩) m.c.length c2) (.slice (some ⟨b3,f3,none⟩) m.t.length c3)) hz2 (by omega)
      ·rw [HTl.out]
       exact Row.step HRt.out (Q04 v3 (w.heap.size+1+1) (.int .i64 m.id) (.int .i64 m.lim) (.bool m.dr) (.slice (some ⟨b2,f2,none⟩) m.c.length c2) (.slice (some ⟨b3,f3,none⟩) m.t.length c3)) hz3 (by omega)
      ·exact Q07 HB.out (by omega) _ _ _ _ _
     ·have HV4:=Q00 (HV3.out.trans (if_neg hsf))
      have HVl:=Q00 (HV4.out.trans (if_pos rfl))
      have HCl:=Q00 (HC3.out.trans (if_neg hsf))
      have HTl:=Q00 (HT3.out.trans (if_neg hsf))
      clear HV3 HC3 HT3 HV4
      go_enter Try.func68,Try.ntmps68
      have u5w:=u5
      have u6w:=u6
      obtain ⟨Ws,hWs⟩:∃W,(W0.alloc (.cells #[.int .i64 m.id,.int .i64 sf] 41))=W:=⟨_,rfl⟩
      have hb_Ws:Below W0.heap.size W0 Ws:=by rw [←hWs];exact ((Below.refl _ _).alloc (Kaq _) _)
      replace z0:=bC hb_Ws z0 zz
      replace z1:=bC hb_Ws z1 zz
      replace z2:=bC hb_Ws z2 zz
      replace z3:=bC hb_Ws z3 zz
      replace z4:=bC hb_Ws z4 zz
      replace fz0:=bF hb_Ws fz0 zz
      replace fz1:=bF hb_Ws fz1 zz
      replace fz2:=bF hb_Ws fz2 zz
      replace fz3:=bF hb_Ws fz3 zz
      replace fz4:=bF hb_Ws fz4 zz
      replace zz:=Kbq zz hb_Ws.size
      replace u0:=bC hb_Ws u0 zu
      replace u1:=bC hb_Ws u1 zu
      replace u2:=bC hb_Ws u2 zu
      replace u3:=bC hb_Ws u3 zu
      replace u4:=bC hb_Ws u4 zu
      replace u5:=bC hb_Ws u5 zu
      replace u6:=bC hb_Ws u6 zu
      replace u7:=bC hb_Ws u7 zu
      replace zu:=Kbq zu hb_Ws.size
      replace r0:=bC hb_Ws r0 zr
      replace r1:=bC hb_Ws r1 zr
      replace r2:=bC hb_Ws r2 zr
      replace r3:=bC hb_Ws r3 zr
      replace r4:=bC hb_Ws r4 zr
      replace fr0:=bF hb_Ws fr0 zr
      replace fr1:=bF hb_Ws fr1 zr
      replace fr2:=bF hb_Ws fr2 zr
      replace fr3:=bF hb_Ws fr3 zr
      replace fr4:=bF hb_Ws fr4 zr
      replace zr:=Kbq zr hb_Ws.size
      replace HB:=Q00 (HB.out.trans (hb_Ws.mono HB.out.size))
      clear hb_Ws
      have zs:W0.heap.size < Ws.heap.size:=by rw [←hWs];simp
      have s0:Ws.cell? ⟨W0.heap.size,0,none⟩=some (.int .i64 m.id):=by rw [←hWs];simp [go_sem]
      have s1:Ws.cell? ⟨W0.heap.size,1,none⟩=some (.int .i64 sf):=by rw [←hWs];simp [go_sem]
      go_wp2_with fail
      refine (H0.out _).mono ?_
      rintro e v1 ⟨rfl,hb⟩
      clear H0
      replace z0:=bC hb z0 zz
      replace z1:=bC hb z1 zz
      replace z2:=bC hb z2 zz
      replace z3:=bC hb z3 zz
      replace z4:=bC hb z4 zz
      replace fz0:=bF hb fz0 zz
      replace fz1:=bF hb fz1 zz
      replace fz2:=bF hb fz2 zz
      replace fz3:=bF hb fz3 zz
      replace fz4:=bF hb fz4 zz
      replace zz:=Kbq zz hb.size
      replace u0:=bC hb u0 zu
      replace u1:=bC hb u1 zu
      replace u2:=bC hb u2 zu
      replace u3:=bC hb u3 zu
      replace u4:=bC hb u4 zu
      replace u5:=bC hb u5 zu
      replace u6:=bC hb u6 zu
      replace u7:=bC hb u7 zu
      replace zu:=Kbq zu hb.size
      replace r0:=bC hb r0 zr
      replace r1:=bC hb r1 zr
      replace r2:=bC hb r2 zr
      replace r3:=bC hb r3 zr
      replace r4:=bC hb r4 zr
      replace fr0:=bF hb fr0 zr
      replace fr1:=bF hb fr1 zr
      replace fr2:=bF hb fr2 zr
      replace fr3:=bF hb fr3 zr
      replace fr4:=bF hb fr4 zr
      replace zr:=Kbq zr hb.size
      replace s0:=bC hb s0 zs
      replace s1:=bC hb s1 zs
      replace zs:=Kbq zs hb.size
      replace HB:=Q00 (HB.out.trans (hb.mono HB.out.size))
      clear hb
      go_wp2_with fail
      refine (H1.out v1 HB.out).mono ?_
      rintro e v2 ⟨rfl,hb⟩
      clear H1
      replace z0:=bC hb z0 zz
      replace z1:=bC hb z1 zz
      replace z2:=bC hb z2 zz
      replace z3:=bC hb z3 zz
      replace z4:=bC hb z4 zz
      replace fz0:=bF hb fz0 zz
      replace fz1:=bF hb fz1 zz
      replace fz2:=bF hb fz2 zz
      replace fz3:=bF hb fz3 zz
      replace fz4:=bF hb fz4 zz
      replace zz:=Kbq zz hb.size
      replace u0:=bC hb u0 zu
      replace u1:=bC hb u1 zu
      replace u2:=bC hb u2 zu
      replace u3:=bC hb u3 zu
      replace u4:=bC hb u4 zu
      replace u5:=bC hb u5 zu
      replace u6:=bC hb u6 zu
      replace u7:=bC hb u7 zu
      replace zu:=Kbq zu hb.size
      replace r0:=bC hb r0 zr
      replace r1:=bC hb r1 zr
      replace r2:=bC hb r2 zr
      replace r3:=bC hb r3 zr
      replace r4:=bC hb r4 zr
      replace fr0:=bF hb fr0 zr
      replace fr1:=bF hb fr1 zr
      replace fr2:=bF hb fr2 zr
      replace fr3:=bF hb fr3 zr
      replace fr4:=bF hb fr4 zr
      replace zr:=Kbq zr hb.size
      replace s0:=bC hb s0 zs
      replace s1:=bC hb s1 zs
      replace zs:=Kbq zs hb.size
      replace HB:=Q00 (HB.out.trans (hb.mono HB.out.size))
      clear hb
      obtain ⟨W4,hW4⟩:∃W,(v2.alloc (.cells #[.bool q.u,.int .i64 q.a,.int .i64 q.p,.int .i64 q.v,.int .i64 q.t] 84))=W:=⟨_,rfl⟩
      have hb_W4:Below v2.heap.size v2 W4:=by rw [←hW4];exact ((Below.refl _ _).alloc (Kaq _) _)
      replace z0:=bC hb_W4 z0 zz
      replace z1:=bC hb_W4 z1 zz
      replace z2:=bC hb_W4 z2 zz
      replace z3:=bC hb_W4 z3 zz
      replace z4:=bC hb_W4 z4 zz
      replace fz0:=bF hb_W4 fz0 zz
      replace fz1:=bF hb_W4 fz1 zz
      replace fz2:=bF hb_W4 fz2 zz
      replace fz3:=bF hb_W4 fz3 zz
      replace fz4:=bF hb_W4 fz4 zz
      replace zz:=Kbq zz hb_W4.size
      replace u0:=bC hb_W4 u0 zu
      replace u1:=bC hb_W4 u1 zu
      replace u2:=bC hb_W4 u2 zu
      replace u3:=bC hb_W4 u3 zu
      replace u4:=bC hb_W4 u4 zu
      replace u5:=bC hb_W4 u5 zu
      replace u6:=bC hb_W4 u6 zu
      replace u7:=bC hb_W4 u7 zu
      replace zu:=Kbq zu hb_W4.size
      replace r0:=bC hb_W4 r0 zr
      replace r1:=bC hb_W4 r1 zr
      replace r2:=bC hb_W4 r2 zr
      replace r3:=bC hb_W4 r3 zr
      replace r4:=bC hb_W4 r4 zr
      replace fr0:=bF hb_W4 fr0 zr
      replace fr1:=bF hb_W4 fr1 zr
      replace fr2:=bF hb_W4 fr2 zr
      replace fr3:=bF hb_W4 fr3 zr
      replace fr4:=bF hb_W4 fr4 zr
      replace zr:=Kbq zr hb_W4.size
      replace s0:=bC hb_W4 s0 zs
      replace s1:=bC hb_W4 s1 zs
      replace zs:=Kbq zs hb_W4.size
      replace HB:=Q00 (HB.out.trans (hb_W4.mono HB.out.size))
      clear hb_W4
      have zy:v2.heap.size < W4.heap.size:=by rw [←hW4];simp
      have y0:W4.cell? ⟨v2.heap.size,0,none⟩=some (.bool q.u):=by rw [←hW4];simp [go_sem]
      have y1:W4.cell? ⟨v2.heap.size,1,none⟩=some (.int .i64 q.a):=by rw [←hW4];simp [go_sem]
      have y2:W4.cell? ⟨v2.heap.size,2,none⟩=some (.int .i64 q.p):=by rw [←hW4];simp [go_sem]
      have y3:W4.cell? ⟨v2.heap.size,3,none⟩=some (.int .i64 q.v):=by rw [←hW4];simp [go_sem]
      have y4:W4.cell? ⟨v2.heap.size,4,none⟩=some (.int .i64 q.t):=by rw [←hW4];simp [go_sem]
      have hlb2:=HLB.out
      go_wp2
      refine bodyPost_ret (v:=.tuple #[agt m.id m.lim m.dr (.slice (some ⟨bc,fc,none⟩) m.c.length cc) (.slice (some ⟨bt,ft,none⟩) m.t.length ct),.int .i64 3]) (by simp [results,Try.results68,go_sem,r0,r1,r2,r3,r4]) rfl ⟨bc,fc,cc,bt,ft,ct,by rw [HVl.out],by simp;omega,by simp;omega, ?_, ?_, ?_,by omega,by omega⟩
      ·rw [HCl.out]
       exact (HC.out.kept HB.out zc).step (Q04 W4 (w.heap.size+1+1) (.int .i64 m.id) (.int .i64 m.lim) (.bool m.dr) (.slice (some ⟨bc,fc,none⟩) m.c.length cc) (.slice (some ⟨bt,ft,none⟩) m.t.length ct)) (by have:=HB.out.size;omega) (.inl (by omega))
      ·rw [HTl.out]
       exact (HT.out.kept HB.out zt).step (Q04 W4 (w.heap.size+1+1) (.int .i64 m.id) (.int .i64 m.lim) (.bool m.dr) (.slice (some ⟨bc,fc,none⟩) m.c.length cc) (.slice (some ⟨bt,ft,none⟩) m.t.length ct)) (by have:=HB.out.size;omega) (.inl (by omega))
      ·exact Q07 HB.out (by omega) _ _ _ _ _
  |true=>
   by_cases hold:10 < now - st
   ·skip
    have HVl:=Q00 (HV.out.trans ((if_pos rfl).trans (if_pos ⟨rfl,hold⟩)))
    have HCl:=Q00 (HHC.out.trans ((if_pos rfl).trans (if_pos ⟨rfl,hold⟩)))
    have HTl:=Q00 (HHT.out.trans ((if_pos rfl).trans (if_pos ⟨rfl,hold⟩)))
    clear HV HHC HHT H1
    have hold':now - st > 10:=hold
    go_enter Try.func68,Try.ntmps68
    have u5w:=u5
    have u6w:=u6
    obtain ⟨Ws,hWs⟩:∃W,(W0.alloc (.cells #[.int .i64 m.id,.int .i64 sf] 41))=W:=⟨_,rfl⟩
    have hb_Ws:Below W0.heap.size W0 Ws:=by rw [←hWs];exact ((Below.refl _ _).alloc (Kaq _) _)
    replace z0:=bC hb_Ws z0 zz
    replace z1:=bC hb_Ws z1 zz
    replace z2:=bC hb_Ws z2 zz
    replace z3:=bC hb_Ws z3 zz
    replace z4:=bC hb_Ws z4 zz
    replace fz0:=bF hb_Ws fz0 zz
    replace fz1:=bF hb_Ws fz1 zz
    replace fz2:=bF hb_Ws fz2 zz
    replace fz3:=bF hb_Ws fz3 zz
    replace fz4:=bF hb_Ws fz4 zz
    replace zz:=Kbq zz hb_Ws.size
    replace u0:=bC hb_Ws u0 zu
    replace u1:=bC hb_Ws u1 zu
    replace u2:=bC hb_Ws u2 zu
    replace u3:=bC hb_Ws u3 zu
    replace u4:=bC hb_Ws u4 zu
    replace u5:=bC hb_Ws u5 zu
    replace u6:=bC hb_Ws u6 zu
    replace u7:=bC hb_Ws u7 zu
    replace zu:=Kbq zu hb_Ws.size
    replace r0:=bC hb_Ws r0 zr
    replace r1:=bC hb_Ws r1 zr
    replace r2:=bC hb_Ws r2 zr
    replace r3:=bC hb_Ws r3 zr
    replace r4:=bC hb_Ws r4 zr
    replace fr0:=bF hb_Ws fr0 zr
    replace fr1:=bF hb_Ws fr1 zr
    replace fr2:=bF hb_Ws fr2 zr
    replace fr3:=bF hb_Ws fr3 zr
    replace fr4:=bF hb_Ws fr4 zr
    replace zr:=Kbq zr hb_Ws.size
    replace HB:=Q00 (HB.out.trans (hb_Ws.mono HB.out.size))
    clear hb_Ws
    have zs:W0.heap.size < Ws.heap.size:=by rw [←hWs];simp
    have s0:Ws.cell? ⟨W0.heap.size,0,none⟩=some (.int .i64 m.id):=by rw [←hWs];simp [go_sem]
    have s1:Ws.cell? ⟨W0.heap.size,1,none⟩=some (.int .i64 sf):=by rw [←hWs];simp [go_sem]
    go_wp2_with fail
    refine (H0.out _).mono ?_
    rintro e v1 ⟨rfl,hb⟩
    clear H0
    replace z0:=bC hb z0 zz
    replace z1:=bC hb z1 zz
    replace z2:=bC hb z2 zz
    replace z3:=bC hb z3 zz
    replace z4:=bC hb z4 zz
    replace fz0:=bF hb fz0 zz
    replace fz1:=bF hb fz1 zz
    replace fz2:=bF hb fz2 zz
    replace fz3:=bF hb fz3 zz
    replace fz4:=bF hb fz4 zz
    replace zz:=Kbq zz hb.size
    replace u0:=bC hb u0 zu
    replace u1:=bC hb u1 zu
    replace u2:=bC hb u2 zu
    replace u3:=bC hb u3 zu
    replace u4:=bC hb u4 zu
    replace u5:=bC hb u5 zu
    replace u6:=bC hb u6 zu
    replace u7:=bC hb u7 zu
    replace zu:=Kbq zu hb.size
    replace r0:=bC hb r0 zr
    replace r1:=bC hb r1 zr
    replace r2:=bC hb r2 zr
    replace r3:=bC hb r3 zr
    replace r4:=bC hb r4 zr
    replace fr0:=bF hb fr0 zr
    replace fr1:=bF hb fr1 zr
    replace fr2:=bF hb fr2 zr
    replace fr3:=bF hb fr3 zr
    replace fr4:=bF hb fr4 zr
    replace zr:=Kbq zr hb.size
    replace s0:=bC hb s0 zs
    replace s1:=bC hb s1 zs
    replace zs:=Kbq zs hb.size
    replace HB:=Q00 (HB.out.trans (hb.mono HB.out.size))
    clear hb
    go_wp2
    refine bodyPost_ret (v:=.tuple #[agt m.id m.lim m.dr (.slice (some ⟨bc,fc,none⟩) m.c.length cc) (.slice (some ⟨bt,ft,none⟩) m.t.length ct),.int .i64 4]) (by simp [results,Try.results68,go_sem,r0,r1,r2,r3,r4]) rfl ⟨bc,fc,cc,bt,ft,ct,by rw [HVl.out],by simp;omega,by simp;omega, ?_, ?_, ?_,by omega,by omega⟩
    ·rw [HCl.out]
     exact (HC.out.kept HB.out zc).step (Q04 v1 (w.heap.size+1+1) (.int .i64 m.id) (.int .i64 m.lim) (.bool m.dr) (.slice (some ⟨bc,fc,none⟩) m.c.length cc) (.slice (some ⟨bt,ft,none⟩) m.t.length ct)) (by have:=HB.out.size;omega) (.inl (by omega))
    ·rw [HTl.out]
     exact (HT.out.kept HB.out zt).step (Q04 v1 (w.heap.size+1+1) (.int .i64 m.id) (.int .i64 m.lim) (.bool m.dr) (.slice (some ⟨bc,fc,none⟩) m.c.length cc) (.slice (some ⟨bt,ft,none⟩) m.t.length ct)) (by have:=HB.out.size;omega) (.inl (by omega))
    ·exact Q07 HB.out (by omega) _ _ _ _ _
   ·skip
    have HV2:=Q00 (HV.out.trans ((if_pos rfl).trans (if_neg (fun h=> hold h.2))))
    have HC2:=Q00 (HHC.out.trans ((if_pos rfl).trans (if_neg (fun h=> hold h.2))))
    have HT2:=Q00 (HHT.out.trans ((if_pos rfl).trans (if_neg (fun h=> hold h.2))))
    clear HV HHC HHT
    have hold':¬(now - st > 10):=hold
    cases has with
    |true=>
     have HVl:=Q00 (HV2.out.trans (if_pos rfl))
     have HCl:=Q00 (HC2.out.trans (if_pos rfl))
     have HTl:=Q00 (HT2.out.trans (if_pos rfl))
     clear HV2 HC2 HT2
     go_enter Try.func68,Try.ntmps68
     have u5w:=u5
     have u6w:=u6
     obtain ⟨Ws,hWs⟩:∃W,(W0.alloc (.cells #[.int .i64 m.id,.int .i64 sf] 41))=W:=⟨_,rfl⟩
     have hb_Ws:Below W0.heap.size W0 Ws:=by rw [←hWs];exact ((Below.refl _ _).alloc (Kaq _) _)
     replace z0:=bC hb_Ws z0 zz
     replace z1:=bC hb_Ws z1 zz
     replace z2:=bC hb_Ws z2 zz
     replace z3:=bC hb_Ws z3 zz
     replace z4:=bC hb_Ws z4 zz
     replace fz0:=bF hb_Ws fz0 zz
     replace fz1:=bF hb_Ws fz1 zz
     replace fz2:=bF hb_Ws fz2 zz
     replace fz3:=bF hb_Ws fz3 zz
     replace fz4:=bF hb_Ws fz4 zz
     replace zz:=Kbq zz hb_Ws.size
     replace u0:=bC hb_Ws u0 zu
     replace u1:=bC hb_Ws u1 zu
     replace u2:=bC hb_Ws u2 zu
     replace u3:=bC hb_Ws u3 zu
     replace u4:=bC hb_Ws u4 zu
     replace u5:=bC hb_Ws u5 zu
     replace u6:=bC hb_Ws u6 zu
     replace u7:=bC hb_Ws u7 zu
     replace zu:=Kbq zu hb_Ws.size
     replace r0:=bC hb_Ws r0 zr
     replace r1:=bC hb_Ws r1 zr
     replace r2:=bC hb_Ws r2 zr
     replace r3:=bC hb_Ws r3 zr
     replace r4:=bC hb_Ws r4 zr
     replace fr0:=bF hb_Ws fr0 zr
     replace fr1:=bF hb_Ws fr1 zr
     replace fr2:=bF hb_Ws fr2 zr
     replace fr3:=bF hb_Ws fr3 zr
     replace fr4:=bF hb_Ws fr4 zr
     replace zr:=Kbq zr hb_Ws.size
     replace HB:=Q00 (HB.out.trans (hb_Ws.mono HB.out.size))
     clear hb_Ws
     have zs:W0.heap.size < Ws.heap.size:=by rw [←hWs];simp
     have s0:Ws.cell? ⟨W0.heap.size,0,none⟩=some (.int .i64 m.id):=by rw [←hWs];simp [go_sem]
     have s1:Ws.cell? ⟨W0.heap.size,1,none⟩=some (.int .i64 sf):=by rw [←hWs];simp [go_sem]
     go_wp2_with fail
     refine (H0.out _).mono ?_
     rintro e v1 ⟨rfl,hb⟩
     clear H0
     replace z0:=bC hb z0 zz
     replace z1:=bC hb z1 zz
     replace z2:=bC hb z2 zz
     replace z3:=bC hb z3 zz
     replace z4:=bC hb z4 zz
     replace fz0:=bF hb fz0 zz
     replace fz1:=bF hb fz1 zz
     replace fz2:=bF hb fz2 zz
     replace fz3:=bF hb fz3 zz
     replace fz4:=bF hb fz4 zz
     replace zz:=Kbq zz hb.size
     replace u0:=bC hb u0 zu
     replace u1:=bC hb u1 zu
     replace u2:=bC hb u2 zu
     replace u3:=bC hb u3 zu
     replace u4:=bC hb u4 zu
     replace u5:=bC hb u5 zu
     replace u6:=bC hb u6 zu
     replace u7:=bC hb u7 zu
     replace zu:=Kbq zu hb.size
     replace r0:=bC hb r0 zr
     replace r1:=bC hb r1 zr
     replace r2:=bC hb r2 zr
     replace r3:=bC hb r3 zr
     replace r4:=bC hb r4 zr
     replace fr0:=bF hb fr0 zr
     replace fr1:=bF hb fr1 zr
     replace fr2:=bF hb fr2 zr
     replace fr3:=bF hb fr3 zr
     replace fr4:=bF hb fr4 zr
     replace zr:=Kbq zr hb.size
     replace s0:=bC hb s0 zs
     replace s1:=bC hb s1 zs
     replace zs:=Kbq zs hb.size
     replace HB:=Q00 (HB.out.trans (hb.mono HB.out.size))
     clear hb
     go_wp2_with fail
     refine (H1.out v1 HB.out).mono ?_
     rintro e v2 ⟨rfl,hb⟩
     clear H1
     replace z0:=bC hb z0 zz
     replace z1:=bC hb z1 zz
     replace z2:=bC hb z2 zz
     replace z3:=bC hb z3 zz
     replace z4:=bC hb z4 zz
     replace fz0:=bF hb fz0 zz
     replace fz1:=bF hb fz1 zz
     replace fz2:=bF hb fz2 zz
     replace fz3:=bF hb fz3 zz
     replace fz4:=bF hb fz4 zz
     replace zz:=Kbq zz hb.size
     replace u0:=bC hb u0 zu
     replace u1:=bC hb u1 zu
     replace u2:=bC hb u2 zu
     replace u3:=bC hb u3 zu
     replace u4:=bC hb u4 zu
     replace u5:=bC hb u5 zu
     replace u6:=bC hb u6 zu
     replace u7:=bC hb u7 zu
     replace zu:=Kbq zu hb.size
     replace r0:=bC hb r0 zr
     replace r1:=bC hb r1 zr
     replace r2:=bC hb r2 zr
     replace r3:=bC hb r3 zr
     replace r4:=bC hb r4 zr
     replace fr0:=bF hb fr0 zr
     replace fr1:=bF hb fr1 zr
     replace fr2:=bF hb fr2 zr
     replace fr3:=bF hb fr3 zr
     replace fr4:=bF hb fr4 zr
     replace zr:=Kbq zr hb.size
     replace s0:=bC hb s0 zs
     replace s1:=bC hb s1 zs
     replace zs:=Kbq zs hb.size
     replace HB:=Q00 (HB.out.trans (hb.mono HB.out.size))
     clear hb
     obtain ⟨W4,hW4⟩:∃W,(v2.alloc (.cells #[.bool q.u,.int .i64 q.a,.int .i64 q.p,.int .i64 q.v,.int .i64 q.t] 84))=W:=⟨_,rfl⟩
     have hb_W4:Below v2.heap.size v2 W4:=by rw [←hW4];exact ((Below.refl _ _).alloc (Kaq _) _)
     replace z0:=bC hb_W4 z0 zz
     replace z1:=bC hb_W4 z1 zz
     replace z2:=bC hb_W4 z2 zz
     replace z3:=bC hb_W4 z3 zz
     replace z4:=bC hb_W4 z4 zz
     replace fz0:=bF hb_W4 fz0 zz
     replace fz1:=bF hb_W4 fz1 zz
     replace fz2:=bF hb_W4 fz2 zz
     replace fz3:=bF hb_W4 fz3 zz
     replace fz4:=bF hb_W4 fz4 zz
     replace zz:=Kbq zz hb_W4.size
     replace u0:=bC hb_W4 u0 zu
     replace u1:=bC hb_W4 u1 zu
     replace u2:=bC hb_W4 u2 zu
     replace u3:=bC hb_W4 u3 zu
     replace u4:=bC hb_W4 u4 zu
     replace u5:=bC hb_W4 u5 zu
     replace u6:=bC hb_W4 u6 zu
     replace u7:=bC hb_W4 u7 zu
     replace zu:=Kbq zu hb_W4.size
     replace r0:=bC hb_W4 r0 zr
     replace r1:=bC hb_W4 r1 zr
     replace r2:=bC hb_W4 r2 zr
     replace r3:=bC hb_W4 r3 zr
     replace r4:=bC hb_W4 r4 zr
     replace fr0:=bF hb_W4 fr0 zr
     replace fr1:=bF hb_W4 fr1 zr
     replace fr2:=bF hb_W4 fr2 zr
     replace fr3:=bF hb_W4 fr3 zr
     replace fr4:=bF hb_W4 fr4 zr
     replace zr:=Kbq zr hb_W4.size
     replace s0:=bC hb_W4 s0 zs
     replace s1:=bC hb_W4 s1 zs
     replace zs:=Kbq zs hb_W4.size
     replace HB:=Q00 (HB.out.trans (hb_W4.mono HB.out.size))
     clear hb_W4
     have zy:v2.heap.size < W4.heap.size:=by rw [←hW4];simp
     have y0:W4.cell? ⟨v2.heap.size,0,none⟩=some (.bool q.u):=by rw [←hW4];simp [go_sem]
     have y1:W4.cell? ⟨v2.heap.size,1,none⟩=some (.int .i64 q.a):=by rw [←hW4];simp [go_sem]
     have y2:W4.cell? ⟨v2.heap.size,2,none⟩=some (.int .i64 q.p):=by rw [←hW4];simp [go_sem]
     have y3:W4.cell? ⟨v2.heap.size,3,none⟩=some (.int .i64 q.v):=by rw [←hW4];simp [go_sem]
     have y4:W4.cell? ⟨v2.heap.size,4,none⟩=some (.int .i64 q.t):=by rw [←hW4];simp [go_sem]
     have hrz:=zr
     have hsc:=HB.out.size
     have H3:=Q00 (Q4c m bc fc cc bt ft ct now a p f s o n cp W4 hn0 hn1 hfl hc0 hc16 ht0 ht16 (by omega) (by omega) (HC.out.kept HB.out zc) (HT.out.kept HB.out zt) hok)
     go_wp2_with fail
     refine (H3.out).mono ?_
     rintro e v3 ⟨b2,f2,c2,b3,f3,c3,rfl,hz2,hz3,hrc,hrt,hb,hq2,hq3⟩
     have HRc:=Q00 hrc
     have HRt:=Q00 hrt
     have hs3:=hb.size
     clear hrc hrt H3
     replace z0:=bC hb z0 zz
     replace z1:=bC hb z1 zz
     replace z2:=bC hb z2 zz
     replace z3:=bC hb z3 zz
     replace z4:=bC hb z4 zz
     replace fz0:=bF hb fz0 zz
     replace fz1:=bF hb fz1 zz
     replace fz2:=bF hb fz2 zz
     replace fz3:=bF hb fz3 zz
     replace fz4:=bF hb fz4 zz
     replace zz:=Kbq zz hb.size
     replace u0:=bC hb u0 zu
     replace u1:=bC hb u1 zu
     replace u2:=bC hb u2 zu
     replace u3:=bC hb u3 zu
     replace u4:=bC hb u4 zu
     replace u5:=bC hb u5 zu
     replace u6:=bC hb u6 zu
     replace u7:=bC hb u7 zu
     replace zu:=Kbq zu hb.size
     replace r0:=bC hb r0 zr
     replace r1:=bC hb r1 zr
     replace r2:=bC hb r2 zr
     replace r3:=bC hb r3 zr
     replace r4:=bC hb r4 zr
     replace fr0:=bF hb fr0 zr
     replace fr1:=bF hb fr1 zr
     replace fr2:=bF hb fr2 zr
     replace fr3:=bF hb fr3 zr
     replace fr4:=bF hb fr4 zr
     replace zr:=Kbq zr hb.size
     replace s0:=bC hb s0 zs
     replace s1:=bC hb s1 zs
     replace zs:=Kbq zs hb.size
     replace y0:=bC hb y0 zy
     replace y1:=bC hb y1 zy
     replace y2:=bC hb y2 zy
     replace y3:=bC hb y3 zy
     replace y4:=bC hb y4 zy
     replace zy:=Kbq zy hb.size
     replace HB:=Q00 (HB.out.trans (hb.mono HB.out.size))
     clear hb
     go_wp2
     refine bodyPost_ret (v:=.tuple #[agt m.id m.lim m.dr (.slice (some ⟨b2,f2,none⟩) m.c.length c2) (.slice (some ⟨b3,f3,none⟩) m.t.length c3),.int .i64 0]) (by simp [results,Try.results68,go_sem,r0,r1,r2,r3,r4]) rfl ⟨b2,f2,c2,b3,f3,c3,by rw [HVl.out],by simp;omega,by simp;omega, ?_, ?_, ?_,by omega,by omega⟩
     ·rw [HCl.out]
      exact Row.step HRc.out (Q04 v3 (w.heap.size+1+1) (.int .i64 m.id) (.int .i64 m.lim) (.bool m.dr) (.slice (some ⟨b2,f2,none⟩) m.c.length c2) (.slice (some ⟨b3,f3,none⟩) m.t.length c3)) hz2 (by omega)
     ·rw [HTl.out]
      exact Row.step HRt.out (Q04 v3 (w.heap.size+1+1) (.int .i64 m.id) (.int .i64 m.lim) (.bool m.dr) (.slice (some ⟨b2,f2,none⟩) m.c.length c2) (.slice (some ⟨b3,f3,none⟩) m.t.length c3)) hz3 (by omega)
     ·exact Q07 HB.out (by omega) _ _ _ _ _
    |false=>
     have HV3:=Q00 (HV2.out.trans (if_neg (by decide)))
     have HC3:=Q00 (HC2.out.trans (if_neg (by decide)))
     have HT3:=Q00 (HT2.out.trans (if_neg (by decide)))
     clear HV2 HC2 HT2
     cases lb with
     |false=>
      have hlb':¬((k:Int)=(gl:Int) - 1):=of_decide_eq_false hlb
      have HLB:=Q00 hlb'
      clear hlb'
      by_cases hsf:sf=1
      ·have HVl:=Q00 (HV3.out.trans (if_pos hsf))
       have HCl:=Q00 (HC3.out.trans (if_pos hsf))
       have HTl:=Q00 (HT3.out.trans (if_pos hsf))
       clear HV3 HC3 HT3
       subst hsf
       go_enter Try.func68,Try.ntmps68
       have u5w:=u5
       have u6w:=u6
       obtain ⟨Ws,hWs⟩:∃W,(W0.alloc (.cells #[.int .i64 m.id,.int .i64 1] 41))=W:=⟨_,rfl⟩
       have hb_Ws:Below W0.heap.size W0 Ws:=by rw [←hWs];exact ((Below.refl _ _).alloc (Kaq _) _)
       replace z0:=bC hb_Ws z0 zz
       replace z1:=bC hb_Ws z1 zz
       replace z2:=bC hb_Ws z2 zz
       replace z3:=bC hb_Ws z3 zz
       replace z4:=bC hb_Ws z4 zz
       replace fz0:=bF hb_Ws fz0 zz
       replace fz1:=bF hb_Ws fz1 zz
       replace fz2:=bF hb_Ws fz2 zz
       replace fz3:=bF hb_Ws fz3 zz
       replace fz4:=bF hb_Ws fz4 zz
       replace zz:=Kbq zz hb_Ws.size
       replace u0:=bC hb_Ws u0 zu
       replace u1:=bC hb_Ws u1 zu
       replace u2:=bC hb_Ws u2 zu
       replace u3:=bC hb_Ws u3 zu
       replace u4:=bC hb_Ws u4 zu
       replace u5:=bC hb_Ws u5 zu
       replace u6:=bC hb_Ws u6 zu
       replace u7:=bC hb_Ws u7 zu
       replace zu:=Kbq zu hb_Ws.size
       replace r0:=bC hb_Ws r0 zr
       replace r1:=bC hb_Ws r1 zr
       replace r2:=bC hb_Ws r2 zr
       replace r3:=bC hb_Ws r3 zr
       replace r4:=bC hb_Ws r4 zr
       replace fr0:=bF hb_Ws fr0 zr
       replace fr1:=bF hb_Ws fr1 zr
       replace fr2:=bF hb_Ws fr2 zr
       replace fr3:=bF hb_Ws fr3 zr
       replace fr4:=bF hb_Ws fr4 zr
       replace zr:=Kbq zr hb_Ws.size
       replace HB:=Q00 (HB.out.trans (hb_Ws.mono HB.out.size))
       clear hb_Ws
       have zs:W0.heap.size < Ws.heap.size:=by rw [←hWs];simp
       have s0:Ws.cell? ⟨W0.heap.size,0,none⟩=some (.int .i64 m.id):=by rw [←hWs];simp [go_sem]
       have s1:Ws.cell? ⟨W0.heap.size,1,none⟩=some (.int .i64 1):=by rw [←hWs];simp [go_sem]
       go_wp2_with fail
       refine (H0.out _).mono ?_
       rintro e v1 ⟨rfl,hb⟩
       clear H0
       replace z0:=bC hb z0 zz
       replace z1:=bC hb z1 zz
       replace z2:=bC hb z2 zz
       replace z3:=bC hb z3 zz
       replace z4:=bC hb z4 zz
       replace fz0:=bF hb fz0 zz
       replace fz1:=bF hb fz1 zz
       replace fz2:=bF hb fz2 zz
       replace fz3:=bF hb fz3 zz
       replace fz4:=bF hb fz4 zz
       replace zz:=Kbq zz hb.size
       replace u0:=bC hb u0 zu
       replace u1:=bC hb u1 zu
       replace u2:=bC hb u2 zu
       replace u3:=bC hb u3 zu
       replace u4:=bC hb u4 zu
       replace u5:=bC hb u5 zu
       replace u6:=bC hb u6 zu
       replace u7:=bC hb u7 zu
       replace zu:=Kbq zu hb.size
       replace r0:=bC hb r0 zr
       replace r1:=bC hb r1 zr
       replace r2:=bC hb r2 zr
       replace r3:=bC hb r3 zr
       replace r4:=bC hb r4 zr
       replace fr0:=bF hb fr0 zr
       replace fr1:=bF hb fr1 zr
       replace fr2:=bF hb fr2 zr
       replace fr3:=bF hb fr3 zr
       replace fr4:=bF hb fr4 zr
       replace zr:=Kbq zr hb.size
       replace s0:=bC hb s0 zs
       replace s1:=bC hb s1 zs
       replace zs:=Kbq zs hb.size
       replace HB:=Q00 (HB.out.trans (hb.mono HB.out.size))
       clear hb
       go_wp2_with fail
       refine (H1.out v1 HB.out).mono ?_
       rintro e v2 ⟨rfl,hb⟩
       clear H1
       replace z0:=bC hb z0 zz
       replace z1:=bC hb z1 zz
       replace z2:=bC hb z2 zz
       replace z3:=bC hb z3 zz
       replace z4:=bC hb z4 zz
       replace fz0:=bF hb fz0 zz
       replace fz1:=bF hb fz1 zz
       replace fz2:=bF hb fz2 zz
       replace fz3:=bF hb fz3 zz
       replace fz4:=bF hb fz4 zz
       replace zz:=Kbq zz hb.size
       replace u0:=bC hb u0 zu
       replace u1:=bC hb u1 zu
       replace u2:=bC hb u2 zu
       replace u3:=bC hb u3 zu
       replace u4:=bC hb u4 zu
       replace u5:=bC hb u5 zu
       replace u6:=bC hb u6 zu
       replace u7:=bC hb u7 zu
       replace zu:=Kbq zu hb.size
       replace r0:=bC hb r0 zr
       replace r1:=bC hb r1 zr
       replace r2:=bC hb r2 zr
       replace r3:=bC hb r3 zr
       replace r4:=bC hb r4 zr
       replace fr0:=bF hb fr0 zr
       replace fr1:=bF hb fr1 zr
       replace fr2:=bF hb fr2 zr
       replace fr3:=bF hb fr3 zr
       replace fr4:=bF hb fr4 zr
       replace zr:=Kbq zr hb.size
       replace s0:=bC hb s0 zs
       replace s1:=bC hb s1 zs
       replace zs:=Kbq zs hb.size
       replace HB:=Q00 (HB.out.trans (hb.mono HB.out.size))
       clear hb
       obtain ⟨W4,hW4⟩:∃W,(v2.alloc (.cells #[.bool q.u,.int .i64 q.a,.int .i64 q.p,.int .i64 q.v,.int .i64 q.t] 84))=W:=⟨_,rfl⟩
       have hb_W4:Below v2.heap.size v2 W4:=by rw [←hW4];exact ((Below.refl _ _).alloc (Kaq _) _)
       replace z0:=bC hb_W4 z0 zz
       replace z1:=bC hb_W4 z1 zz
       replace z2:=bC hb_W4 z2 zz
       replace z3:=bC hb_W4 z3 zz
       replace z4:=bC hb_W4 z4 zz
       replace fz0:=bF hb_W4 fz0 zz
       replace fz1:=bF hb_W4 fz1 zz
       replace fz2:=bF hb_W4 fz2 zz
       replace fz3:=bF hb_W4 fz3 zz
       replace fz4:=bF hb_W4 fz4 zz
       replace zz:=Kbq zz hb_W4.size
       replace u0:=bC hb_W4 u0 zu
       replace u1:=bC hb_W4 u1 zu
       replace u2:=bC hb_W4 u2 zu
       replace u3:=bC hb_W4 u3 zu
       replace u4:=bC hb_W4 u4 zu
       replace u5:=bC hb_W4 u5 zu
       replace u6:=bC hb_W4 u6 zu
       replace u7:=bC hb_W4 u7 zu
       replace zu:=Kbq zu hb_W4.size
       replace r0:=bC hb_W4 r0 zr
       replace r1:=bC hb_W4 r1 zr
       replace r2:=bC hb_W4 r2 zr
       replace r3:=bC hb_W4 r3 zr
       replace r4:=bC hb_W4 r4 zr
       replace fr0:=bF hb_W4 fr0 zr
       replace fr1:=bF hb_W4 fr1 zr
       replace fr2:=bF hb_W4 fr2 zr
       replace fr3:=bF hb_W4 fr3 zr
       replace fr4:=bF hb_W4 fr4 zr
       replace zr:=Kbq zr hb_W4.size
       replace s0:=bC hb_W4 s0 zs
       replace s1:=bC hb_W4 s1 zs
       replace zs:=Kbq zs hb_W4.size
       replace HB:=Q00 (HB.out.trans (hb_W4.mono HB.out.size))
       clear hb_W4
       have zy:v2.heap.size < W4.heap.size:=by rw [←hW4];simp
       have y0:W4.cell? ⟨v2.heap.size,0,none⟩=some (.bool q.u):=by rw [←hW4];simp [go_sem]
       have y1:W4.cell? ⟨v2.heap.size,1,none⟩=some (.int .i64 q.a):=by rw [←hW4];simp [go_sem]
       have y2:W4.cell? ⟨v2.heap.size,2,none⟩=some (.int .i64 q.p):=by rw [←hW4];simp [go_sem]
       have y3:W4.cell? ⟨v2.heap.size,3,none⟩=some (.int .i64 q.v):=by rw [←hW4];simp [go_sem]
       have y4:W4.cell? ⟨v2.heap.size,4,none⟩=some (.int .i64 q.t):=by rw [←hW4];simp [go_sem]
       have hlb2:=HLB.out
       have hlb3:((k:Int)==(gl:Int) - 1)=false:=beq_eq_false_iff_ne.2 hlb2
       have hrz:=zr
       have hsc:=HB.out.size
       have H3:=Q00 (Q2n m bc fc cc bt ft ct now a p f s o n cp false W4 hn0 hn1 hfl hc0 hc16 ht0 ht16 (by omega) (by omega) (HC.out.kept HB.out zc) (HT.out.kept HB.out zt))
       obtain ⟨hv,hhv⟩:∃q,Q41 m a p false=q:=⟨_,rfl⟩
       rw [hhv] at H3 HVl
       clear hhv
       go_wp2_with fail
       refine (H3.out).mono ?_
       rintro e v3 ⟨b2,f2,c2,b3,f3,c3,rfl,hz2,hz3,hrc,hrt,hb,hq2,hq3⟩
       have HRc:=Q00 hrc
       have HRt:=Q00 hrt
       have hs3:=hb.size
       clear hrc hrt H3
       replace z0:=bC hb z0 zz
       replace z1:=bC hb z1 zz
       replace z2:=bC hb z2 zz
       replace z3:=bC hb z3 zz
       replace z4:=bC hb z4 zz
       replace fz0:=bF hb fz0 zz
       replace fz1:=bF hb fz1 zz
       replace fz2:=bF hb fz2 zz
       replace fz3:=bF hb fz3 zz
       replace fz4:=bF hb fz4 zz
       replace zz:=Kbq zz hb.size
       replace u0:=bC hb u0 zu
       replace u1:=bC hb u1 zu
       replace u2:=bC hb u2 zu
       replace u3:=bC hb u3 zu
       replace u4:=bC hb u4 zu
       replace u5:=bC hb u5 zu
       replace u6:=bC hb u6 zu
       replace u7:=bC hb u7 zu
       replace zu:=Kbq zu hb.size
       replace r0:=bC hb r0 zr
       replace r1:=bC hb r1 zr
       replace r2:=bC hb r2 zr
       replace r3:=bC hb r3 zr
       replace r4:=bC hb r4 zr
       replace fr0:=bF hb fr0 zr
       replace fr1:=bF hb fr1 zr
       replace fr2:=bF hb fr2 zr
       replace fr3:=bF hb fr3 zr
       replace fr4:=bF hb fr4 zr
       replace zr:=Kbq zr hb.size
       replace s0:=bC hb s0 zs
       replace s1:=bC hb s1 zs
       replace zs:=Kbq zs hb.size
       replace y0:=bC hb y0 zy
       replace y1:=bC hb y1 zy
       replace y2:=bC hb y2 zy
       replace y3:=bC hb y3 zy
       replace y4:=bC hb y4 zy
       replace zy:=Kbq zy hb.size
       replace HB:=Q00 (HB.out.trans (hb.mono HB.out.size))
       clear hb
       go_wp2
       refine bodyPost_ret (v:=.tuple #[agt m.id m.lim m.dr (.slice (some ⟨b2,f2,none⟩) m.c.length c2) (.slice (some ⟨b3,f3,none⟩) m.t.length c3),.int .i64 hv]) (by simp [results,Try.results68,go_sem,r0,r1,r2,r3,r4]) rfl ⟨b2,f2,c2,b3,f3,c3,by rw [HVl.out],by simp;omega,by simp;omega, ?_, ?_, ?_,by omega,by omega⟩
       ·rw [HCl.out]
        exact Row.step HRc.out (Q04 v3 (w.heap.size+1+1) (.int .i64 m.id) (.int .i64 m.lim) (.bool m.dr) (.slice (some ⟨b2,f2,none⟩) m.c.length c2) (.slice (some ⟨b3,f3,none⟩) m.t.length c3)) hz2 (by omega)
       ·rw [HTl.out]
        exact Row.step HRt.out (Q04 v3 (w.heap.size+1+1) (.int .i64 m.id) (.int .i64 m.lim) (.bool m.dr) (.slice (some ⟨b2,f2,none⟩) m.c.length c2) (.slice (some ⟨b3,f3,none⟩) m.t.length c3)) hz3 (by omega)
       ·exact Q07 HB.out (by omega) _ _ _ _ _
      ·have HV4:=Q00 (HV3.out.trans (if_neg hsf))
       have HVl:=Q00 (HV4.out.trans (if_neg (by decide)))
       have HCl:=Q00 (HC3.out.trans (if_neg hsf))
       have HTl:=Q00 (HT3.out.trans (if_neg hsf))
       clear HV3 HC3 HT3 HV4
       go_enter Try.func68,Try.ntmps68
       have u5w:=u5
       have u6w:=u6
       obtain ⟨Ws,hWs⟩:∃W,(W0.alloc (.cells #[.int .i64 m.id,.int .i64 sf] 41))=W:=⟨_,rfl⟩
       have hb_Ws:Below W0.heap.size W0 Ws:=by rw [←hWs];exact ((Below.refl _ _).alloc (Kaq _) _)
       replace z0:=bC hb_Ws z0 zz
       replace z1:=bC hb_Ws z1 zz
       replace z2:=bC hb_Ws z2 zz
       replace z3:=bC hb_Ws z3 zz
       replace z4:=bC hb_Ws z4 zz
       replace fz0:=bF hb_Ws fz0 zz
       replace fz1:=bF hb_Ws fz1 zz
       replace fz2:=bF hb_Ws fz2 zz
       replace fz3:=bF hb_Ws fz3 zz
       replace fz4:=bF hb_Ws fz4 zz
       replace zz:=Kbq zz hb_Ws.size
       replace u0:=bC hb_Ws u0 zu
       replace u1:=bC hb_Ws u1 zu
       replace u2:=bC hb_Ws u2 zu
       replace u3:=bC hb_Ws u3 zu
       replace u4:=bC hb_Ws u4 zu
       replace u5:=bC hb_Ws u5 zu
       replace u6:=bC hb_Ws u6 zu
       replace u7:=bC hb_Ws u7 zu
       replace zu:=Kbq zu hb_Ws.size
       replace r0:=bC hb_Ws r0 zr
       replace r1:=bC hb_Ws r1 zr
       replace r2:=bC hb_Ws r2 zr
       replace r3:=bC hb_Ws r3 zr
       replace r4:=bC hb_Ws r4 zr
       replace fr0:=bF hb_Ws fr0 zr
       replace fr1:=bF hb_Ws fr1 zr
       replace fr2:=bF hb_Ws fr2 zr
       replace fr3:=bF hb_Ws fr3 zr
       replace fr4:=bF hb_Ws fr4 zr
       replace zr:=Kbq zr hb_Ws.size
       replace HB:=Q00 (HB.out.trans (hb_Ws.mono HB.out.size))
       clear hb_Ws
       have zs:W0.heap.size < Ws.heap.size:=by rw [←hWs];simp
       have s0:Ws.cell? ⟨W0.heap.size,0,none⟩=some (.int .i64 m.id):=by rw [←hWs];simp [go_sem]
       have s1:Ws.cell? ⟨W0.heap.size,1,none⟩=some (.int .i64 sf):=by rw [←hWs];simp [go_sem]
       go_wp2_with fail
       refine (H0.out _).mono ?_
       rintro e v1 ⟨rfl,hb⟩
       clear H0
       replace z0:=bC hb z0 zz
       replace z1:=bC hb z1 zz
       replace z2:=bC hb z2 zz
       replace z3:=bC hb z3 zz
       replace z4:=bC hb z4 zz
       replace fz0:=bF hb fz0 zz
       replace fz1:=bF hb fz1 zz
       replace fz2:=bF hb fz2 zz
       replace fz3:=bF hb fz3 zz
       replace fz4:=bF hb fz4 zz
       replace zz:=Kbq zz hb.size
       replace u0:=bC hb u0 zu
       replace u1:=bC hb u1 zu
       replace u2:=bC hb u2 zu
       replace u3:=bC hb u3 zu
       replace u4:=bC hb u4 zu
       replace u5:=bC hb u5 zu
       replace u6:=bC hb u6 zu
       replace u7:=bC hb u7 zu
       replace zu:=Kbq zu hb.size
       replace r0:=bC hb r0 zr
       replace r1:=bC hb r1 zr
       replace r2:=bC hb r2 zr
       replace r3:=bC hb r3 zr
       replace r4:=bC hb r4 zr
       replace fr0:=bF hb fr0 zr
       replace fr1:=bF hb fr1 zr
       replace fr2:=bF hb fr2 zr
       replace fr3:=bF hb fr3 zr
       replace fr4:=bF hb fr4 zr
       replace zr:=Kbq zr hb.size
       replace s0:=bC hb s0 zs
       replace s1:=bC hb s1 zs
       replace zs:=Kbq zs hb.size
       replace HB:=Q00 (HB.out.trans (hb.mono HB.out.size))
       clear hb
       go_wp2_with fail
       refine (H1.out v1 HB.out).mono ?_
       rintro e v2 ⟨rfl,hb⟩
       clear H1
       replace z0:=bC hb z0 zz
       replace z1:=bC hb z1 zz
       replace z2:=bC hb z2 zz
       replace z3:=bC hb z3 zz
       replace z4:=bC hb z4 zz
       replace fz0:=bF hb fz0 zz
       replace fz1:=bF hb fz1 zz
       replace fz2:=bF hb fz2 zz
       replace fz3:=bF hb fz3 zz
       replace fz4:=bF hb fz4 zz
       replace zz:=Kbq zz hb.size
       replace u0:=bC hb u0 zu
       replace u1:=bC hb u1 zu
       replace u2:=bC hb u2 zu
       replace u3:=bC hb u3 zu
       replace u4:=bC hb u4 zu
       replace u5:=bC hb u5 zu
       replace u6:=bC hb u6 zu
       replace u7:=bC hb u7 zu
       replace zu:=Kbq zu hb.size
       replace r0:=bC hb r0 zr
       replace r1:=bC hb r1 zr
       replace r2:=bC hb r2 zr
       replace r3:=bC hb r3 zr
       replace r4:=bC hb r4 zr
       replace fr0:=bF hb fr0 zr
       replace fr1:=bF hb fr1 zr
       replace fr2:=bF hb fr2 zr
       replace fr3:=bF hb fr3 zr
       replace fr4:=bF hb fr4 zr
       replace zr:=Kbq zr hb.size
       replace s0:=bC hb s0 zs
       replace s1:=bC hb s1 zs
       replace zs:=Kbq zs hb.size
       replace HB:=Q00 (HB.out.trans (hb.mono HB.out.size))
       clear hb
       obtain ⟨W4,hW4⟩:∃W,(v2.alloc (.cells #[.bool q.u,.int .i64 q.a,.int .i64 q.p,.int .i64 q.v,.int .i64 q.t] 84))=W:=⟨_,rfl⟩
       have hb_W4:Below v2.heap.size v2 W4:=by rw [←hW4];exact ((Below.refl _ _).alloc (Kaq _) _)
       replace z0:=bC hb_W4 z0 zz
       replace z1:=bC hb_W4 z1 zz
       replace z2:=bC hb_W4 z2 zz
       replace z3:=bC hb_W4 z3 zz
       replace z4:=bC hb_W4 z4 zz
       replace fz0:=bF hb_W4 fz0 zz
       replace fz1:=bF hb_W4 fz1 zz
       replace fz2:=bF hb_W4 fz2 zz
       replace fz3:=bF hb_W4 fz3 zz
       replace fz4:=bF hb_W4 fz4 zz
       replace zz:=Kbq zz hb_W4.size
       replace u0:=bC hb_W4 u0 zu
       replace u1:=bC hb_W4 u1 zu
       replace u2:=bC hb_W4 u2 zu
       replace u3:=bC hb_W4 u3 zu
       replace u4:=bC hb_W4 u4 zu
       replace u5:=bC hb_W4 u5 zu
       replace u6:=bC hb_W4 u6 zu
       replace u7:=bC hb_W4 u7 zu
       replace zu:=Kbq zu hb_W4.size
       replace r0:=bC hb_W4 r0 zr
       replace r1:=bC hb_W4 r1 zr
       replace r2:=bC hb_W4 r2 zr
       replace r3:=bC hb_W4 r3 zr
       replace r4:=bC hb_W4 r4 zr
       replace fr0:=bF hb_W4 fr0 zr
       replace fr1:=bF hb_W4 fr1 zr
       replace fr2:=bF hb_W4 fr2 zr
       replace fr3:=bF hb_W4 fr3 zr
       replace fr4:=bF hb_W4 fr4 zr
       replace zr:=Kbq zr hb_W4.size
       replace s0:=bC hb_W4 s0 zs
       replace s1:=bC hb_W4 s1 zs
       replace zs:=Kbq zs hb_W4.size
       replace HB:=Q00 (HB.out.trans (hb_W4.mono HB.out.size))
       clear hb_W4
       have zy:v2.heap.size < W4.heap.size:=by rw [←hW4];simp
       have y0:W4.cell? ⟨v2.heap.size,0,none⟩=some (.bool q.u):=by rw [←hW4];simp [go_sem]
       have y1:W4.cell? ⟨v2.heap.size,1,none⟩=some (.int .i64 q.a):=by rw [←hW4];simp [go_sem]
       have y2:W4.cell? ⟨v2.heap.size,2,none⟩=some (.int .i64 q.p):=by rw [←hW4];simp [go_sem]
       have y3:W4.cell? ⟨v2.heap.size,3,none⟩=some (.int .i64 q.v):=by rw [←hW4];simp [go_sem]
       have y4:W4.cell? ⟨v2.heap.size,4,none⟩=some (.int .i64 q.t):=by rw [←hW4];simp [go_sem]
       have hlb2:=HLB.out
       have hlb3:((k:Int)==(gl:Int) - 1)=false:=beq_eq_false_iff_ne.2 hlb2
       go_wp2
       refine bodyPost_ret (v:=.tuple #[agt m.id m.lim m.dr (.slice (some ⟨bc,fc,none⟩) m.c.length cc) (.slice (some ⟨bt,ft,none⟩) m.t.length ct),.int .i64 2]) (by simp [results,Try.results68,go_sem,r0,r1,r2,r3,r4]) rfl ⟨bc,fc,cc,bt,ft,ct,by rw [HVl.out],by simp;omega,by simp;omega, ?_, ?_, ?_,by omega,by omega⟩
       ·rw [HCl.out]
        exact (HC.out.kept HB.out zc).step (Q04 W4 (w.heap.size+1+1) (.int .i64 m.id) (.int .i64 m.lim) (.bool m.dr) (.slice (some ⟨bc,fc,none⟩) m.c.length cc) (.slice (some ⟨bt,ft,none⟩) m.t.length ct)) (by have:=HB.out.size;omega) (.inl (by omega))
       ·rw [HTl.out]
        exact (HT.out.kept HB.out zt).step (Q04 W4 (w.heap.size+1+1) (.int .i64 m.id) (.int .i64 m.lim) (.bool m.dr) (.slice (some ⟨bc,fc,none⟩) m.c.length cc) (.slice (some ⟨bt,ft,none⟩) m.t.length ct)) (by have:=HB.out.size;omega) (.inl (by omega))
       ·exact Q07 HB.out (by omega) _ _ _ _ _
     |true=>
      have hlb':(k:Int)=(gl:Int) - 1:=of_decide_eq_true hlb
      have HLB:=Q00 hlb'
      clear hlb'
      by_cases hsf:sf=1
      ·have HVl:=Q00 (HV3.out.trans (if_pos hsf))
       have HCl:=Q00 (HC3.out.trans (if_pos hsf))
       have HTl:=Q00 (HT3.out.trans (if_pos hsf))
       clear HV3 HC3 HT3
       subst hsf
       go_enter Try.func68,Try.ntmps68
       have u5w:=u5
       have u6w:=u6
       obtain ⟨Ws,hWs⟩:∃W,(W0.alloc (.cells #[.int .i64 m.id,.int .i64 1] 41))=W:=⟨_,rfl⟩
       have hb_Ws:Below W0.heap.size W0 Ws:=by rw [←hWs];exact ((Below.refl _ _).alloc (Kaq _) _)
       replace z0:=bC hb_Ws z0 zz
       replace z1:=bC hb_Ws z1 zz
       replace z2:=bC hb_Ws z2 zz
       replace z3:=bC hb_Ws z3 zz
       replace z4:=bC hb_Ws z4 zz
       replace fz0:=bF hb_Ws fz0 zz
       replace fz1:=bF hb_Ws fz1 zz
       replace fz2:=bF hb_Ws fz2 zz
       replace fz3:=bF hb_Ws fz3 zz
       replace fz4:=bF hb_Ws fz4 zz
       replace zz:=Kbq zz hb_Ws.size
       replace u0:=bC hb_Ws u0 zu
       replace u1:=bC hb_Ws u1 zu
       replace u2:=bC hb_Ws u2 zu
       replace u3:=bC hb_Ws u3 zu
       replace u4:=bC hb_Ws u4 zu
       replace u5:=bC hb_Ws u5 zu
       replace u6:=bC hb_Ws u6 zu
       replace u7:=bC hb_Ws u7 zu
       replace zu:=Kbq zu hb_Ws.size
       replace r0:=bC hb_Ws r0 zr
       replace r1:=bC hb_Ws r1 zr
       replace r2:=bC hb_Ws r2 zr
       replace r3:=bC hb_Ws r3 zr
       replace r4:=bC hb_Ws r4 zr
       replace fr0:=bF hb_Ws fr0 zr
       replace fr1:=bF hb_Ws fr1 zr
       replace fr2:=bF hb_Ws fr2 zr
       replace fr3:=bF hb_Ws fr3 zr
       replace fr4:=bF hb_Ws fr4 zr
       replace zr:=Kbq zr hb_Ws.size
       replace HB:=Q00 (HB.out.trans (hb_Ws.mono HB.out.size))
       clear hb_Ws
       have zs:W0.heap.size < Ws.heap.size:=by rw [←hWs];simp
       have s0:Ws.cell? ⟨W0.heap.size,0,none⟩=some (.int .i64 m.id):=by rw [←hWs];simp [go_sem]
       have s1:Ws.cell? ⟨W0.heap.size,1,none⟩=some (.int .i64 1):=by rw [←hWs];simp [go_sem]
       go_wp2_with fail
       refine (H0.out _).mono ?_
       rintro e v1 ⟨rfl,hb⟩
       clear H0
       replace z0:=bC hb z0 zz
       replace z1:=bC hb z1 zz
       replace z2:=bC hb z2 zz
       replace z3:=bC hb z3 zz
       replace z4:=bC hb z4 zz
       replace fz0:=bF hb fz0 zz
       replace fz1:=bF hb fz1 zz
       replace fz2:=bF hb fz2 zz
       replace fz3:=bF hb fz3 zz
       replace fz4:=bF hb fz4 zz
       replace zz:=Kbq zz hb.size
       replace u0:=bC hb u0 zu
       replace u1:=bC hb u1 zu
       replace u2:=bC hb u2 zu
       replace u3:=bC hb u3 zu
       replace u4:=bC hb u4 zu
       replace u5:=bC hb u5 zu
       replace u6:=bC hb u6 zu
       replace u7:=bC hb u7 zu
       replace zu:=Kbq zu hb.size
       replace r0:=bC hb r0 zr
       replace r1:=bC hb r1 zr
       replace r2:=bC hb r2 zr
       replace r3:=bC hb r3 zr
       replace r4:=bC hb r4 zr
       replace fr0:=bF hb fr0 zr
       replace fr1:=bF hb fr1 zr
       replace fr2:=bF hb fr2 zr
       replace fr3:=bF hb fr3 zr
       replace fr4:=bF hb fr4 zr
       replace zr:=Kbq zr hb.size
       replace s0:=bC hb s0 zs
       replace s1:=bC hb s1 zs
       replace zs:=Kbq zs hb.size
       replace HB:=Q00 (HB.out.trans (hb.mono HB.out.size))
       clear hb
       go_wp2_with fail
       refine (H1.out v1 HB.out).mono ?_
       rintro e v2 ⟨rfl,hb⟩
       clear H1
       replace z0:=bC hb z0 zz
       replace z1:=bC hb z1 zz
       replace z2:=bC hb z2 zz
       replace z3:=bC hb z3 zz
       replace z4:=bC hb z4 zz
       replace fz0:=bF hb fz0 zz
       replace fz1:=bF hb fz1 zz
       replace fz2:=bF hb fz2 zz
       replace fz3:=bF hb fz3 zz
       replace fz4:=bF hb fz4 zz
       replace zz:=Kbq zz hb.size
       replace u0:=bC hb u0 zu
       replace u1:=bC hb u1 zu
       replace u2:=bC hb u2 zu
       replace u3:=bC hb u3 zu
       replace u4:=bC hb u4 zu
       replace u5:=bC hb u5 zu
       replace u6:=bC hb u6 zu
       replace u7:=bC hb u7 zu
       replace zu:=Kbq zu hb.size
       replace r0:=bC hb r0 zr
       replace r1:=bC hb r1 zr
       replace r2:=bC hb r2 zr
       replace r3:=bC hb r3 zr
       replace r4:=bC hb r4 zr
       replace fr0:=bF hb fr0 zr
       replace fr1:=bF hb fr1 zr
       replace fr2:=bF hb fr2 zr
       replace fr3:=bF hb fr3 zr
       replace fr4:=bF hb fr4 zr
       replace zr:=Kbq zr hb.size
       replace s0:=bC hb s0 zs
       replace s1:=bC hb s1 zs
       replace zs:=Kbq zs hb.size
       replace HB:=Q00 (HB.out.trans (hb.mono HB.out.size))
       clear hb
       obtain ⟨W4,hW4⟩:∃W,(v2.alloc (.cells #[.bool q.u,.int .i64 q.a,.int .i64 q.p,.int .i64 q.v,.int .i64 q.t] 84))=W:=⟨_,rfl⟩
       have hb_W4:Below v2.heap.size v2 W4:=by rw [←hW4];exact ((Below.refl _ _).alloc (Kaq _) _)
       replace z0:=bC hb_W4 z0 zz
       replace z1:=bC hb_W4 z1 zz
       replace z2:=bC hb_W4 z2 zz
       replace z3:=bC hb_W4 z3 zz
       replace z4:=bC hb_W4 z4 zz
       replace fz0:=bF hb_W4 fz0 zz
       replace fz1:=bF hb_W4 fz1 zz
       replace fz2:=bF hb_W4 fz2 zz
       replace fz3:=bF hb_W4 fz3 zz
       replace fz4:=bF hb_W4 fz4 zz
       replace zz:=Kbq zz hb_W4.size
       replace u0:=bC hb_W4 u0 zu
       replace u1:=bC hb_W4 u1 zu
       replace u2:=bC hb_W4 u2 zu
       replace u3:=bC hb_W4 u3 zu
       replace u4:=bC hb_W4 u4 zu
       replace u5:=bC hb_W4 u5 zu
       replace u6:=bC hb_W4 u6 zu
       replace u7:=bC hb_W4 u7 zu
       replace zu:=Kbq zu hb_W4.size
       replace r0:=bC hb_W4 r0 zr
       replace r1:=bC hb_W4 r1 zr
       replace r2:=bC hb_W4 r2 zr
       replace r3:=bC hb_W4 r3 zr
       replace r4:=bC hb_W4 r4 zr
       replace fr0:=bF hb_W4 fr0 zr
       replace fr1:=bF hb_W4 fr1 zr
       replace fr2:=bF hb_W4 fr2 zr
       replace fr3:=bF hb_W4 fr3 zr
       replace fr4:=bF hb_W4 fr4 zr
       replace zr:=Kbq zr hb_W4.size
       replace s0:=bC hb_W4 s0 zs
       replace s1:=bC hb_W4 s1 zs
       replace zs:=Kbq zs hb_W4.size
       replace HB:=Q00 (HB.out.trans (hb_W4.mono HB.out.size))
       clear hb_W4
       have zy:v2.heap.size < W4.heap.size:=by rw [←hW4];simp
       have y0:W4.cell? ⟨v2.heap.size,0,none⟩=some (.bool q.u):=by rw [←hW4];simp [go_sem]
       have y1:W4.cell? ⟨v2.heap.size,1,none⟩=some (.int .i64 q.a):=by rw [←hW4];simp [go_sem]
       have y2:W4.cell? ⟨v2.heap.size,2,none⟩=some (.int .i64 q.p):=by rw [←hW4];simp [go_sem]
       have y3:W4.cell? ⟨v2.heap.size,3,none⟩=some (.int .i64 q.v):=by rw [←hW4];simp [go_sem]
       have y4:W4.cell? ⟨v2.heap.size,4,none⟩=some (.int .i64 q.t):=by rw [←hW4];simp [go_sem]
       have hlb2:=HLB.out
       have hrz:=zr
       have hsc:=HB.out.size
       have H3:=Q00 (Q2n m bc fc cc bt ft ct now a p f s o n cp true W4 hn0 hn1 hfl hc0 hc16 ht0 ht16 (by omega) (by omega) (HC.out.kept HB.out zc) (HT.out.kept HB.out zt))
       obtain ⟨hv,hhv⟩:∃q,Q41 m a p true=q:=⟨_,rfl⟩
       rw [hhv] at H3 HVl
       clear hhv
       go_wp2_with fail
       refine (H3.out).mono ?_
       rintro e v3 ⟨b2,f2,c2,b3,f3,c3,rfl,hz2,hz3,hrc,hrt,hb,hq2,hq3⟩
       have HRc:=Q00 hrc
       have HRt:=Q00 hrt
       have hs3:=hb.size
       clear hrc hrt H3
       replace z0:=bC hb z0 zz
       replace z1:=bC hb z1 zz
       replace z2:=bC hb z2 zz
       replace z3:=bC hb z3 zz
       replace z4:=bC hb z4 zz
       replace fz0:=bF hb fz0 zz
       replace fz1:=bF hb fz1 zz
       replace fz2:=bF hb fz2 zz
       replace fz3:=bF hb fz3 zz
       replace fz4:=bF hb fz4 zz
       replace zz:=Kbq zz hb.size
       replace u0:=bC hb u0 zu
       replace u1:=bC hb u1 zu
       replace u2:=bC hb u2 zu
       replace u3:=bC hb u3 zu
       replace u4:=bC hb u4 zu
       replace u5:=bC hb u5 zu
       replace u6:=bC hb u6 zu
       replace u7:=bC hb u7 zu
       replace zu:=Kbq zu hb.size
       replace r0:=bC hb r0 zr
       replace r1:=bC hb r1 zr
       replace r2:=bC hb r2 zr
       replace r3:=bC hb r3 zr
       replace r4:=bC hb r4 zr
       replace fr0:=bF hb fr0 zr
       replace fr1:=bF hb fr1 zr
       replace fr2:=bF hb fr2 zr
       replace fr3:=bF hb fr3 zr
       replace fr4:=bF hb fr4 zr
       replace zr:=Kbq zr hb.size
       replace s0:=bC hb s0 zs
       replace s1:=bC hb s1 zs
       replace zs:=Kbq zs hb.size
       replace y0:=bC hb y0 zy
       replace y1:=bC hb y1 zy
       replace y2:=bC hb y2 zy
       replace y3:=bC hb y3 zy
       replace y4:=bC hb y4 zy
       replace zy:=Kbq zy hb.size
       replace HB:=Q00 (HB.out.trans (hb.mono HB.out.size))
       clear hb
       go_wp2
       refine bodyPost_ret (v:=.tuple #[agt m.id m.lim m.dr (.slice (some ⟨b2,f2,none⟩) m.c.length c2) (.slice (some ⟨b3,f3,none⟩) m.t.length c3),.int .i64 hv]) (by simp [results,Try.results68,go_sem,r0,r1,r2,r3,r4]) rfl ⟨b2,f2,c2,b3,f3,c3,by rw [HVl.out],by simp;omega,by simp;omega, ?_, ?_, ?_,by omega,by omega⟩
       ·rw [HCl.out]
        exact Row.step HRc.out (Q04 v3 (w.heap.size+1+1) (.int .i64 m.id) (.int .i64 m.lim) (.bool m.dr) (.slice (some ⟨b2,f2,none⟩) m.c.length c2) (.slice (some ⟨b3,f3,none⟩) m.t.length c3)) hz2 (by omega)
       ·rw [HTl.out]
        exact Row.step HRt.out (Q04 v3 (w.heap.size+1+1) (.int .i64 m.id) (.int .i64 m.lim) (.bool m.dr) (.slice (some ⟨b2,f2,none⟩) m.c.length c2) (.slice (some ⟨b3,f3,none⟩) m.t.length c3)) hz3 (by omega)
       ·exact Q07 HB.out (by omega) _ _ _ _ _
      ·have HV4:=Q00 (HV3.out.trans (if_neg hsf))
       have HVl:=Q00 (HV4.out.trans (if_pos rfl))
       have HCl:=Q00 (HC3.out.trans (if_neg hsf))
       have HTl:=Q00 (HT3.out.trans (if_neg hsf))
       clear HV3 HC3 HT3 HV4
       go_enter Try.func68,Try.ntmps68
       have u5w:=u5
       have u6w:=u6
       obtain ⟨Ws,hWs⟩:∃W,(W0.alloc (.cells #[.int .i64 m.id,.int .i64 sf] 41))=W:=⟨_,rfl⟩
       have hb_Ws:Below W0.heap.size W0 Ws:=by rw [←hWs];exact ((Below.refl _ _).alloc (Kaq _) _)
       replace z0:=bC hb_Ws z0 zz
       replace z1:=bC hb_Ws z1 zz
       replace z2:=bC hb_Ws z2 zz
       replace z3:=bC hb_Ws z3 zz
       replace z4:=bC hb_Ws z4 zz
       replace fz0:=bF hb_Ws fz0 zz
       replace fz1:=bF hb_Ws fz1 zz
       replace fz2:=bF hb_Ws fz2 zz
       replace fz3:=bF hb_Ws fz3 zz
       replace fz4:=bF hb_Ws fz4 zz
       replace zz:=Kbq zz hb_Ws.size
       replace u0:=bC hb_Ws u0 zu
       replace u1:=bC hb_Ws u1 zu
       replace u2:=bC hb_Ws u2 zu
       replace u3:=bC hb_Ws u3 zu
       replace u4:=bC hb_Ws u4 zu
       replace u5:=bC hb_Ws u5 zu
       replace u6:=bC hb_Ws u6 zu
       replace u7:=bC hb_Ws u7 zu
       replace zu:=Kbq zu hb_Ws.size
       replace r0:=bC hb_Ws r0 zr
       replace r1:=bC hb_Ws r1 zr
       replace r2:=bC hb_Ws r2 zr
       replace r3:=bC hb_Ws r3 zr
       replace r4:=bC hb_Ws r4 zr
       replace fr0:=bF hb_Ws fr0 zr
       replace fr1:=bF hb_Ws fr1 zr
       replace fr2:=bF hb_Ws fr2 zr
       replace fr3:=bF hb_Ws fr3 zr
       replace fr4:=bF hb_Ws fr4 zr
       replace zr:=Kbq zr hb_Ws.size
       replace HB:=Q00 (HB.out.trans (hb_Ws.mono HB.out.size))
       clear hb_Ws
       have zs:W0.heap.size < Ws.heap.size:=by rw [←hWs];simp
       have s0:Ws.cell? ⟨W0.heap.size,0,none⟩=some (.int .i64 m.id):=by rw [←hWs];simp [go_sem]
       have s1:Ws.cell? ⟨W0.heap.size,1,none⟩=some (.int .i64 sf):=by rw [←hWs];simp [go_sem]
       go_wp2_with fail
       refine (H0.out _).mono ?_
       rintro e v1 ⟨rfl,hb⟩
       clear H0
       replace z0:=bC hb z0 zz
       replace z1:=bC hb z1 zz
       replace z2:=bC hb z2 zz
       replace z3:=bC hb z3 zz
       replace z4:=bC hb z4 zz
       replace fz0:=bF hb fz0 zz
       replace fz1:=bF hb fz1 zz
       replace fz2:=bF hb fz2 zz
       replace fz3:=bF hb fz3 zz
       replace fz4:=bF hb fz4 zz
       replace zz:=Kbq zz hb.size
       replace u0:=bC hb u0 zu
       replace u1:=bC hb u1 zu
       replace u2:=bC hb u2 zu
       replace u3:=bC hb u3 zu
       replace u4:=bC hb u4 zu
       replace u5:=bC hb u5 zu
       replace u6:=bC hb u6 zu
       replace u7:=bC hb u7 zu
       replace zu:=Kbq zu hb.size
       replace r0:=bC hb r0 zr
       replace r1:=bC hb r1 zr
       replace r2:=bC hb r2 zr
       replace r3:=bC hb r3 zr
       replace r4:=bC hb r4 zr
       replace fr0:=bF hb fr0 zr
       replace fr1:=bF hb fr1 zr
       replace fr2:=bF hb fr2 zr
       replace fr3:=bF hb fr3 zr
       replace fr4:=bF hb fr4 zr
       replace zr:=Kbq zr hb.size
       replace s0:=bC hb s0 zs
       replace s1:=bC hb s1 zs
       replace zs:=Kbq zs hb.size
       replace HB:=Q00 (HB.out.trans (hb.mono HB.out.size))
       clear hb
       go_wp2_with fail
       refine (H1.out v1 HB.out).mono ?_
       rintro e v2 ⟨rfl,hb⟩
       clear H1
       replace z0:=bC hb z0 zz
       replace z1:=bC hb z1 zz
       replace z2:=bC hb z2 zz
       replace z3:=bC hb z3 zz
       replace z4:=bC hb z4 zz
       replace fz0:=bF hb fz0 zz
       replace fz1:=bF hb fz1 zz
       replace fz2:=bF hb fz2 zz
       replace fz3:=bF hb fz3 zz
       replace fz4:=bF hb fz4 zz
       replace zz:=Kbq zz hb.size
       replace u0:=bC hb u0 zu
       replace u1:=bC hb u1 zu
       replace u2:=bC hb u2 zu
       replace u3:=bC hb u3 zu
       replace u4:=bC hb u4 zu
       replace u5:=bC hb u5 zu
       replace u6:=bC hb u6 zu
       replace u7:=bC hb u7 zu
       replace zu:=Kbq zu hb.size
       replace r0:=bC hb r0 zr
       replace r1:=bC hb r1 zr
       replace r2:=bC hb r2 zr
       replace r3:=bC hb r3 zr
       replace r4:=bC hb r4 zr
       replace fr0:=bF hb fr0 zr
       replace fr1:=bF hb fr1 zr
       replace fr2:=bF hb fr2 zr
       replace fr3:=bF hb fr3 zr
       replace fr4:=bF hb fr4 zr
       replace zr:=Kbq zr hb.size
       replace s0:=bC hb s0 zs
       replace s1:=bC hb s1 zs
       replace zs:=Kbq zs hb.size
       replace HB:=Q00 (HB.out.trans (hb.mono HB.out.size))
       clear hb
       obtain ⟨W4,hW4⟩:∃W,(v2.alloc (.cells #[.bool q.u,.int .i64 q.a,.int .i64 q.p,.int .i64 q.v,.int .i64 q.t] 84))=W:=⟨_,rfl⟩
       have hb_W4:Below v2.heap.size v2 W4:=by rw [←hW4];exact ((Below.refl _ _).alloc (Kaq _) _)
       replace z0:=bC hb_W4 z0 zz
       replace z1:=bC hb_W4 z1 zz
       replace z2:=bC hb_W4 z2 zz
       replace z3:=bC hb_W4 z3 zz
       replace z4:=bC hb_W4 z4 zz
       replace fz0:=bF hb_W4 fz0 zz
       replace fz1:=bF hb_W4 fz1 zz
       replace fz2:=bF hb_W4 fz2 zz
       replace fz3:=bF hb_W4 fz3 zz
       replace fz4:=bF hb_W4 fz4 zz
       replace zz:=Kbq zz hb_W4.size
       replace u0:=bC hb_W4 u0 zu
       replace u1:=bC hb_W4 u1 zu
       replace u2:=bC hb_W4 u2 zu
       replace u3:=bC hb_W4 u3 zu
       replace u4:=bC hb_W4 u4 zu
       replace u5:=bC hb_W4 u5 zu
       replace u6:=bC hb_W4 u6 zu
       replace u7:=bC hb_W4 u7 zu
       replace zu:=Kbq zu hb_W4.size
       replace r0:=bC hb_W4 r0 zr
       replace r1:=bC hb_W4 r1 zr
       replace r2:=bC hb_W4 r2 zr
       replace r3:=bC hb_W4 r3 zr
       replace r4:=bC hb_W4 r4 zr
       replace fr0:=bF hb_W4 fr0 zr
       replace fr1:=bF hb_W4 fr1 zr
       replace fr2:=bF hb_W4 fr2 zr
       replace fr3:=bF hb_W4 fr3 zr
       replace fr4:=bF hb_W4 fr4 zr
       replace zr:=Kbq zr hb_W4.size
       replace s0:=bC hb_W4 s0 zs
       replace s1:=bC hb_W4 s1 zs
       replace zs:=Kbq zs hb_W4.size
       replace HB:=Q00 (HB.out.trans (hb_W4.mono HB.out.size))
       clear hb_W4
       have zy:v2.heap.size < W4.heap.size:=by rw [←hW4];simp
       have y0:W4.cell? ⟨v2.heap.size,0,none⟩=some (.bool q.u):=by rw [←hW4];simp [go_sem]
       have y1:W4.cell? ⟨v2.heap.size,1,none⟩=some (.int .i64 q.a):=by rw [←hW4];simp [go_sem]
       have y2:W4.cell? ⟨v2.heap.size,2,none⟩=some (.int .i64 q.p):=by rw [←hW4];simp [go_sem]
       have y3:W4.cell? ⟨v2.heap.size,3,none⟩=some (.int .i64 q.v):=by rw [←hW4];simp [go_sem]
       have y4:W4.cell? ⟨v2.heap.size,4,none⟩=some (.int .i64 q.t):=by rw [←hW4];simp [go_sem]
       have hlb2:=HLB.out
       go_wp2
       refine bodyPost_ret (v:=.tuple #[agt m.id m.lim m.dr (.slice (some ⟨bc,fc,none⟩) m.c.length cc) (.slice (some ⟨bt,ft,none⟩) m.t.length ct),.int .i64 3]) (by simp [results,Try.results68,go_sem,r0,r1,r2,r3,r4]) rfl ⟨bc,fc,cc,bt,ft,ct,by rw [HVl.out],by simp;omega,by simp;omega, ?_, ?_, ?_,by omega,by omega⟩
       ·rw [HCl.out]
        exact (HC.out.kept HB.out zc).step (Q04 W4 (w.heap.size+1+1) (.int .i64 m.id) (.int .i64 m.lim) (.bool m.dr) (.slice (some ⟨bc,fc,none⟩) m.c.length cc) (.slice (some ⟨bt,ft,none⟩) m.t.length ct)) (by have:=HB.out.size;omega) (.inl (by omega))
       ·rw [HTl.out]
        exact (HT.out.kept HB.out zt).step (Q04 W4 (w.heap.size+1+1) (.int .i64 m.id) (.int .i64 m.lim) (.bool m.dr) (.slice (some ⟨bc,fc,none⟩) m.c.length cc) (.slice (some ⟨bt,ft,none⟩) m.t.length ct)) (by have:=HB.out.size;omega) (.inl (by omega))
       ·exact Q07 HB.out (by omega) _ _ _ _ _
 ·have HVl:=Q00 (HV.out.trans (if_neg h1))
  have HCl:=Q00 (HHC.out.trans (if_neg h1))
  have HTl:=Q00 (HHT.out.trans (if_neg h1))
  clear HV HHC HHT H0 H1
  go_enter Try.func68,Try.ntmps68
  have u5w:=u5
  have u6w:=u6
  obtain ⟨Ws,hWs⟩:∃W,(W0.alloc (.cells #[.int .i64 sb,.int .i64 sf] 41))=W:=⟨_,rfl⟩
  have hb_Ws:Below W0.heap.size W0 Ws:=by rw [←hWs];exact ((Below.refl _ _).alloc (Kaq _) _)
  replace z0:=bC hb_Ws z0 zz
  replace z1:=bC hb_Ws z1 zz
  replace z2:=bC hb_Ws z2 zz
  replace z3:=bC hb_Ws z3 zz
  replace z4:=bC hb_Ws z4 zz
  replace fz0:=bF hb_Ws fz0 zz
  replace fz1:=bF hb_Ws fz1 zz
  replace fz2:=bF hb_Ws fz2 zz
  replace fz3:=bF hb_Ws fz3 zz
  replace fz4:=bF hb_Ws fz4 zz
  replace zz:=Kbq zz hb_Ws.size
  replace u0:=bC hb_Ws u0 zu
  replace u1:=bC hb_Ws u1 zu
  replace u2:=bC hb_Ws u2 zu
  replace u3:=bC hb_Ws u3 zu
  replace u4:=bC hb_Ws u4 zu
  replace u5:=bC hb_Ws u5 zu
  replace u6:=bC hb_Ws u6 zu
  replace u7:=bC hb_Ws u7 zu
  replace zu:=Kbq zu hb_Ws.size
  replace r0:=bC hb_Ws r0 zr
  replace r1:=bC hb_Ws r1 zr
  replace r2:=bC hb_Ws r2 zr
  replace r3:=bC hb_Ws r3 zr
  replace r4:=bC hb_Ws r4 zr
  replace fr0:=bF hb_Ws fr0 zr
  replace fr1:=bF hb_Ws fr1 zr
  replace fr2:=bF hb_Ws fr2 zr
  replace fr3:=bF hb_Ws fr3 zr
  replace fr4:=bF hb_Ws fr4 zr
  replace zr:=Kbq zr hb_Ws.size
  replace HB:=Q00 (HB.out.trans (hb_Ws.mono HB.out.size))
  clear hb_Ws
  have zs:W0.heap.size < Ws.heap.size:=by rw [←hWs];simp
  have s0:Ws.cell? ⟨W0.heap.size,0,none⟩=some (.int .i64 sb):=by rw [←hWs];simp [go_sem]
  have s1:Ws.cell? ⟨W0.heap.size,1,none⟩=some (.int .i64 sf):=by rw [←hWs];simp [go_sem]
  go_wp2
  refine bodyPost_ret (v:=.tuple #[agt m.id m.lim m.dr (.slice (some ⟨bc,fc,none⟩) m.c.length cc) (.slice (some ⟨bt,ft,none⟩) m.t.length ct),.int .i64 6]) (by simp [results,Try.results68,go_sem,r0,r1,r2,r3,r4]) rfl ⟨bc,fc,cc,bt,ft,ct,by rw [HVl.out],by simp;omega,by simp;omega, ?_, ?_, ?_,by omega,by omega⟩
  ·rw [HCl.out]
   exact (HC.out.kept HB.out zc).step (Q04 Ws (w.heap.size+1+1) (.int .i64 m.id) (.int .i64 m.lim) (.bool m.dr) (.slice (some ⟨bc,fc,none⟩) m.c.length cc) (.slice (some ⟨bt,ft,none⟩) m.t.length ct)) (by have:=HB.out.size;omega) (.inl (by omega))
  ·rw [HTl.out]
   exact (HT.out.kept HB.out zt).step (Q04 Ws (w.heap.size+1+1) (.int .i64 m.id) (.int .i64 m.lim) (.bool m.dr) (.slice (some ⟨bc,fc,none⟩) m.c.length cc) (.slice (some ⟨bt,ft,none⟩) m.t.length ct)) (by have:=HB.out.size;omega) (.inl (by omega))
  ·exact Q07 HB.out (by omega) _ _ _ _ _
abbrev Q3b (vc vt:Value) (i l:Int) (d:Bool) (a p f s:Int) (vp vg:Value) (k st now:Int):Value:=.agg #[vc,vt,.int .i64 i,.int .i64 l,.bool d,.int .i64 a,.int .i64 p,.int .i64 f,.int .i64 s,vp,vg,.int .i64 k,.int .i64 st,.int .i64 now]
theorem Q0t (o1 o2 o3:Option Addr) (n1 c1 n2 c2 n3 c3 bg fg gl cg k:Nat) (i l:Int) (d:Bool) (a p f s st now:Int) (w:World):Calls Try.prog 80 #[Q3b (.slice o1 n1 c1) (.slice o2 n2 c2) i l d a p f s (.slice o3 n3 c3) (.slice (some ⟨bg,fg,none⟩) gl cg) (k:Int) st now] w fun e w'=> e=.returned (Q2S a p)∧Below w.heap.size w w':=by
 obtain ⟨W0,hW0⟩:∃W,((w.alloc (.cells #[.slice o1 n1 c1,.slice o2 n2 c2,.int .i64 i,.int .i64 l,.bool d,.int .i64 a,.int .i64 p,.int .i64 f,.int .i64 s,.slice o3 n3 c3,.slice (some ⟨bg,fg,none⟩) gl cg,.int .i64 (k:Int),.int .i64 st,.int .i64 now] 74)).alloc (.cells #[.int .i64 0,.int .i64 0] 29))=W:=⟨_,rfl⟩
 have hb_W0:Below w.heap.size w W0:=by rw [←hW0];exact (((Below.refl _ _).alloc (Kaq _) _).alloc (by simp <;> omega) _)
 have HB:=Q00 hb_W0
 clear hb_W0
 have zz:w.heap.size < W0.heap.size:=by rw [←hW0];simp <;> omega
 have z0:W0.cell? ⟨w.heap.size,0,none⟩=some (.slice o1 n1 c1):=by rw [←hW0];simp [go_sem]
 have z1:W0.cell? ⟨w.heap.size,1,none⟩=some (.slice o2 n2 c2):=by rw [←hW0];simp [go_sem]
 have z2:W0.cell? ⟨w.heap.size,2,none⟩=some (.int .i64 i):=by rw [←hW0];simp [go_sem]
 have z3:W0.cell? ⟨w.heap.size,3,none⟩=some (.int .i64 l):=by rw [←hW0];simp [go_sem]
 have z4:W0.cell? ⟨w.heap.size,4,none⟩=some (.bool d):=by rw [←hW0];simp [go_sem]
 have z5:W0.cell? ⟨w.heap.size,5,none⟩=some (.int .i64 a):=by rw [←hW0];simp [go_sem]
 have z6:W0.cell? ⟨w.heap.size,6,none⟩=some (.int .i64 p):=by rw [←hW0];simp [go_sem]
 have z7:W0.cell? ⟨w.heap.size,7,none⟩=some (.int .i64 f):=by rw [←hW0];simp [go_sem]
 have z8:W0.cell? ⟨w.heap.size,8,none⟩=some (.int .i64 s):=by rw [←hW0];simp [go_sem]
 have z9:W0.cell? ⟨w.heap.size,9,none⟩=some (.slice o3 n3 c3):=by rw [←hW0];simp [go_sem]
 have z10:W0.cell? ⟨w.heap.size,10,none⟩=some (.slice (some ⟨bg,fg,none⟩) gl cg):=by rw [←hW0];simp [go_sem]
 have z11:W0.cell? ⟨w.heap.size,11,none⟩=some (.int .i64 (k:Int)):=by rw [←hW0];simp [go_sem]
 have z12:W0.cell? ⟨w.heap.size,12,none⟩=some (.int .i64 st):=by rw [←hW0];simp [go_sem]
 have z13:W0.cell? ⟨w.heap.size,13,none⟩=some (.int .i64 now):=by rw [←hW0];simp [go_sem]
 have zr:w.heap.size+1 < W0.heap.size:=by rw [←hW0];simp
 have r0:W0.cell? ⟨w.heap.size+1,0,none⟩=some (.int .i64 0):=by rw [←hW0];simp [go_sem]
 have r1:W0.cell? ⟨w.heap.size+1,1,none⟩=some (.int .i64 0):=by rw [←hW0];simp [go_sem]
 have fr0:W0.frozen? ⟨w.heap.size+1,0,none⟩=false:=by rw [←hW0];simp [go_sem]
 have fr1:W0.frozen? ⟨w.heap.size+1,1,none⟩=false:=by rw [←hW0];simp [go_sem]
 go_enter Try.func80,Try.ntmps80
 go_wp2
 refine bodyPost_ret (v:=Q2S a p) (by simp [results,Try.results80,go_sem,r0,r1]) rfl ⟨rfl, ?_⟩
 exact (HB.out.setCell (p:=⟨w.heap.size+1,0,none⟩) (by simp) _).setCell (p:=⟨w.heap.size+1,1,none⟩) (by simp) _
theorem Q0J (o1 o2 o3:Option Addr) (n1 c1 n2 c2 n3 c3 bg fg gl cg k:Nat) (i l:Int) (d:Bool) (a p f s st now:Int) (w:World) (hk:k < gl) (hgl:gl≤1048576):Calls Try.prog 84 #[Q3b (.slice o1 n1 c1) (.slice o2 n2 c2) i l d a p f s (.slice o3 n3 c3) (.slice (some ⟨bg,fg,none⟩) gl cg) (k:Int) st now] w fun e w'=> e=.returned (.bool (Q0M k gl))∧Below w.heap.size w w':=by
 have hw2:IntKind.i64.wrap ((gl:Int) - 1)=(gl:Int) - 1:=by rw [IntKind.wrap_i64];omega
 obtain ⟨W0,hW0⟩:∃W,(w.alloc (.cells #[.slice o1 n1 c1,.slice o2 n2 c2,.int .i64 i,.int .i64 l,.bool d,.int .i64 a,.int .i64 p,.int .i64 f,.int .i64 s,.slice o3 n3 c3,.slice (some ⟨bg,fg,none⟩) gl cg,.int .i64 (k:Int),.int .i64 st,.int .i64 now] 74))=W:=⟨_,rfl⟩
 have hb_W0:Below w.heap.size w W0:=by rw [←hW0];exact ((Below.refl _ _).alloc (Kaq _) _)
 have HB:=Q00 hb_W0
 clear hb_W0
 have zz:w.heap.size < W0.heap.size:=by rw [←hW0];simp
 have z0:W0.cell? ⟨w.heap.size,0,none⟩=some (.slice o1 n1 c1):=by rw [←hW0];simp [go_sem]
 have z1:W0.cell? ⟨w.heap.size,1,none⟩=some (.slice o2 n2 c2):=by rw [←hW0];simp [go_sem]
 have z2:W0.cell? ⟨w.heap.size,2,none⟩=some (.int .i64 i):=by rw [←hW0];simp [go_sem]
 have z3:W0.cell? ⟨w.heap.size,3,none⟩=some (.int .i64 l):=by rw [←hW0];simp [go_sem]
 have z4:W0.cell? ⟨w.heap.size,4,none⟩=some (.bool d):=by rw [←hW0];simp [go_sem]
 have z5:W0.cell? ⟨w.heap.size,5,none⟩=some (.int .i64 a):=by rw [←hW0];simp [go_sem]
 have z6:W0.cell? ⟨w.heap.size,6,none⟩=some (.int .i64 p):=by rw [←hW0];simp [go_sem]
 have z7:W0.cell? ⟨w.heap.size,7,none⟩=some (.int .i64 f):=by rw [←hW0];simp [go_sem]
 have z8:W0.cell? ⟨w.heap.size,8,none⟩=some (.int .i64 s):=by rw [←hW0];simp [go_sem]
 have z9:W0.cell? ⟨w.heap.size,9,none⟩=some (.slice o3 n3 c3):=by rw [←hW0];simp [go_sem]
 have z10:W0.cell? ⟨w.heap.size,10,none⟩=some (.slice (some ⟨bg,fg,none⟩) gl cg):=by rw [←hW0];simp [go_sem]
 have z11:W0.cell? ⟨w.heap.size,11,none⟩=some (.int .i64 (k:Int)):=by rw [←hW0];simp [go_sem]
 have z12:W0.cell? ⟨w.heap.size,12,none⟩=some (.int .i64 st):=by rw [←hW0];simp [go_sem]
 have z13:W0.cell? ⟨w.heap.size,13,none⟩=some (.int .i64 now):=by rw [←hW0];simp [go_sem]
 go_enter Try.func84,Try.ntmps84
 go_wp2
 first|(go_region)|skip
 all_goals go_wp2
 all_goals go_ret
 all_goals refine ⟨Q0i ?_, ?_⟩
 all_goals first|exact HB.out|exact Below.drew HB.out|(unfold Q0M;exact (beq_eq_decide _ _))|(unfold Q0M;rfl)|(unfold Q0M;simp)
theorem Q3o (o1 o2 o3:Option Addr) (n1 c1 n2 c2 n3 c3 bg fg gl cg k:Nat) (i l:Int) (d:Bool) (a p f s st now:Int) (sb sf:Int) (w:World) (hk:k < gl) (hgl:gl≤1048576) (zg:bg < w.heap.size) (hs0:w.cell? ⟨bg,fg+k * 2,none⟩=some (.int .i64 sb)) (hs1:w.cell? ⟨bg,fg+k * 2+1,none⟩=some (.int .i64 sf)):
  Calls Try.prog 79 #[Q3b (.slice o1 n1 c1) (.slice o2 n2 c2) i l d a p f s (.slice o3 n3 c3) (.slice (some ⟨bg,fg,none⟩) gl cg) (k:Int) st now] w fun e w'=> e=.returned (.agg #[.int .i64 sb,.int .i64 sf])∧Below w.heap.size w w':=by
 have hki:(k:Int) < (gl:Int):=by omega
 have hk0:(0:Int)≤(k:Int):=by omega
 obtain ⟨W0,hW0⟩:∃W,((w.alloc (.cells #[.slice o1 n1 c1,.slice o2 n2 c2,.int .i64 i,.int .i64 l,.bool d,.int .i64 a,.int .i64 p,.int .i64 f,.int .i64 s,.slice o3 n3 c3,.slice (some ⟨bg,fg,none⟩) gl cg,.int .i64 (k:Int),.int .i64 st,.int .i64 now] 74)).alloc (.cells #[.int .i64 0,.int .i64 0] 41))=W:=⟨_,rfl⟩
 have hb_W0:Below w.heap.size w W0:=by rw [←hW0];exact (((Below.refl _ _).alloc (Kaq _) _).alloc (by simp <;> omega) _)
 have HB:=Q00 hb_W0
 clear hb_W0
 have zz:w.heap.size < W0.heap.size:=by rw [←hW0];simp <;> omega
 have z0:W0.cell? ⟨w.heap.size,0,none⟩=some (.slice o1 n1 c1):=by rw [←hW0];simp [go_sem]
 have z1:W0.cell? ⟨w.heap.size,1,none⟩=some (.slice o2 n2 c2):=by rw [←hW0];simp [go_sem]
 have z2:W0.cell? ⟨w.heap.size,2,none⟩=some (.int .i64 i):=by rw [←hW0];simp [go_sem]
 have z3:W0.cell? ⟨w.heap.size,3,none⟩=some (.int .i64 l):=by rw [←hW0];simp [go_sem]
 have z4:W0.cell? ⟨w.heap.size,4,none⟩=some (.bool d):=by rw [←hW0];simp [go_sem]
 have z5:W0.cell? ⟨w.heap.size,5,none⟩=some (.int .i64 a):=by rw [←hW0];simp [go_sem]
 have z6:W0.cell? ⟨w.heap.size,6,none⟩=some (.int .i64 p):=by rw [←hW0];simp [go_sem]
 have z7:W0.cell? ⟨w.heap.size,7,none⟩=some (.int .i64 f):=by rw [←hW0];simp [go_sem]
 have z8:W0.cell? ⟨w.heap.size,8,none⟩=some (.int .i64 s):=by rw [←hW0];simp [go_sem]
 have z9:W0.cell? ⟨w.heap.size,9,none⟩=some (.slice o3 n3 c3):=by rw [←hW0];simp [go_sem]
 have z10:W0.cell? ⟨w.heap.size,10,none⟩=some (.slice (some ⟨bg,fg,none⟩) gl cg):=by rw [←hW0];simp [go_sem]
 have z11:W0.cell? ⟨w.heap.size,11,none⟩=some (.int .i64 (k:Int)):=by rw [←hW0];simp [go_sem]
 have z12:W0.cell? ⟨w.heap.size,12,none⟩=some (.int .i64 st):=by rw [←hW0];simp [go_sem]
 have z13:W0.cell? ⟨w.heap.size,13,none⟩=some (.int .i64 now):=by rw [←hW0];simp [go_sem]
 have zr:w.heap.size+1 < W0.heap.size:=by rw [←hW0];simp
 have r0:W0.cell? ⟨w.heap.size+1,0,none⟩=some (.int .i64 0):=by rw [←hW0];simp [go_sem]
 have r1:W0.cell? ⟨w.heap.size+1,1,none⟩=some (.int .i64 0):=by rw [←hW0];simp [go_sem]
 have fr0:W0.frozen? ⟨w.heap.size+1,0,none⟩=false:=by rw [←hW0];simp [go_sem]
 have fr1:W0.frozen? ⟨w.heap.size+1,1,none⟩=false:=by rw [←hW0];simp [go_sem]
 have g0:=(HB.out.cell (p:=⟨bg,fg+k * 2,none⟩) zg).trans hs0
 have g1:=(HB.out.cell (p:=⟨bg,fg+k * 2+1,none⟩) zg).trans hs1
 go_enter Try.func79,Try.ntmps79
 go_wp2
 refine bodyPost_ret (v:=.agg #[.int .i64 sb,.int .i64 sf]) (by simp [results,Try.results79,go_sem,r0,r1]) rfl ⟨rfl, ?_⟩
 exact (HB.out.setCell (p:=⟨w.heap.size+1,0,none⟩) (by simp) _).setCell (p:=⟨w.heap.size+1,1,none⟩) (by simp) _
theorem Q1p (b off c:Nat) (l:List Sl) (w:World) (hbl:b < w.heap.size) (hc:Row w b off l) (hl:l.length≤1048576):
  Calls Try.prog 86 #[.agg #[.slice (some ⟨b,off,none⟩) l.length c]] w fun e w'=> e=.returned (.int .i64 (Q0y l))∧Below w.heap.size w w':=by
 have HC:=Q00 hc
 clear hc
 obtain ⟨W0,hW0⟩:∃W,(w.alloc (.cells #[.slice (some ⟨b,off,none⟩) l.length c] 65))=W:=⟨_,rfl⟩
 have hb_W0:Below w.heap.size w W0:=by rw [←hW0];exact ((Below.refl _ _).alloc (Kaq _) _)
 have HB:=Q00 hb_W0
 clear hb_W0
 have zz:w.heap.size < W0.heap.size:=by rw [←hW0];simp
 have z0:W0.cell? ⟨w.heap.size,0,none⟩=some (.slice (some ⟨b,off,none⟩) l.length c):=by rw [←hW0];simp [go_sem]
 have H1:=Q00 (Q6S b off c l W0 (Kbq hbl HB.out.size) (Row.kept HC.out HB.out hbl) hl)
 have hln:(Q1a l l.length).length=Q0y l:=Q3p l l.length
 go_enter Try.func86,Try.ntmps86
 go_wp2_with fail
 refine (H1.out).mono ?_
 rintro e v1 ⟨v,rfl,hown,hb⟩
 obtain ⟨o,co,hve,_⟩:=(InL.rd (L:=Q7a) (InRow.of hown:InL Q7a 29 _ _ _ _ _))
 subst hve
 rw [hln]
 clear hown H1
 replace z0:=bC hb z0 zz
 replace zz:=Kbq zz hb.size
 replace HB:=Q00 (HB.out.trans (hb.mono HB.out.size))
 clear hb
 go_wp2
 go_ret
 exact ⟨rfl,HB.out⟩
theorem Q6o (b off c:Nat) (l:List Sl) (w:World) (hbl:b < w.heap.size) (hc:Row w b off l) (hl:l.length≤1048576):
  Calls Try.prog 101 #[.agg #[.slice (some ⟨b,off,none⟩) l.length c]] w fun e w'=> e=.returned (.bool ((Q0y l:Int)==(l.length:Int)))∧Below w.heap.size w w':=by
 have HC:=Q00 hc
 clear hc
 obtain ⟨W0,hW0⟩:∃W,(w.alloc (.cells #[.slice (some ⟨b,off,none⟩) l.length c] 65))=W:=⟨_,rfl⟩
 have hb_W0:Below w.heap.size w W0:=by rw [←hW0];exact ((Below.refl _ _).alloc (Kaq _) _)
 have HB:=Q00 hb_W0
 clear hb_W0
 have zz:w.heap.size < W0.heap.size:=by rw [←hW0];simp
 have z0:W0.cell? ⟨w.heap.size,0,none⟩=some (.slice (some ⟨b,off,none⟩) l.length c):=by rw [←hW0];simp [go_sem]
 have HCn:=Q00 (fun pp:Grown W0=> Q1p b off c l pp.v (Kbq (Kbq hbl HB.out.size) pp.b.size) (Row.kept (Row.kept HC.out HB.out hbl) pp.b (Kbq hbl HB.out.size)) hl)
 have GZ:=Grown.cell z0 zz
 go_enter Try.func101,Try.ntmps101
 go_wp2
 (refine Q05 (by kernel_rfl) (by kernel_rfl) ?_;intro hne9;(repeat (go_big_quiet_step ((go_at_call 86;exact Q09 _ (HCn.out _)))));(with_reducible refine wpQuiet_nil ?_);intro _ hw9;obtain ⟨pq,hw8⟩:=hw9;subst hw8)
 go_wp2
 go_ret
 exact ⟨rfl,HB.out.trans (pq.b.mono HB.out.size)⟩
def Q1g (l:List Sl) (d:Bool):Bool:= !d && !((Q0y l:Int)==(l.length:Int))
theorem Q1e (b off c:Nat) (l:List Sl) (o2:Option Addr) (n2 c2:Nat) (i lm:Int) (d:Bool) (w:World) (hbl:b < w.heap.size) (hc:Row w b off l) (hl:l.length≤1048576):
  Calls Try.prog 85 #[agi (.slice (some ⟨b,off,none⟩) l.length c) (.slice o2 n2 c2) i lm d] w fun e w'=> e=.returned (.bool (Q1g l d))∧Below w.heap.size w w':=by
 have HC:=Q00 hc
 clear hc
 obtain ⟨W0,hW0⟩:∃W,(w.alloc (.cells #[.slice (some ⟨b,off,none⟩) l.length c,.slice o2 n2 c2,.int .i64 i,.int .i64 lm,.bool d] 68))=W:=⟨_,rfl⟩
 have hb_W0:Below w.heap.size w W0:=by rw [←hW0];exact ((Below.refl _ _).alloc (Kaq _) _)
 have HB:=Q00 hb_W0
 clear hb_W0
 have zz:w.heap.size < W0.heap.size:=by rw [←hW0];simp
 have z0:W0.cell? ⟨w.heap.size,0,none⟩=some (.slice (some ⟨b,off,none⟩) l.length c):=by rw [←hW0];simp [go_sem]
 have z1:W0.cell? ⟨w.heap.size,1,none⟩=some (.slice o2 n2 c2):=by rw [←hW0];simp [go_sem]
 have z2:W0.cell? ⟨w.heap.size,2,none⟩=some (.int .i64 i):=by rw [←hW0];simp [go_sem]
 have z3:W0.cell? ⟨w.heap.size,3,none⟩=some (.int .i64 lm):=by rw [←hW0];simp [go_sem]
 have z4:W0.cell? ⟨w.heap.size,4,none⟩=some (.bool d):=by rw [←hW0];simp [go_sem]
 have H1:=Q00 (Q6o b off c l W0 (Kbq hbl HB.out.size) (Row.kept HC.out HB.out hbl) hl)
 have HE:=Q00 (show Q1g l d=(!d && !((Q0y l:Int)==(l.length:Int))) from rfl)
 obtain ⟨fu,hfu⟩:∃q,((Q0y l:Int)==(l.length:Int))=q:=⟨_,rfl⟩
 rw [hfu] at H1 HE
 clear hfu
 cases d with
 |true=>
  go_enter Try.func85,Try.ntmps85
  go_wp2
  go_ret
  exact ⟨by rw [HE.out];rfl,HB.out⟩
 |false=>
  go_enter Try.func85,Try.ntmps85
  go_wp2_with fail
  refine (H1.out).mono ?_
  rintro e v1 ⟨rfl,hb⟩
  replace z0:=bC hb z0 zz
  replace z1:=bC hb z1 zz
  replace z2:=bC hb z2 zz
  replace z3:=bC hb z3 zz
  replace z4:=bC hb z4 zz
  replace zz:=Kbq zz hb.size
  replace HB:=Q00 (HB.out.trans (hb.mono HB.out.size))
  clear hb
  go_wp2
  go_ret
  exact ⟨by rw [HE.out];rfl,HB.out⟩
theorem Q4Z (g c base:Nat) (l:List Sl) (a p f s now:Int) (o:Option Addr) (n cp:Nat) (w:World) (hn:0 < l.length) (hl:l.length≤1048576) (hfl:Q0c a p=true) (hn0:0≤now) (hn1:now≤100000) (ho:w.ownsRow base Q0k 5 (.slice (some ⟨g,0,none⟩) l.length c) l.length (l.flatMap Q0e.cs)):
  Calls Try.prog 83 #[.agg #[.slice (some ⟨g,0,none⟩) l.length c],.agg #[.int .i64 a,.int .i64 p,.int .i64 f,.int .i64 s,.slice o n cp],.int .i64 now] w fun e w'=> (∃v,e=.returned v)∧w'.ownsRow base Q0k 5 (.slice (some ⟨g,0,none⟩) l.length c) l.length ((Q11 l a p s (now+50)).flatMap Q0e.cs)∧Stp g (g+1) w w':=by
 have hw1:IntKind.i64.wrap (now+50)=now+50:=by rw [IntKind.wrap_i64];omega
 have HO:=Q00 ho
 clear ho
 obtain ⟨W0,hW0⟩:∃W,((w.alloc (.cells #[.slice (some ⟨g,0,none⟩) l.length c] 65)).alloc (.cells #[.int .i64 a,.int .i64 p,.int .i64 f,.int .i64 s,.slice o n cp] 31))=W:=⟨_,rfl⟩
 have hb_W0:Below w.heap.size w W0:=by rw [←hW0];exact (((Below.refl _ _).alloc (Kaq _) _).alloc (by simp <;> omega) _)
 have HB:=Q00 hb_W0
 clear hb_W0
 have zz:w.heap.size < W0.heap.size:=by rw [←hW0];simp <;> omega
 have z0:W0.cell? ⟨w.heap.size,0,none⟩=some (.slice (some ⟨g,0,none⟩) l.length c):=by rw [←hW0];simp [go_sem]
 have zk:w.heap.size+1 < W0.heap.size:=by rw [←hW0];simp
 have k0:W0.cell? ⟨w.heap.size+1,0,none⟩=some (.int .i64 a):=by rw [←hW0];simp [go_sem]
 have k1:W0.cell? ⟨w.heap.size+1,1,none⟩=some (.int .i64 p):=by rw [←hW0];simp [go_sem]
 have k2:W0.cell? ⟨w.heap.size+1,2,none⟩=some (.int .i64 f):=by rw [←hW0];simp [go_sem]
 have k3:W0.cell? ⟨w.heap.size+1,3,none⟩=some (.int .i64 s):=by rw [←hW0];simp [go_sem]
 have k4:W0.cell? ⟨w.heap.size+1,4,none⟩=some (.slice o n cp):=by rw [←hW0];simp [go_sem]
 have H1:=Q00 (Q6D g c base l a p s (now+50) W0 hn hl hfl (Q0a HO.out HB.out))
 have HS0:Hid (Stp g (g+1) w W0):=Stp.of HB.out
 generalize Q11 l a p s (now+50)=tl at *
 generalize decide (0≤(Q0m l a p).1)=tb at *
 go_enter Try.func83,Try.ntmps83
 go_wp2_with fail
 refine H1.out.mono ?_
 rintro e v1 ⟨rfl,ho1,st1⟩
 have HO1:=Q00 ho1
 have HS1:Hid (Stp g (g+1) w v1):=HS0.out.trans st1
 clear ho1 st1 H1
 go_wp2
 refine bodyPost_end (v:=.tuple #[]) (by simp [results,Try.results83,go_sem]) rfl ⟨⟨_,rfl⟩,HO1.out,HS1.out⟩
theorem Q1Z (g c base:Nat) (l:List Sl) (a p now:Int) (w:World) (hn:0 < l.length) (hl:l.length≤1048576) (hfl:Q0c a p=true) (hn0:0≤now) (hn1:now≤100000) (ho:w.ownsRow base Q0k 5 (.slice (some ⟨g,0,none⟩) l.length c) l.length (l.flatMap Q0e.cs)):
  Calls Try.prog 82 #[.agg #[.slice (some ⟨g,0,none⟩) l.length c],Q2S a p,.int .i64 now] w fun e w'=> e=.returned (.bool (decide (0≤(Q0m l a p).1)))∧w'.ownsRow base Q0k 5 (.slice (some ⟨g,0,none⟩) l.length c) l.length ((Q11 l a p 0 (now+21)).flatMap Q0e.cs)∧Stp g (g+1) w w':=by
 have hw1:IntKind.i64.wrap (now+21)=now+21:=by rw [IntKind.wrap_i64];omega
 have HO:=Q00 ho
 clear ho
 obtain ⟨W0,hW0⟩:∃W,((w.alloc (.cells #[.slice (some ⟨g,0,none⟩) l.length c] 66)).alloc (.cells #[.int .i64 a,.int .i64 p] 29))=W:=⟨_,rfl⟩
 have hb_W0:Below w.heap.size w W0:=by rw [←hW0];exact (((Below.refl _ _).alloc (Kaq _) _).alloc (by simp <;> omega) _)
 have HB:=Q00 hb_W0
 clear hb_W0
 have zz:w.heap.size < W0.heap.size:=by rw [←hW0];simp <;> omega
 have z0:W0.cell? ⟨w.heap.size,0,none⟩=some (.slice (some ⟨g,0,none⟩) l.length c):=by rw [←hW0];simp [go_sem]
 have zk:w.heap.size+1 < W0.heap.size:=by rw [←hW0];simp
 have k0:W0.cell? ⟨w.heap.size+1,0,none⟩=some (.int .i64 a):=by rw [←hW0];simp [go_sem]
 have k1:W0.cell? ⟨w.heap.size+1,1,none⟩=some (.int .i64 p):=by rw [←hW0];simp [go_sem]
 have H1:=Q00 (Q6D g c base l a p 0 (now+21) W0 hn hl hfl (Q0a HO.out HB.out))
 have HS0:Hid (Stp g (g+1) w W0):=Stp.of HB.out
 generalize Q11 l a p 0 (now+21)=tl at *
 obtain ⟨tb,htb⟩:∃q,decide (0≤(Q0m l a p).1)=q:=⟨_,rfl⟩
 rw [htb] at H1 ⊢
 clear htb
 go_enter Try.func82,Try.ntmps82
 go_wp2_with fail
 refine H1.out.mono ?_
 rintro e v1 ⟨rfl,ho1,st1⟩
 have HO1:=Q00 ho1
 have HS1:Hid (Stp g (g+1) w v1):=HS0.out.trans st1
 clear ho1 st1 H1
 go_wp2
 go_ret
 exact ⟨rfl,HO1.out,HS1.out⟩
theorem Q8r (sb sf:Int) (w:World):(Instr.field 41 (.agg #[.int .i64 sb,.int .i64 sf]) 0).run Try.prog w=.ok (.int .i64 sb) w:=by kernel_rfl
theorem Q8a (sb sf:Int) (w:World):(Instr.field 41 (.agg #[.int .i64 sb,.int .i64 sf]) 1).run Try.prog w=.ok (.int .i64 sf) w:=by kernel_rfl
theorem Q6Z (o1 o2 o3:Option Addr) (n1 c1 n2 c2 n3 c3 bg fg gl cg k:Nat) (i l:Int) (d:Bool) (a p f s st now:Int) (sb sf:Int) (w:World) (hk:k < gl) (hgl:gl≤1048576) (zg:bg < w.heap.size) (hs0:w.cell? ⟨bg,fg+k * 2,none⟩=some (.int .i64 sb)) (hs1:w.cell? ⟨bg,fg+k * 2+1,none⟩=some (.int .i64 sf)):
  Calls Try.prog 52 #[Q3b (.slice o1 n1 c1) (.slice o2 n2 c2) i l d a p f s (.slice o3 n3 c3) (.slice (some ⟨bg,fg,none⟩) gl cg) (k:Int) st now] w fun e w'=> e=.returned (.int .i64 (if sb=i then -1 else 6))∧Below w.heap.size w w':=by
 obtain ⟨W0,hW0⟩:∃W,(w.alloc (.cells #[.slice o1 n1 c1,.slice o2 n2 c2,.int .i64 i,.int .i64 l,.bool d,.int .i64 a,.int .i64 p,.int .i64 f,.int .i64 s,.slice o3 n3 c3,.slice (some ⟨bg,fg,none⟩) gl cg,.int .i64 (k:Int),.int .i64 st,.int .i64 now] 74))=W:=⟨_,rfl⟩
 have hb_W0:Below w.heap.size w W0:=by rw [←hW0];exact ((Below.refl _ _).alloc (Kaq _) _)
 have HB:=Q00 hb_W0
 clear hb_W0
 have zz:w.heap.size < W0.heap.size:=by rw [←hW0];simp
 have z0:W0.cell? ⟨w.heap.size,0,none⟩=some (.slice o1 n1 c1):=by rw [←hW0];simp [go_sem]
 have z1:W0.cell? ⟨w.heap.size,1,none⟩=some (.slice o2 n2 c2):=by rw [←hW0];simp [go_sem]
 have z2:W0.cell? ⟨w.heap.size,2,none⟩=some (.int .i64 i):=by rw [←hW0];simp [go_sem]
 have z3:W0.cell? ⟨w.heap.size,3,none⟩=some (.int .i64 l):=by rw [←hW0];simp [go_sem]
 have z4:W0.cell? ⟨w.heap.size,4,none⟩=some (.bool d):=by rw [←hW0];simp [go_sem]
 have z5:W0.cell? ⟨w.heap.size,5,none⟩=some (.int .i64 a):=by rw [←hW0];simp [go_sem]
 have z6:W0.cell? ⟨w.heap.size,6,none⟩=some (.int .i64 p):=by rw [←hW0];simp [go_sem]
 have z7:W0.cell? ⟨w.heap.size,7,none⟩=some (.int .i64 f):=by rw [←hW0];simp [go_sem]
 have z8:W0.cell? ⟨w.heap.size,8,none⟩=some (.int .i64 s):=by rw [←hW0];simp [go_sem]
 have z9:W0.cell? ⟨w.heap.size,9,none⟩=some (.slice o3 n3 c3):=by rw [←hW0];simp [go_sem]
 have z10:W0.cell? ⟨w.heap.size,10,none⟩=some (.slice (some ⟨bg,fg,none⟩) gl cg):=by rw [←hW0];simp [go_sem]
 have z11:W0.cell? ⟨w.heap.size,11,none⟩=some (.int .i64 (k:Int)):=by rw [←hW0];simp [go_sem]
 have z12:W0.cell? ⟨w.heap.size,12,none⟩=some (.int .i64 st):=by rw [←hW0];simp [go_sem]
 have z13:W0.cell? ⟨w.heap.size,13,none⟩=some (.int .i64 now):=by rw [←hW0];simp [go_sem]
 have HH:=Q00 (fun pp:Grown W0=> Q3o o1 o2 o3 n1 c1 n2 c2 n3 c3 bg fg gl cg k i l d a p f s st now sb sf pp.v hk hgl (Kbq (Kbq zg HB.out.size) pp.b.size) ((pp.b.cell (p:=⟨bg,fg+k * 2,none⟩) (Kbq zg HB.out.size)).trans ((HB.out.cell (p:=⟨bg,fg+k * 2,none⟩) zg).trans hs0)) ((pp.b.cell (p:=⟨bg,fg+k * 2+1,none⟩) (Kbq zg HB.out.size)).trans ((HB.out.cell (p:=⟨bg,fg+k * 2+1,none⟩) zg).trans hs1)))
 clear hs0 hs1
 have G0:=Grown.cell z0 zz
 have G1:=Grown.cell z1 zz
 have G2:=Grown.cell z2 zz
 have G3:=Grown.cell z3 zz
 have G4:=Grown.cell z4 zz
 have G5:=Grown.cell z5 zz
 have G6:=Grown.cell z6 zz
 have G7:=Grown.cell z7 zz
 have G8:=Grown.cell z8 zz
 have G9:=Grown.cell z9 zz
 have G10:=Grown.cell z10 zz
 have G11:=Grown.cell z11 zz
 have G12:=Grown.cell z12 zz
 have G13:=Grown.cell z13 zz
 by_cases h1:sb=i
 ·subst h1
  have HE:=Q00 (if_pos rfl:(if sb=sb then (-1:Int) else 6)= -1)
  have hfd:=Q8r sb sf
  go_enter Try.func52,Try.ntmps52
  go_wp2
  (refine Q05 (by kernel_rfl) (by kernel_rfl) ?_;intro hne9;(repeat (go_big_quiet_step ((go_at_call 79;exact Q09 _ (HH.out _)))));(with_reducible refine wpQuiet_nil ?_);intro _ hw9;obtain ⟨pq,hw8⟩:=hw9;subst hw8)
  go_wp2
  go_ret
  first|exact ⟨rfl,HB.out.trans (pq.b.mono HB.out.size)⟩|exact ⟨Q3F HE.out.symm,HB.out.trans (pq.b.mono HB.out.size)⟩
 ·skip
  have HE:=Q00 (if_neg h1:(if sb=i then (-1:Int) else 6)=6)
  have hfd:=Q8r sb sf
  go_enter Try.func52,Try.ntmps52
  go_wp2
  (refine Q05 (by kernel_rfl) (by kernel_rfl) ?_;intro hne9;(repeat (go_big_quiet_step ((go_at_call 79;exact Q09 _ (HH.out _)))));(with_reducible refine wpQuiet_nil ?_);intro _ hw9;obtain ⟨pq,hw8⟩:=hw9;subst hw8)
  go_wp2
  go_ret
  first|exact ⟨rfl,HB.out.trans (pq.b.mono HB.out.size)⟩|exact ⟨Q3F HE.out.symm,HB.out.trans (pq.b.mono HB.out.size)⟩
theorem Q7r (o1 o2 o3:Option Addr) (n1 c1 n2 c2 n3 c3 bg fg gl cg k:Nat) (i l:Int) (d:Bool) (a p f s st now:Int) (w:World) (hn3:n3≤maxLen) (hpk:Q0l a p f s n3=true) (hn0:0≤now) (hn1:now≤100000) (hst0:0≤st) (hst1:st≤100000):
  Calls Try.prog 53 #[Q3b (.slice o1 n1 c1) (.slice o2 n2 c2) i l d a p f s (.slice o3 n3 c3) (.slice (some ⟨bg,fg,none⟩) gl cg) (k:Int) st now] w fun e w'=> e=.returned (.int .i64 (if (bits .and .i64 f 3==1)=true∧10 < now - st then 4 else -1))∧Below w.heap.size w w':=by
 have hw1:IntKind.i64.wrap (now - st)=now - st:=by rw [IntKind.wrap_i64];omega
 obtain ⟨W0,hW0⟩:∃W,(w.alloc (.cells #[.slice o1 n1 c1,.slice o2 n2 c2,.int .i64 i,.int .i64 l,.bool d,.int .i64 a,.int .i64 p,.int .i64 f,.int .i64 s,.slice o3 n3 c3,.slice (some ⟨bg,fg,none⟩) gl cg,.int .i64 (k:Int),.int .i64 st,.int .i64 now] 74))=W:=⟨_,rfl⟩
 have hb_W0:Below w.heap.size w W0:=by rw [←hW0];exact ((Below.refl _ _).alloc (Kaq _) _)
 have HB:=Q00 hb_W0
 clear hb_W0
 have zz:w.heap.size < W0.heap.size:=by rw [←hW0];simp
 have z0:W0.cell? ⟨w.heap.size,0,none⟩=some (.slice o1 n1 c1):=by rw [←hW0];simp [go_sem]
 have z1:W0.cell? ⟨w.heap.size,1,none⟩=some (.slice o2 n2 c2):=by rw [←hW0];simp [go_sem]
 have z2:W0.cell? ⟨w.heap.size,2,none⟩=some (.int .i64 i):=by rw [←hW0];simp [go_sem]
 have z3:W0.cell? ⟨w.heap.size,3,none⟩=some (.int .i64 l):=by rw [←hW0];simp [go_sem]
 have z4:W0.cell? ⟨w.heap.size,4,none⟩=some (.bool d):=by rw [←hW0];simp [go_sem]
 have z5:W0.cell? ⟨w.heap.size,5,none⟩=some (.int .i64 a):=by rw [←hW0];simp [go_sem]
 have z6:W0.cell? ⟨w.heap.size,6,none⟩=some (.int .i64 p):=by rw [←hW0];simp [go_sem]
 have z7:W0.cell? ⟨w.heap.size,7,none⟩=some (.int .i64 f):=by rw [←hW0];simp [go_sem]
 have z8:W0.cell? ⟨w.heap.size,8,none⟩=some (.int .i64 s):=by rw [←hW0];simp [go_sem]
 have z9:W0.cell? ⟨w.heap.size,9,none⟩=some (.slice o3 n3 c3):=by rw [←hW0];simp [go_sem]
 have z10:W0.cell? ⟨w.heap.size,10,none⟩=some (.slice (some ⟨bg,fg,none⟩) gl cg):=by rw [←hW0];simp [go_sem]
 have z11:W0.cell? ⟨w.heap.size,11,none⟩=some (.int .i64 (k:Int)):=by rw [←hW0];simp [go_sem]
 have z12:W0.cell? ⟨w.heap.size,12,none⟩=some (.int .i64 st):=by rw [←hW0];simp [go_sem]
 have z13:W0.cell? ⟨w.heap.size,13,none⟩=some (.int .i64 now):=by rw [←hW0];simp [go_sem]
 have H1:=Q00 (Q1T a p f s o3 n3 c3 W0 hn3)
 rw [←Q2g hpk] at H1
 generalize (bits .and .i64 f 3==1)=op at *
 cases op with
 |false=>
  go_enter Try.func53,Try.ntmps53
  go_wp2_with fail
  refine (H1.out).mono ?_
  rintro e v1 ⟨rfl,hb⟩
  replace z0:=bC hb z0 zz
  replace z1:=bC hb z1 zz
  replace z2:=bC hb z2 zz
  replace z3:=bC hb z3 zz
  replace z4:=bC hb z4 zz
  replace z5:=bC hb z5 zz
  replace z6:=bC hb z6 zz
  replace z7:=bC hb z7 zz
  replace z8:=bC hb z8 zz
  replace z9:=bC hb z9 zz
  replace z10:=bC hb z10 zz
  replace z11:=bC hb z11 zz
  replace z12:=bC hb z12 zz
  replace z13:=bC hb z13 zz
  replace zz:=Kbq zz hb.size
  replace HB:=Q00 (HB.out.trans (hb.mono HB.out.size))
  clear hb
  go_wp2
  all_goals go_ret
  all_goals refine ⟨Q3F ?_,HB.out⟩
  all_goals first|rfl|(exfalso;simp_all;done)|simp
 |true=>
  go_enter Try.func53,Try.ntmps53
  go_wp2_with fail
  refine (H1.out).mono ?_
  rintro e v1 ⟨rfl,hb⟩
  replace z0:=bC hb z0 zz
  replace z1:=bC hb z1 zz
  replace z2:=bC hb z2 zz
  replace z3:=bC hb z3 zz
  replace z4:=bC hb z4 zz
  replace z5:=bC hb z5 zz
  replace z6:=bC hb z6 zz
  replace z7:=bC hb z7 zz
  replace z8:=bC hb z8 zz
  replace z9:=bC hb z9 zz
  replace z10:=bC hb z10 zz
  replace z11:=bC hb z11 zz
  replace z12:=bC hb z12 zz
  replace z13:=bC hb z13 zz
  replace zz:=Kbq zz hb.size
  replace HB:=Q00 (HB.out.trans (hb.mono HB.out.size))
  clear hb
  go_wp2
  all_goals go_ret
  all_goals refine ⟨Q3F ?_,HB.out⟩
  all_goals first|rfl|(exfalso;omega)|(exfalso;simp_all;omega)|(split <;> first|rfl|omega|(simp_all;omega))
theorem Q7n (o1 o2 o3:Option Addr) (n1 c1 n2 c2 n3 c3 bg fg gl cg k:Nat) (i l:Int) (d:Bool) (a p f s st now:Int) (sb sf:Int) (w:World) (hk:k < gl) (hgl:gl≤1048576) (zg:bg < w.heap.size) (hs0:w.cell? ⟨bg,fg+k * 2,none⟩=some (.int .i64 sb)) (hs1:w.cell? ⟨bg,fg+k * 2+1,none⟩=some (.int .i64 sf)):
  Calls Try.prog 55 #[Q3b (.slice o1 n1 c1) (.slice o2 n2 c2) i l d a p f s (.slice o3 n3 c3) (.slice (some ⟨bg,fg,none⟩) gl cg) (k:Int) st now] w fun e w'=> e=.returned (.int .i64 (if sf=0 then (if Q0M k gl=true then 3 else 2) else -1))∧Below w.heap.size w w':=by
 obtain ⟨W0,hW0⟩:∃W,(w.alloc (.cells #[.slice o1 n1 c1,.slice o2 n2 c2,.int .i64 i,.int .i64 l,.bool d,.int .i64 a,.int .i64 p,.int .i64 f,.int .i64 s,.slice o3 n3 c3,.slice (some ⟨bg,fg,none⟩) gl cg,.int .i64 (k:Int),.int .i64 st,.int .i64 now] 74))=W:=⟨_,rfl⟩
 have hb_W0:Below w.heap.size w W0:=by rw [←hW0];exact ((Below.refl _ _).alloc (Kaq _) _)
 have HB:=Q00 hb_W0
 clear hb_W0
 have zz:w.heap.size < W0.heap.size:=by rw [←hW0];simp
 have z0:W0.cell? ⟨w.heap.size,0,none⟩=some (.slice o1 n1 c1):=by rw [←hW0];simp [go_sem]
 have z1:W0.cell? ⟨w.heap.size,1,none⟩=some (.slice o2 n2 c2):=by rw [←hW0];simp [go_sem]
 have z2:W0.cell? ⟨w.heap.size,2,none⟩=some (.int .i64 i):=by rw [←hW0];simp [go_sem]
 have z3:W0.cell? ⟨w.heap.size,3,none⟩=some (.int .i64 l):=by rw [←hW0];simp [go_sem]
 have z4:W0.cell? ⟨w.heap.size,4,none⟩=some (.bool d):=by rw [←hW0];simp [go_sem]
 have z5:W0.cell? ⟨w.heap.size,5,none⟩=some (.int .i64 a):=by rw [←hW0];simp [go_sem]
 have z6:W0.cell? ⟨w.heap.size,6,none⟩=some (.int .i64 p):=by rw [←hW0];simp [go_sem]
 have z7:W0.cell? ⟨w.heap.size,7,none⟩=some (.int .i64 f):=by rw [←hW0];simp [go_sem]
 have z8:W0.cell? ⟨w.heap.size,8,none⟩=some (.int .i64 s):=by rw [←hW0];simp [go_sem]
 have z9:W0.cell? ⟨w.heap.size,9,none⟩=some (.slice o3 n3 c3):=by rw [←hW0];simp [go_sem]
 have z10:W0.cell? ⟨w.heap.size,10,none⟩=some (.slice (some ⟨bg,fg,none⟩) gl cg):=by rw [←hW0];simp [go_sem]
 have z11:W0.cell? ⟨w.heap.size,11,none⟩=some (.int .i64 (k:Int)):=by rw [←hW0];simp [go_sem]
 have z12:W0.cell? ⟨w.heap.size,12,none⟩=some (.int .i64 st):=by rw [←hW0];simp [go_sem]
 have z13:W0.cell? ⟨w.heap.size,13,none⟩=some (.int .i64 now):=by rw [←hW0];simp [go_sem]
 have H1:=Q00 (Q3o o1 o2 o3 n1 c1 n2 c2 n3 c3 bg fg gl cg k i l d a p f s st now sb sf W0 hk hgl (Kbq zg HB.out.size) ((HB.out.cell (p:=⟨bg,fg+k * 2,none⟩) zg).trans hs0) ((HB.out.cell (p:=⟨bg,fg+k * 2+1,none⟩) zg).trans hs1))
 clear hs0 hs1
 have H2:=Q00 (fun W=> Q0J o1 o2 o3 n1 c1 n2 c2 n3 c3 bg fg gl cg k i l d a p f s st now W hk hgl)
 obtain ⟨lb,hlb⟩:∃q,Q0M k gl=q:=⟨_,rfl⟩
 rw [hlb] at H2 ⊢
 clear hlb
 by_cases h0:sf=0
 ·subst h0
  cases lb with
  |false=>
   have hfd:=Q8a sb 0
   go_enter Try.func55,Try.ntmps55
   go_wp2_with fail
   refine (H1.out).mono ?_
   rintro e v1 ⟨rfl,hb⟩
   replace z0:=bC hb z0 zz
   replace z1:=bC hb z1 zz
   replace z2:=bC hb z2 zz
   replace z3:=bC hb z3 zz
   replace z4:=bC hb z4 zz
   replace z5:=bC hb z5 zz
   replace z6:=bC hb z6 zz
   replace z7:=bC hb z7 zz
   replace z8:=bC hb z8 zz
   replace z9:=bC hb z9 zz
   replace z10:=bC hb z10 zz
   replace z11:=bC hb z11 zz
   replace z12:=bC hb z12 zz
   replace z13:=bC hb z13 zz
   replace zz:=Kbq zz hb.size
   replace HB:=Q00 (HB.out.trans (hb.mono HB.out.size))
   clear hb
   go_wp2_with fail
   refine (H2.out _).mono ?_
   rintro e v2 ⟨rfl,hb⟩
   replace z0:=bC hb z0 zz
   replace z1:=bC hb z1 zz
   replace z2:=bC hb z2 zz
   replace z3:=bC hb z3 zz
   replace z4:=bC hb z4 zz
   replace z5:=bC hb z5 zz
   replace z6:=bC hb z6 zz
   replace z7:=bC hb z7 zz
   replace z8:=bC hb z8 zz
   replace z9:=bC hb z9 zz
   replace z10:=bC hb z10 zz
   replace z11:=bC hb z11 zz
   replace z12:=bC hb z12 zz
   replace z13:=bC hb z13 zz
   replace zz:=Kbq zz hb.size
   replace HB:=Q00 (HB.out.trans (hb.mono HB.out.size))
   clear hb
   go_wp2
   go_ret
   exact ⟨rfl,HB.out⟩
  |true=>
   have hfd:=Q8a sb 0
   go_enter Try.func55,Try.ntmps55
   go_wp2_with fail
   refine (H1.out).mono ?_
   rintro e v1 ⟨rfl,hb⟩
   replace z0:=bC hb z0 zz
   replace z1:=bC hb z1 zz
   replace z2:=bC hb z2 zz
   replace z3:=bC hb z3 zz
   replace z4:=bC hb z4 zz
   replace z5:=bC hb z5 zz
   replace z6:=bC hb z6 zz
   replace z7:=bC hb z7 zz
   replace z8:=bC hb z8 zz
   replace z9:=bC hb z9 zz
   replace z10:=bC hb z10 zz
   replace z11:=bC hb z11 zz
   replace z12:=bC hb z12 zz
   replace z13:=bC hb z13 zz
   replace zz:=Kbq zz hb.size
   replace HB:=Q00 (HB.out.trans (hb.mono HB.out.size))
   clear hb
   go_wp2_with fail
   refine (H2.out _).mono ?_
   rintro e v2 ⟨rfl,hb⟩
   replace z0:=bC hb z0 zz
   replace z1:=bC hb z1 zz
   replace z2:=bC hb z2 zz
   replace z3:=bC hb z3 zz
   replace z4:=bC hb z4 zz
   replace z5:=bC hb z5 zz
   replace z6:=bC hb z6 zz
   replace z7:=bC hb z7 zz
   replace z8:=bC hb z8 zz
   replace z9:=bC hb z9 zz
   replace z10:=bC hb z10 zz
   replace z11:=bC hb z11 zz
   replace z12:=bC hb z12 zz
   replace z13:=bC hb z13 zz
   replace zz:=Kbq zz hb.size
   replace HB:=Q00 (HB.out.trans (hb.mono HB.out.size))
   clear hb
   go_wp2
   go_ret
   exact ⟨rfl,HB.out⟩
 ·rw [if_neg h0]
  have hfd:=Q8a sb sf
  go_enter Try.func55,Try.ntmps55
  go_wp2_with fail
  refine (H1.out).mono ?_
  rintro e v1 ⟨rfl,hb⟩
  replace z0:=bC hb z0 zz
  replace z1:=bC hb z1 zz
  replace z2:=bC hb z2 zz
  replace z3:=bC hb z3 zz
  replace z4:=bC hb z4 zz
  replace z5:=bC hb z5 zz
  replace z6:=bC hb z6 zz
  replace z7:=bC hb z7 zz
  replace z8:=bC hb z8 zz
  replace z9:=bC hb z9 zz
  replace z10:=bC hb z10 zz
  replace z11:=bC hb z11 zz
  replace z12:=bC hb z12 zz
  replace z13:=bC hb z13 zz
  replace zz:=Kbq zz hb.size
  replace HB:=Q00 (HB.out.trans (hb.mono HB.out.size))
  clear hb
  go_wp2
  go_ret
  exact ⟨rfl,HB.out⟩
theorem Q64 (g base n1:Nat) (c:List Sl) (o2 o3:Option Addr) (n2 c2 n3 c3 bg fg gl cg k:Nat) (i l:Int) (d:Bool) (a p f s st now:Int) (w:World) (hc0:0 < c.length) (hc1:c.length≤1048576) (hfl:Q0c a p=true) (hn0:0≤now) (hn1:now≤100000) (ho:w.ownsRow base Q0k 5 (.slice (some ⟨g,0,none⟩) c.length n1) c.length (c.flatMap Q0e.cs)):
  Calls Try.prog 58 #[Q3b (.slice (some ⟨g,0,none⟩) c.length n1) (.slice o2 n2 c2) i l d a p f s (.slice o3 n3 c3) (.slice (some ⟨bg,fg,none⟩) gl cg) (k:Int) st now] w fun e w'=> e=.returned (.int .i64 1)∧w'.ownsRow base Q0k 5 (.slice (some ⟨g,0,none⟩) c.length n1) c.length ((Q11 c a p s (now+50)).flatMap Q0e.cs)∧Stp g (g+1) w w':=by
 have HO:=Q00 ho
 clear ho
 obtain ⟨W0,hW0⟩:∃W,(w.alloc (.cells #[.slice (some ⟨g,0,none⟩) c.length n1,.slice o2 n2 c2,.int .i64 i,.int .i64 l,.bool d,.int .i64 a,.int .i64 p,.int .i64 f,.int .i64 s,.slice o3 n3 c3,.slice (some ⟨bg,fg,none⟩) gl cg,.int .i64 (k:Int),.int .i64 st,.int .i64 now] 74))=W:=⟨_,rfl⟩
 have hb_W0:Below w.heap.size w W0:=by rw [←hW0];exact ((Below.refl _ _).alloc (Kaq _) _)
 have HB:=Q00 hb_W0
 clear hb_W0
 have zz:w.heap.size < W0.heap.size:=by rw [←hW0];simp
 have z0:W0.cell? ⟨w.heap.size,0,none⟩=some (.slice (some ⟨g,0,none⟩) c.length n1):=by rw [←hW0];simp [go_sem]
 have z1:W0.cell? ⟨w.heap.size,1,none⟩=some (.slice o2 n2 c2):=by rw [←hW0];simp [go_sem]
 have z2:W0.cell? ⟨w.heap.size,2,none⟩=some (.int .i64 i):=by rw [←hW0];simp [go_sem]
 have z3:W0.cell? ⟨w.heap.size,3,none⟩=some (.int .i64 l):=by rw [←hW0];simp [go_sem]
 have z4:W0.cell? ⟨w.heap.size,4,none⟩=some (.bool d):=by rw [←hW0];simp [go_sem]
 have z5:W0.cell? ⟨w.heap.size,5,none⟩=some (.int .i64 a):=by rw [←hW0];simp [go_sem]
 have z6:W0.cell? ⟨w.heap.size,6,none⟩=some (.int .i64 p):=by rw [←hW0];simp [go_sem]
 have z7:W0.cell? ⟨w.heap.size,7,none⟩=some (.int .i64 f):=by rw [←hW0];simp [go_sem]
 have z8:W0.cell? ⟨w.heap.size,8,none⟩=some (.int .i64 s):=by rw [←hW0];simp [go_sem]
 have z9:W0.cell? ⟨w.heap.size,9,none⟩=some (.slice o3 n3 c3):=by rw [←hW0];simp [go_sem]
 have z10:W0.cell? ⟨w.heap.size,10,none⟩=some (.slice (some ⟨bg,fg,none⟩) gl cg):=by rw [←hW0];simp [go_sem]
 have z11:W0.cell? ⟨w.heap.size,11,none⟩=some (.int .i64 (k:Int)):=by rw [←hW0];simp [go_sem]
 have z12:W0.cell? ⟨w.heap.size,12,none⟩=some (.int .i64 st):=by rw [←hW0];simp [go_sem]
 have z13:W0.cell? ⟨w.heap.size,13,none⟩=some (.int .i64 now):=by rw [←hW0];simp [go_sem]
 have H1:=Q00 (Q4Z g n1 base c a p f s now o3 n3 c3 W0 hc0 hc1 hfl hn0 hn1 (Q0a HO.out HB.out))
 have HS0:Hid (Stp g (g+1) w W0):=Stp.of HB.out
 generalize Q11 c a p s (now+50)=tl at *
 go_enter Try.func58,Try.ntmps58
 go_wp2_with fail
 refine H1.out.mono ?_
 rintro e v1 ⟨⟨v,rfl⟩,ho1,st1⟩
 have HO1:=Q00 ho1
 have HS1:Hid (Stp g (g+1) w v1):=HS0.out.trans st1
 clear ho1 st1 H1
 go_wp2
 go_ret
 exact ⟨rfl,HO1.out,HS1.out⟩
def Q1Y (mc mt:List Sl) (d:Bool) (a p:Int) (k gl:Nat):Bool:=Q0M k gl && ((Q0m mt a p).2|| !Q1g mc d)
theorem Q5o (g h c1 c2:Nat) (mc mt:List Sl) (o3:Option Addr) (n3 c3 bg fg gl cg k:Nat) (i l:Int) (d:Bool) (a p f s st now:Int) (w:World) (hk:k < gl) (hgl:gl≤1048576) (hfl:Q0c a p=true) (hc0:0 < mc.length) (hc1:mc.length≤1048576) (ht0:0 < mt.length) (ht1:mt.length≤1048576) (zg:g < w.heap.size) (zh:h < w.heap.size) (hC:Row w g 0 mc) (hT:Row w h 0 mt):
  Calls Try.prog 56 #[Q3b (.slice (some ⟨g,0,none⟩) mc.length c1) (.slice (some ⟨h,0,none⟩) mt.length c2) i l d a p f s (.slice o3 n3 c3) (.slice (some ⟨bg,fg,none⟩) gl cg) (k:Int) st now] w fun e w'=> e=.returned (.int .i64 (if Q1Y mc mt d a p k gl=true then 3 else -1))∧Below w.heap.size w w':=by
 have HC:=Q00 hC
 have HT:=Q00 hT
 clear hC hT
 obtain ⟨W0,hW0⟩:∃W,(w.alloc (.cells #[.slice (some ⟨g,0,none⟩) mc.length c1,.slice (some ⟨h,0,none⟩) mt.length c2,.int .i64 i,.int .i64 l,.bool d,.int .i64 a,.int .i64 p,.int .i64 f,.int .i64 s,.slice o3 n3 c3,.slice (some ⟨bg,fg,none⟩) gl cg,.int .i64 (k:Int),.int .i64 st,.int .i64 now] 74))=W:=⟨_,rfl⟩
 have hb_W0:Below w.heap.size w W0:=by rw [←hW0];exact ((Below.refl _ _).alloc (Kaq _) _)
 have HB:=Q00 hb_W0
 clear hb_W0
 have zz:w.heap.size < W0.heap.size:=by rw [←hW0];simp
 have z0:W0.cell? ⟨w.heap.size,0,none⟩=some (.slice (some ⟨g,0,none⟩) mc.length c1):=by rw [←hW0];simp [go_sem]
 have z1:W0.cell? ⟨w.heap.size,1,none⟩=some (.slice (some ⟨h,0,none⟩) mt.length c2):=by rw [←hW0];simp [go_sem]
 have z2:W0.cell? ⟨w.heap.size,2,none⟩=some (.int .i64 i):=by rw [←hW0];simp [go_sem]
 have z3:W0.cell? ⟨w.heap.size,3,none⟩=some (.int .i64 l):=by rw [←hW0];simp [go_sem]
 have z4:W0.cell? ⟨w.heap.size,4,none⟩=some (.bool d):=by rw [←hW0];simp [go_sem]
 have z5:W0.cell? ⟨w.heap.size,5,none⟩=some (.int .i64 a):=by rw [←hW0];simp [go_sem]
 have z6:W0.cell? ⟨w.heap.size,6,none⟩=some (.int .i64 p):=by rw [←hW0];simp [go_sem]
 have z7:W0.cell? ⟨w.heap.size,7,none⟩=some (.int .i64 f):=by rw [←hW0];simp [go_sem]
 have z8:W0.cell? ⟨w.heap.size,8,none⟩=some (.int .i64 s):=by rw [←hW0];simp [go_sem]
 have z9:W0.cell? ⟨w.heap.size,9,none⟩=some (.slice o3 n3 c3):=by rw [←hW0];simp [go_sem]
 have z10:W0.cell? ⟨w.heap.size,10,none⟩=some (.slice (some ⟨bg,fg,none⟩) gl cg):=by rw [←hW0];simp [go_sem]
 have z11:W0.cell? ⟨w.heap.size,11,none⟩=some (.int .i64 (k:Int)):=by rw [←hW0];simp [go_sem]
 have z12:W0.cell? ⟨w.heap.size,12,none⟩=some (.int .i64 st):=by rw [←hW0];simp [go_sem]
 have z13:W0.cell? ⟨w.heap.size,13,none⟩=some (.int .i64 now):=by rw [←hW0];simp [go_sem]
 have HF:=Q00 (fun pp:Grown W0=> Q0t (some ⟨g,0,none⟩) (some ⟨h,0,none⟩) o3 mc.length c1 mt.length c2 n3 c3 bg fg gl cg k i l d a p f s st now pp.v)
 have HL:=Q00 (fun pp:Grown W0=> Q0J (some ⟨g,0,none⟩) (some ⟨h,0,none⟩) o3 mc.length c1 mt.length c2 n3 c3 bg fg gl cg k i l d a p f s st now pp.v hk hgl)
 have HS:=Q00 (fun pp:Grown W0=> Q1r h 0 c2 mt a p pp.v ht0 ht1 hfl (Kbq (Kbq zh HB.out.size) pp.b.size) (Row.kept (Row.kept HT.out HB.out zh) pp.b (Kbq zh HB.out.size)))
 have HRm:=Q00 (fun pp:Grown W0=> Q1e g 0 c1 mc (some ⟨h,0,none⟩) mt.length c2 i l d pp.v (Kbq (Kbq zg HB.out.size) pp.b.size) (Row.kept (Row.kept HC.out HB.out zg) pp.b (Kbq zg HB.out.size)) hc1)
 have HCt:=Q00 (fun pp:Grown W0=> Q1p g 0 c1 mc pp.v (Kbq (Kbq zg HB.out.size) pp.b.size) (Row.kept (Row.kept HC.out HB.out zg) pp.b (Kbq zg HB.out.size)) hc1)
 have HE:=Q00 (show Q1Y mc mt d a p k gl=(Q0M k gl && ((Q0m mt a p).2|| !Q1g mc d)) from rfl)
 obtain ⟨lb,hlb⟩:∃q,Q0M k gl=q:=⟨_,rfl⟩
 obtain ⟨sh,hsh⟩:∃q,(Q0m mt a p).2=q:=⟨_,rfl⟩
 obtain ⟨rm,hrm⟩:∃q,Q1g mc d=q:=⟨_,rfl⟩
 rw [hlb] at HL HE
 rw [hsh] at HS HE
 rw [hrm] at HRm HE
 obtain ⟨rb,hrb⟩:∃q,Q1Y mc mt d a p k gl=q:=⟨_,rfl⟩
 rw [hrb] at HE ⊢
 clear hlb hsh hrm hrb
 have G0:=Grown.cell z0 zz
 have G1:=Grown.cell z1 zz
 have G2:=Grown.cell z2 zz
 have G3:=Grown.cell z3 zz
 have G4:=Grown.cell z4 zz
 have G5:=Grown.cell z5 zz
 have G6:=Grown.cell z6 zz
 have G7:=Grown.cell z7 zz
 have G8:=Grown.cell z8 zz
 have G9:=Grown.cell z9 zz
 have G10:=Grown.cell z10 zz
 have G11:=Grown.cell z11 zz
 have G12:=Grown.cell z12 zz
 have G13:=Grown.cell z13 zz
 cases lb <;> cases sh <;> cases rm
 all_goals (
  have hrb:=HE.out
  simp at hrb
  subst hrb
  go_enter Try.func56,Try.ntmps56
  go_wp2
  (refine Q05 (by kernel_rfl) (by kernel_rfl) ?_;intro hne9;(repeat (go_big_quiet_step (first|(go_at_call 84;exact Q09 _ (HL.out _))|(go_at_call 80;exact Q09 _ (HF.out _))|(go_at_call 39;exact Q09 _ (HS.out _))|(go_at_call 85;exact Q09 _ (HRm.out _))|(go_at_call 86;exact Q09 _ (HCt.out _)))));(with_reducible refine wpQuiet_nil ?_);intro _ hw9;obtain ⟨pq,hw8⟩:=hw9;subst hw8)
  go_wp2
  go_ret
  exact ⟨rfl,HB.out.trans (pq.b.mono HB.out.size)⟩)
def Q60 (mc mt:List Sl) (d:Bool) (l a p:Int):Bool:= !(Q0m mt a p).2 && Q1g mc d && decide ((Q0y mc:Int) < l)
def Q23 (mc mt:List Sl) (d:Bool) (l a p:Int) (k gl:Nat):Int:=if (Q0M k gl||Q60 mc mt d l a p)=true then -1 else if 0≤(Q0m mt a p).1 then 2 else 5
def Q2s (mc mt:List Sl) (d:Bool) (l a p now:Int) (k gl:Nat):List Sl:=if (Q0M k gl||Q60 mc mt d l a p)=true then mt else Q11 mt a p 0 (now+21)
theorem Q7v (g h c1 c2:Nat) (mc mt:List Sl) (o3:Option Addr) (n3 c3 bg fg gl cg k:Nat) (i l:Int) (d:Bool) (a p f s st now:Int) (base:Nat) (w:World) (hk:k < gl) (hgl:gl≤1048576) (hfl:Q0c a p=true) (hc0:0 < mc.length) (hc1:mc.length≤1048576) (ht0:0 < mt.length) (ht1:mt.length≤1048576) (hn0:0≤now) (hn1:now≤100000) (zg:g < w.heap.size) (hC:Row w g 0 mc) (ho:w.ownsRow base Q0k 5 (.slice (some ⟨h,0,none⟩) mt.length c2) mt.length (mt.flatMap Q0e.cs)) (e1:(Q0m mt a p).2=true):
  Calls Try.prog 57 #[Q3b (.slice (some ⟨g,0,none⟩) mc.length c1) (.slice (some ⟨h,0,none⟩) mt.length c2) i l d a p f s (.slice o3 n3 c3) (.slice (some ⟨bg,fg,none⟩) gl cg) (k:Int) st now] w fun e w'=> e=.returned (.int .i64 (Q23 mc mt d l a p k gl))∧w'.ownsRow base Q0k 5 (.slice (some ⟨h,0,none⟩) mt.length c2) mt.length ((Q2s mc mt d l a p now k gl).flatMap Q0e.cs)∧Stp h (h+1) w w':=by
 have HC:=Q00 hC
 have HT:Hid (Row w h 0 mt):=Q0n ho rfl
 have zh:h < w.heap.size:=(ho.lt h rfl).2
 have HO:=Q00 ho
 clear hC ho
 obtain ⟨W0,hW0⟩:∃W,(w.alloc (.cells #[.slice (some ⟨g,0,none⟩) mc.length c1,.slice (some ⟨h,0,none⟩) mt.length c2,.int .i64 i,.int .i64 l,.bool d,.int .i64 a,.int .i64 p,.int .i64 f,.int .i64 s,.slice o3 n3 c3,.slice (some ⟨bg,fg,none⟩) gl cg,.int .i64 (k:Int),.int .i64 st,.int .i64 now] 74))=W:=⟨_,rfl⟩
 have hb_W0:Below w.heap.size w W0:=by rw [←hW0];exact ((Below.refl _ _).alloc (Kaq _) _)
 have HB:=Q00 hb_W0
 clear hb_W0
 have zz:w.heap.size < W0.heap.size:=by rw [←hW0];simp
 have z0:W0.cell? ⟨w.heap.size,0,none⟩=some (.slice (some ⟨g,0,none⟩) mc.length c1):=by rw [←hW0];simp [go_sem]
 have z1:W0.cell? ⟨w.heap.size,1,none⟩=some (.slice (some ⟨h,0,none⟩) mt.length c2):=by rw [←hW0];simp [go_sem]
 have z2:W0.cell? ⟨w.heap.size,2,none⟩=some (.int .i64 i):=by rw [←hW0];simp [go_sem]
 have z3:W0.cell? ⟨w.heap.size,3,none⟩=some (.int .i64 l):=by rw [←hW0];simp [go_sem]
 have z4:W0.cell? ⟨w.heap.size,4,none⟩=some (.bool d):=by rw [←hW0];simp [go_sem]
 have z5:W0.cell? ⟨w.heap.size,5,none⟩=some (.int .i64 a):=by rw [←hW0];simp [go_sem]
 have z6:W0.cell? ⟨w.heap.size,6,none⟩=some (.int .i64 p):=by rw [←hW0];simp [go_sem]
 have z7:W0.cell? ⟨w.heap.size,7,none⟩=some (.int .i64 f):=by rw [←hW0];simp [go_sem]
 have z8:W0.cell? ⟨w.heap.size,8,none⟩=some (.int .i64 s):=by rw [←hW0];simp [go_sem]
 have z9:W0.cell? ⟨w.heap.size,9,none⟩=some (.slice o3 n3 c3):=by rw [←hW0];simp [go_sem]
 have z10:W0.cell? ⟨w.heap.size,10,none⟩=some (.slice (some ⟨bg,fg,none⟩) gl cg):=by rw [←hW0];simp [go_sem]
 have z11:W0.cell? ⟨w.heap.size,11,none⟩=some (.int .i64 (k:Int)):=by rw [←hW0];simp [go_sem]
 have z12:W0.cell? ⟨w.heap.size,12,none⟩=some (.int .i64 st):=by rw [←hW0];simp [go_sem]
 have z13:W0.cell? ⟨w.heap.size,13,none⟩=some (.int .i64 now):=by rw [←hW0];simp [go_sem]
 have HF:=Q00 (fun pp:Grown W0=> Q0t (some ⟨g,0,none⟩) (some ⟨h,0,none⟩) o3 mc.length c1 mt.length c2 n3 c3 bg fg gl cg k i l d a p f s st now pp.v)
 have HL:=Q00 (fun pp:Grown W0=> Q0J (some ⟨g,0,none⟩) (some ⟨h,0,none⟩) o3 mc.length c1 mt.length c2 n3 c3 bg fg gl cg k i l d a p f s st now pp.v hk hgl)
 have HS:=Q00 (fun pp:Grown W0=> Q1r h 0 c2 mt a p pp.v ht0 ht1 hfl (Kbq (Kbq zh HB.out.size) pp.b.size) (Row.kept (Row.kept HT.out HB.out zh) pp.b (Kbq zh HB.out.size)))
 have HRm:=Q00 (fun pp:Grown W0=> Q1e g 0 c1 mc (some ⟨h,0,none⟩) mt.length c2 i l d pp.v (Kbq (Kbq zg HB.out.size) pp.b.size) (Row.kept (Row.kept HC.out HB.out zg) pp.b (Kbq zg HB.out.size)) hc1)
 have HCt:=Q00 (fun pp:Grown W0=> Q1p g 0 c1 mc pp.v (Kbq (Kbq zg HB.out.size) pp.b.size) (Row.kept (Row.kept HC.out HB.out zg) pp.b (Kbq zg HB.out.size)) hc1)
 have HLv:=Q00 (fun W=> Q0J (some ⟨g,0,none⟩) (some ⟨h,0,none⟩) o3 mc.length c1 mt.length c2 n3 c3 bg fg gl cg k i l d a p f s st now W hk hgl)
 have HFv:=Q00 (fun W=> Q0t (some ⟨g,0,none⟩) (some ⟨h,0,none⟩) o3 mc.length c1 mt.length c2 n3 c3 bg fg gl cg k i l d a p f s st now W)
 have HSh:=Q00 (fun W ho=> Q1Z h c2 base mt a p now W ht0 ht1 hfl hn0 hn1 ho)
 have HV:=Q00 (show Q23 mc mt d l a p k gl=if (Q0M k gl||(!(Q0m mt a p).2 && Q1g mc d && decide ((Q0y mc:Int) < l)))=true then -1 else if 0≤(Q0m mt a p).1 then 2 else 5 from rfl)
 have HPT:=Q00 (show Q2s mc mt d l a p now k gl=if (Q0M k gl||(!(Q0m mt a p).2 && Q1g mc d && decide ((Q0y mc:Int) < l)))=true then mt else Q11 mt a p 0 (now+21) from rfl)
 obtain ⟨lb,hlb⟩:∃q,Q0M k gl=q:=⟨_,rfl⟩
 obtain ⟨sh,hsh⟩:∃q,(Q0m mt a p).2=q:=⟨_,rfl⟩
 obtain ⟨rm,hrm⟩:∃q,Q1g mc d=q:=⟨_,rfl⟩
 obtain ⟨nc,hnc⟩:∃q,Q0y mc=q:=⟨_,rfl⟩
 rw [hlb] at HLv HV HPT
 rw [hsh] at HS HV HPT
 rw [hrm] at HRm HV HPT
 rw [hnc] at HCt HV HPT
 have hsv:=hsh
 have hrv:=hrm
 have hnv:=hnc
 clear hlb hsh hrm hnc HL
 obtain ⟨pv,hpv⟩:∃q,Q23 mc mt d l a p k gl=q:=⟨_,rfl⟩
 obtain ⟨pt,hpt⟩:∃q,Q2s mc mt d l a p now k gl=q:=⟨_,rfl⟩
 rw [hpv] at HV ⊢
 rw [hpt] at HPT ⊢
 clear hpv hpt
 have G0:=Grown.cell z0 zz
 have G1:=Grown.cell z1 zz
 have G2:=Grown.cell z2 zz
 have G3:=Grown.cell z3 zz
 have G4:=Grown.cell z4 zz
 have G5:=Grown.cell z5 zz
 have G6:=Grown.cell z6 zz
 have G7:=Grown.cell z7 zz
 have G8:=Grown.cell z8 zz
 have G9:=Grown.cell z9 zz
 have G10:=Grown.cell z10 zz
 have G11:=Grown.cell z11 zz
 have G12:=Grown.cell z12 zz
 have G13:=Grown.cell z13 zz
 obtain rfl:=hsv.symm.trans e1
 clear e1
 try clear hsv
 try clear hrv
 try clear hnv
 cases lb with
 |false=>
  go_enter Try.func57,Try.ntmps57
  go_wp2
  (refine Q05 (by kernel_rfl) (by kernel_rfl) ?_;intro hne9;(repeat (go_big_quiet_step (first|(go_at_call 80;exact Q09 _ (HF.out _))|(go_at_call 39;exact Q09 _ (HS.out _))|(go_at_call 85;exact Q09 _ (HRm.out _))|(go_at_call 86;exact Q09 _ (HCt.out _)))));(with_reducible refine wpQuiet_nil ?_);intro _ hw9;obtain ⟨pq,hw8⟩:=hw9;subst hw8)
  obtain ⟨u1,hu1⟩:∃W,pq.v=W:=⟨_,rfl⟩
  have hb:=pq.b
  rw [hu1] at hb ⊢
  clear G0 G1 G2 G3 G4 G5 G6 G7 G8 G9 G10 G11 G12 G13 HF HS HRm HCt
  replace z0:=bC hb z0 zz
  replace z1:=bC hb z1 zz
  replace z2:=bC hb z2 zz
  replace z3:=bC hb z3 zz
  replace z4:=bC hb z4 zz
  replace z5:=bC hb z5 zz
  replace z6:=bC hb z6 zz
  replace z7:=bC hb z7 zz
  replace z8:=bC hb z8 zz
  replace z9:=bC hb z9 zz
  replace z10:=bC hb z10 zz
  replace z11:=bC hb z11 zz
  replace z12:=bC hb z12 zz
  replace z13:=bC hb z13 zz
  replace zz:=Kbq zz hb.size
  replace HB:=Q00 (HB.out.trans (hb.mono HB.out.size))
  clear hb
  clear hu1 pq
  go_wp2_with fail
  refine (HLv.out u1).mono ?_
  rintro e v1 ⟨rfl,hb⟩
  replace z0:=bC hb z0 zz
  replace z1:=bC hb z1 zz
  replace z2:=bC hb z2 zz
  replace z3:=bC hb z3 zz
  replace z4:=bC hb z4 zz
  replace z5:=bC hb z5 zz
  replace z6:=bC hb z6 zz
  replace z7:=bC hb z7 zz
  replace z8:=bC hb z8 zz
  replace z9:=bC hb z9 zz
  replace z10:=bC hb z10 zz
  replace z11:=bC hb z11 zz
  replace z12:=bC hb z12 zz
  replace z13:=bC hb z13 zz
  replace zz:=Kbq zz hb.size
  replace HB:=Q00 (HB.out.trans (hb.mono HB.out.size))
  clear hb
  by_cases hok:0≤(Q0m mt a p).1
  ·rw [decide_eq_true hok] at HSh
   have hv:=HV.out
   have ht:=HPT.out
   simp [hok] at hv ht
   subst hv
   subst ht
   clear hok
   go_wp2
   go_region_held3 (fun w'=> w'.cell? ⟨w.heap.size,0,none⟩=some (.slice (some ⟨g,0,none⟩) mc.length c1)∧w'.cell? ⟨w.heap.size,1,none⟩=some (.slice (some ⟨h,0,none⟩) mt.length c2)∧w'.cell? ⟨w.heap.size,2,none⟩=some (.int .i64 i)∧w'.cell? ⟨w.heap.size,3,none⟩=some (.int .i64 l)∧w'.cell? ⟨w.heap.size,4,none⟩=some (.bool d)∧w'.cell? ⟨w.heap.size,5,none⟩=some (.int .i64 a)∧w'.cell? ⟨w.heap.size,6,none⟩=some (.int .i64 p)∧w'.cell? ⟨w.heap.size,7,none⟩=some (.int .i64 f)∧w'.cell? ⟨w.heap.size,8,none⟩=some (.int .i64 s)∧w'.cell? ⟨w.heap.size,9,none⟩=some (.slice o3 n3 c3)∧w'.cell? ⟨w.heap.size,10,none⟩=some (.slice (some ⟨bg,fg,none⟩) gl cg)∧w'.cell? ⟨w.heap.size,11,none⟩=some (.int .i64 (k:Int))∧w'.cell? ⟨w.heap.size,12,none⟩=some (.int .i64 st)∧w'.cell? ⟨w.heap.size,13,none⟩=some (.int .i64 now)) (first|with_reducible exact ⟨qz0,qz1,qz2,qz3,qz4,qz5,qz6,qz7,qz8,qz9,qz10,qz11,qz12,qz13⟩|with_reducible exact ⟨pz0,pz1,pz2,pz3,pz4,pz5,pz6,pz7,pz8,pz9,pz10,pz11,pz12,pz13⟩|exact ⟨z0,z1,z2,z3,z4,z5,z6,z7,z8,z9,z10,z11,z12,z13⟩|go_keep) (first|(go_at_call 80;(with_reducible refine (HFv.out v1.drew).mono ?_);rintro e x0 ⟨rfl,hb⟩;have hx0:Below v1.heap.size v1 x0:=(Below.drew (Below.refl _ _)).trans hb;have sx0:=hx0.size;clear hb;have pz0:=(hx0.cell (p:=⟨w.heap.size,0,none⟩) zz).trans z0;have pz1:=(hx0.cell (p:=⟨w.heap.size,1,none⟩) zz).trans z1;have pz2:=(hx0.cell (p:=⟨w.heap.size,2,none⟩) zz).trans z2;have pz3:=(hx0.cell (p:=⟨w.heap.size,3,none⟩) zz).trans z3;have pz4:=(hx0.cell (p:=⟨w.heap.size,4,none⟩) zz).trans z4;have pz5:=(hx0.cell (p:=⟨w.heap.size,5,none⟩) zz).trans z5;have pz6:=(hx0.cell (p:=⟨w.heap.size,6,none⟩) zz).trans z6;have pz7:=(hx0.cell (p:=⟨w.heap.size,7,none⟩) zz).trans z7;have pz8:=(hx0.cell (p:=⟨w.heap.size,8,none⟩) zz).trans z8;have pz9:=(hx0.cell (p:=⟨w.heap.size,9,none⟩) zz).trans z9;have pz10:=(hx0.cell (p:=⟨w.heap.size,10,none⟩) zz).trans z10;have pz11:=(hx0.cell (p:=⟨w.heap.size,11,none⟩) zz).trans z11;have pz12:=(hx0.cell (p:=⟨w.heap.size,12,none⟩) zz).trans z12;have pz13:=(hx0.cell (p:=⟨w.heap.size,13,none⟩) zz).trans z13)|(go_at_call 82;(with_reducible refine (HSh.out x0 (Q0a (Q0a HO.out HB.out) hx0)).mono ?_);rintro e x1 ⟨rfl,ho1,st1⟩;have HO1:=Q00 ho1;have HST:=Q00 ((Stp.of HB.out).trans ((Stp.of hx0).trans st1));have qz0:x1.cell? ⟨w.heap.size,0,none⟩=some (.slice (some ⟨g,0,none⟩) mc.length c1):=st1.cell pz0 (by omega) (.inr (by omega));have qz1:x1.cell? ⟨w.heap.size,1,none⟩=some (.slice (some ⟨h,0,none⟩) mt.length c2):=st1.cell pz1 (by omega) (.inr (by omega));have qz2:x1.cell? ⟨w.heap.size,2,none⟩=some (.int .i64 i):=st1.cell pz2 (by omega) (.inr (by omega));have qz3:x1.cell? ⟨w.heap.size,3,none⟩=some (.int .i64 l):=st1.cell pz3 (by omega) (.inr (by omega));have qz4:x1.cell? ⟨w.heap.size,4,none⟩=some (.bool d):=st1.cell pz4 (by omega) (.inr (by omega));have qz5:x1.cell? ⟨w.heap.size,5,none⟩=some (.int .i64 a):=st1.cell pz5 (by omega) (.inr (by omega));have qz6:x1.cell? ⟨w.heap.size,6,none⟩=some (.int .i64 p):=st1.cell pz6 (by omega) (.inr (by omega));have qz7:x1.cell? ⟨w.heap.size,7,none⟩=some (.int .i64 f):=st1.cell pz7 (by omega) (.inr (by omega));have qz8:x1.cell? ⟨w.heap.size,8,none⟩=some (.int .i64 s):=st1.cell pz8 (by omega) (.inr (by omega));have qz9:x1.cell? ⟨w.heap.size,9,none⟩=some (.slice o3 n3 c3):=st1.cell pz9 (by omega) (.inr (by omega));have qz10:x1.cell? ⟨w.heap.size,10,none⟩=some (.slice (some ⟨bg,fg,none⟩) gl cg):=st1.cell pz10 (by omega) (.inr (by omega));have qz11:x1.cell? ⟨w.heap.size,11,none⟩=some (.int .i64 (k:Int)):=st1.cell pz11 (by omega) (.inr (by omega));have qz12:x1.cell? ⟨w.heap.size,12,none⟩=some (.int .i64 st):=st1.cell pz12 (by omega) (.inr (by omega));have qz13:x1.cell? ⟨w.heap.size,13,none⟩=some (.int .i64 now):=st1.cell pz13 (by omega) (.inr (by omega));clear ho1 st1)|fail)
   go_wp2
   go_ret
   exact ⟨rfl,HO1.out,HST.out⟩
  ·rw [decide_eq_false hok] at HSh
   have hv:=HV.out
   have ht:=HPT.out
   simp [hok] at hv ht
   subst hv
   subst ht
   clear hok
   go_wp2
   go_region_held3 (fun w'=> w'.cell? ⟨w.heap.size,0,none⟩=some (.slice (some ⟨g,0,none⟩) mc.length c1)∧w'.cell? ⟨w.heap.size,1,none⟩=some (.slice (some ⟨h,0,none⟩) mt.length c2)∧w'.cell? ⟨w.heap.size,2,none⟩=some (.int .i64 i)∧w'.cell? ⟨w.heap.size,3,none⟩=some (.int .i64 l)∧w'.cell? ⟨w.heap.size,4,none⟩=some (.bool d)∧w'.cell? ⟨w.heap.size,5,none⟩=some (.int .i64 a)∧w'.cell? ⟨w.heap.size,6,none⟩=some (.int .i64 p)∧w'.cell? ⟨w.heap.size,7,none⟩=some (.int .i64 f)∧w'.cell? ⟨w.heap.size,8,none⟩=some (.int .i64 s)∧w'.cell? ⟨w.heap.size,9,none⟩=some (.slice o3 n3 c3)∧w'.cell? ⟨w.heap.size,10,none⟩=some (.slice (some ⟨bg,fg,none⟩) gl cg)∧w'.cell? ⟨w.heap.size,11,none⟩=some (.int .i64 (k:Int))∧w'.cell? ⟨w.heap.size,12,none⟩=some (.int .i64 st)∧w'.cell? ⟨w.heap.size,13,none⟩=some (.int .i64 now)) (first|with_reducible exact ⟨qz0,qz1,qz2,qz3,qz4,qz5,qz6,qz7,qz8,qz9,qz10,qz11,qz12,qz13⟩|with_reducible exact ⟨pz0,pz1,pz2,pz3,pz4,pz5,pz6,pz7,pz8,pz9,pz10,pz11,pz12,pz13⟩|exact ⟨z0,z1,z2,z3,z4,z5,z6,z7,z8,z9,z10,z11,z12,z13⟩|go_keep) (first|(go_at_call 80;(with_reducible refine (HFv.out v1.drew).mono ?_);rintro e x0 ⟨rfl,hb⟩;have hx0:Below v1.heap.size v1 x0:=(Below.drew (Below.refl _ _)).trans hb;have sx0:=hx0.size;clear hb;have pz0:=(hx0.cell (p:=⟨w.heap.size,0,none⟩) zz).trans z0;have pz1:=(hx0.cell (p:=⟨w.heap.size,1,none⟩) zz).trans z1;have pz2:=(hx0.cell (p:=⟨w.heap.size,2,none⟩) zz).trans z2;have pz3:=(hx0.cell (p:=⟨w.heap.size,3,none⟩) zz).trans z3;have pz4:=(hx0.cell (p:=⟨w.heap.size,4,none⟩) zz).trans z4;have pz5:=(hx0.cell (p:=⟨w.heap.size,5,none⟩) zz).trans z5;have pz6:=(hx0.cell (p:=⟨w.heap.size,6,none⟩) zz).trans z6;have pz7:=(hx0.cell (p:=⟨w.heap.size,7,none⟩) zz).trans z7;have pz8:=(hx0.cell (p:=⟨w.heap.size,8,none⟩) zz).trans z8;have pz9:=(hx0.cell (p:=⟨w.heap.size,9,none⟩) zz).trans z9;have pz10:=(hx0.cell (p:=⟨w.heap.size,10,none⟩) zz).trans z10;have pz11:=(hx0.cell (p:=⟨w.heap.size,11,none⟩) zz).trans z11;have pz12:=(hx0.cell (p:=⟨w.heap.size,12,none⟩) zz).trans z12;have pz13:=(hx0.cell (p:=⟨w.heap.size,13,none⟩) zz).trans z13)|(go_at_call 82;(with_reducible refine (HSh.out x0 (Q0a (Q0a HO.out HB.out) hx0)).mono ?_);rintro e x1 ⟨rfl,ho1,st1⟩;have HO1:=Q00 ho1;have HST:=Q00 ((Stp.of HB.out).trans ((Stp.of hx0).trans st1));have qz0:x1.cell? ⟨w.heap.size,0,none⟩=some (.slice (some ⟨g,0,none⟩) mc.length c1):=st1.cell pz0 (by omega) (.inr (by omega));have qz1:x1.cell? ⟨w.heap.size,1,none⟩=some (.slice (some ⟨h,0,none⟩) mt.length c2):=st1.cell pz1 (by omega) (.inr (by omega));have qz2:x1.cell? ⟨w.heap.size,2,none⟩=some (.int .i64 i):=st1.cell pz2 (by omega) (.inr (by omega));have qz3:x1.cell? ⟨w.heap.size,3,none⟩=some (.int .i64 l):=st1.cell pz3 (by omega) (.inr (by omega));have qz4:x1.cell? ⟨w.heap.size,4,none⟩=some (.bool d):=st1.cell pz4 (by omega) (.inr (by omega));have qz5:x1.cell? ⟨w.heap.size,5,none⟩=some (.int .i64 a):=st1.cell pz5 (by omega) (.inr (by omega));have qz6:x1.cell? ⟨w.heap.size,6,none⟩=some (.int .i64 p):=st1.cell pz6 (by omega) (.inr (by omega));have qz7:x1.cell? ⟨w.heap.size,7,none⟩=some (.int .i64 f):=st1.cell pz7 (by omega) (.inr (by omega));have qz8:x1.cell? ⟨w.heap.size,8,none⟩=some (.int .i64 s):=st1.cell pz8 (by omega) (.inr (by omega));have qz9:x1.cell? ⟨w.heap.size,9,none⟩=some (.slice o3 n3 c3):=st1.cell pz9 (by omega) (.inr (by omega));have qz10:x1.cell? ⟨w.heap.size,10,none⟩=some (.slice (some ⟨bg,fg,none⟩) gl cg):=st1.cell pz10 (by omega) (.inr (by omega));have qz11:x1.cell? ⟨w.heap.size,11,none⟩=some (.int .i64 (k:Int)):=st1.cell pz11 (by omega) (.inr (by omega));have qz12:x1.cell? ⟨w.heap.size,12,none⟩=some (.int .i64 st):=st1.cell pz12 (by omega) (.inr (by omega));have qz13:x1.cell? ⟨w.heap.size,13,none⟩=some (.int .i64 now):=st1.cell pz13 (by omega) (.inr (by omega));clear ho1 st1)|fail)
   go_wp2
   go_ret
   exact ⟨rfl,HO1.out,HST.out⟩
 |true=>
  go_enter Try.func57,Try.ntmps57
  go_wp2
  (refine Q05 (by kernel_rfl) (by kernel_rfl) ?_;intro hne9;(repeat (go_big_quiet_step (first|(go_at_call 80;exact Q09 _ (HF.out _))|(go_at_call 39;exact Q09 _ (HS.out _))|(go_at_call 85;exact Q09 _ (HRm.out _))|(go_at_call 86;exact Q09 _ (HCt.out _)))));(with_reducible refine wpQuiet_nil ?_);intro _ hw9;obtain ⟨pq,hw8⟩:=hw9;subst hw8)
  obtain ⟨u1,hu1⟩:∃W,pq.v=W:=⟨_,rfl⟩
  have hb:=pq.b
  rw [hu1] at hb ⊢
  clear G0 G1 G2 G3 G4 G5 G6 G7 G8 G9 G10 G11 G12 G13 HF HS HRm HCt
  replace z0:=bC hb z0 zz
  replace z1:=bC hb z1 zz
  replace z2:=bC hb z2 zz
  replace z3:=bC hb z3 zz
  replace z4:=bC hb z4 zz
  replace z5:=bC hb z5 zz
  replace z6:=bC hb z6 zz
  replace z7:=bC hb z7 zz
  replace z8:=bC hb z8 zz
  replace z9:=bC hb z9 zz
  replace z10:=bC hb z10 zz
  replace z11:=bC hb z11 zz
  replace z12:=bC hb z12 zz
  replace z13:=bC hb z13 zz
  replace zz:=Kbq zz hb.size
  replace HB:=Q00 (HB.out.trans (hb.mono HB.out.size))
  clear hb
  clear hu1 pq
  go_wp2_with fail
  refine (HLv.out u1).mono ?_
  rintro e v1 ⟨rfl,hb⟩
  replace z0:=bC hb z0 zz
  replace z1:=bC hb z1 zz
  replace z2:=bC hb z2 zz
  replace z3:=bC hb z3 zz
  replace z4:=bC hb z4 zz
  replace z5:=bC hb z5 zz
  replace z6:=bC hb z6 zz
  replace z7:=bC hb z7 zz
  replace z8:=bC hb z8 zz
  replace z9:=bC hb z9 zz
  replace z10:=bC hb z10 zz
  replace z11:=bC hb z11 zz
  replace z12:=bC hb z12 zz
  replace z13:=bC hb z13 zz
  replace zz:=Kbq zz hb.size
  replace HB:=Q00 (HB.out.trans (hb.mono HB.out.size))
  clear hb
  have hv:=HV.out
  have ht:=HPT.out
  simp at hv ht
  subst hv
  subst ht
  go_wp2
  go_ret
  exact ⟨rfl,Q0a HO.out HB.out,Stp.of HB.out⟩
theorem Q7t (g h c1 c2:Nat) (mc mt:List Sl) (o3:Option Addr) (n3 c3 bg fg gl cg k:Nat) (i l:Int) (d:Bool) (a p f s st now:Int) (base:Nat) (w:World) (hk:k < gl) (hgl:gl≤1048576) (hfl:Q0c a p=true) (hc0:0 < mc.length) (hc1:mc.length≤1048576) (ht0:0 < mt.length) (ht1:mt.length≤1048576) (hn0:0≤now) (hn1:now≤100000) (zg:g < w.heap.size) (hC:Row w g 0 mc) (ho:w.ownsRow base Q0k 5 (.slice (some ⟨h,0,none⟩) mt.length c2) mt.length (mt.flatMap Q0e.cs)) (e1:(Q0m mt a p).2=false) (e2:Q1g mc d=false):
  Calls Try.prog 57 #[Q3b (.slice (some ⟨g,0,none⟩) mc.length c1) (.slice (some ⟨h,0,none⟩) mt.length c2) i l d a p f s (.slice o3 n3 c3) (.slice (some ⟨bg,fg,none⟩) gl cg) (k:Int) st now] w fun e w'=> e=.returned (.int .i64 (Q23 mc mt d l a p k gl))∧w'.ownsRow base Q0k 5 (.slice (some ⟨h,0,none⟩) mt.length c2) mt.length ((Q2s mc mt d l a p now k gl).flatMap Q0e.cs)∧Stp h (h+1) w w':=by
 have HC:=Q00 hC
 have HT:Hid (Row w h 0 mt):=Q0n ho rfl
 have zh:h < w.heap.size:=(ho.lt h rfl).2
 have HO:=Q00 ho
 clear hC ho
 obtain ⟨W0,hW0⟩:∃W,(w.alloc (.cells #[.slice (some ⟨g,0,none⟩) mc.length c1,.slice (some ⟨h,0,none⟩) mt.length c2,.int .i64 i,.int .i64 l,.bool d,.int .i64 a,.int .i64 p,.int .i64 f,.int .i64 s,.slice o3 n3 c3,.slice (some ⟨bg,fg,none⟩) gl cg,.int .i64 (k:Int),.int .i64 st,.int .i64 now] 74))=W:=⟨_,rfl⟩
 have hb_W0:Below w.heap.size w W0:=by rw [←hW0];exact ((Below.refl _ _).alloc (Kaq _) _)
 have HB:=Q00 hb_W0
 clear hb_W0
 have zz:w.heap.size < W0.heap.size:=by rw [←hW0];simp
 have z0:W0.cell? ⟨w.heap.size,0,none⟩=some (.slice (some ⟨g,0,none⟩) mc.length c1):=by rw [←hW0];simp [go_sem]
 have z1:W0.cell? ⟨w.heap.size,1,none⟩=some (.slice (some ⟨h,0,none⟩) mt.length c2):=by rw [←hW0];simp [go_sem]
 have z2:W0.cell? ⟨w.heap.size,2,none⟩=some (.int .i64 i):=by rw [←hW0];simp [go_sem]
 have z3:W0.cell? ⟨w.heap.size,3,none⟩=some (.int .i64 l):=by rw [←hW0];simp [go_sem]
 have z4:W0.cell? ⟨w.heap.size,4,none⟩=some (.bool d):=by rw [←hW0];simp [go_sem]
 have z5:W0.cell? ⟨w.heap.size,5,none⟩=some (.int .i64 a):=by rw [←hW0];simp [go_sem]
 have z6:W0.cell? ⟨w.heap.size,6,none⟩=some (.int .i64 p):=by rw [←hW0];simp [go_sem]
 have z7:W0.cell? ⟨w.heap.size,7,none⟩=some (.int .i64 f):=by rw [←hW0];simp [go_sem]
 have z8:W0.cell? ⟨w.heap.size,8,none⟩=some (.int .i64 s):=by rw [←hW0];simp [go_sem]
 have z9:W0.cell? ⟨w.heap.size,9,none⟩=some (.slice o3 n3 c3):=by rw [←hW0];simp [go_sem]
 have z10:W0.cell? ⟨w.heap.size,10,none⟩=some (.slice (some ⟨bg,fg,none⟩) gl cg):=by rw [←hW0];simp [go_sem]
 have z11:W0.cell? ⟨w.heap.size,11,none⟩=some (.int .i64 (k:Int)):=by rw [←hW0];simp [go_sem]
 have z12:W0.cell? ⟨w.heap.size,12,none⟩=some (.int .i64 st):=by rw [←hW0];simp [go_sem]
 have z13:W0.cell? ⟨w.heap.size,13,none⟩=some (.int .i64 now):=by rw [←hW0];simp [go_sem]
 have HF:=Q00 (fun pp:Grown W0=> Q0t (some ⟨g,0,none⟩) (some ⟨h,0,none⟩) o3 mc.length c1 mt.length c2 n3 c3 bg fg gl cg k i l d a p f s st now pp.v)
 have HL:=Q00 (fun pp:Grown W0=> Q0J (some ⟨g,0,none⟩) (some ⟨h,0,none⟩) o3 mc.length c1 mt.length c2 n3 c3 bg fg gl cg k i l d a p f s st now pp.v hk hgl)
 have HS:=Q00 (fun pp:Grown W0=> Q1r h 0 c2 mt a p pp.v ht0 ht1 hfl (Kbq (Kbq zh HB.out.size) pp.b.size) (Row.kept (Row.kept HT.out HB.out zh) pp.b (Kbq zh HB.out.size)))
 have HRm:=Q00 (fun pp:Grown W0=> Q1e g 0 c1 mc (some ⟨h,0,none⟩) mt.length c2 i l d pp.v (Kbq (Kbq zg HB.out.size) pp.b.size) (Row.kept (Row.kept HC.out HB.out zg) pp.b (Kbq zg HB.out.size)) hc1)
 have HCt:=Q00 (fun pp:Grown W0=> Q1p g 0 c1 mc pp.v (Kbq (Kbq zg HB.out.size) pp.b.size) (Row.kept (Row.kept HC.out HB.out zg) pp.b (Kbq zg HB.out.size)) hc1)
 have HLv:=Q00 (fun W=> Q0J (some ⟨g,0,none⟩) (some ⟨h,0,none⟩) o3 mc.length c1 mt.length c2 n3 c3 bg fg gl cg k i l d a p f s st now W hk hgl)
 have HFv:=Q00 (fun W=> Q0t (some ⟨g,0,none⟩) (some ⟨h,0,none⟩) o3 mc.length c1 mt.length c2 n3 c3 bg fg gl cg k i l d a p f s st now W)
 have HSh:=Q00 (fun W ho=> Q1Z h c2 base mt a p now W ht0 ht1 hfl hn0 hn1 ho)
 have HV:=Q00 (show Q23 mc mt d l a p k gl=if (Q0M k gl||(!(Q0m mt a p).2 && Q1g mc d && decide ((Q0y mc:Int) < l)))=true then -1 else if 0≤(Q0m mt a p).1 then 2 else 5 from rfl)
 have HPT:=Q00 (show Q2s mc mt d l a p now k gl=if (Q0M k gl||(!(Q0m mt a p).2 && Q1g mc d && decide ((Q0y mc:Int) < l)))=true then mt else Q11 mt a p 0 (now+21) from rfl)
 obtain ⟨lb,hlb⟩:∃q,Q0M k gl=q:=⟨_,rfl⟩
 obtain ⟨sh,hsh⟩:∃q,(Q0m mt a p).2=q:=⟨_,rfl⟩
 obtain ⟨rm,hrm⟩:∃q,Q1g mc d=q:=⟨_,rfl⟩
 obtain ⟨nc,hnc⟩:∃q,Q0y mc=q:=⟨_,rfl⟩
 rw [hlb] at HLv HV HPT
 rw [hsh] at HS HV HPT
 rw [hrm] at HRm HV HPT
 rw [hnc] at HCt HV HPT
 have hsv:=hsh
 have hrv:=hrm
 have hnv:=hnc
 clear hlb hsh hrm hnc HL
 obtain ⟨pv,hpv⟩:∃q,Q23 mc mt d l a p k gl=q:=⟨_,rfl⟩
 obtain ⟨pt,hpt⟩:∃q,Q2s mc mt d l a p now k gl=q:=⟨_,rfl⟩
 rw [hpv] at HV ⊢
 rw [hpt] at HPT ⊢
 clear hpv hpt
 have G0:=Grown.cell z0 zz
 have G1:=Grown.cell z1 zz
 have G2:=Grown.cell z2 zz
 have G3:=Grown.cell z3 zz
 have G4:=Grown.cell z4 zz
 have G5:=Grown.cell z5 zz
 have G6:=Grown.cell z6 zz
 have G7:=Grown.cell z7 zz
 have G8:=Grown.cell z8 zz
 have G9:=Grown.cell z9 zz
 have G10:=Grown.cell z10 zz
 have G11:=Grown.cell z11 zz
 have G12:=Grown.cell z12 zz
 have G13:=Grown.cell z13 zz
 obtain rfl:=hsv.symm.trans e1
 obtain rfl:=hrv.symm.trans e2
 clear e1 e2
 try clear hsv
 try clear hrv
 try clear hnv
 cases lb with
 |false=>
  go_enter Try.func57,Try.ntmps57
  go_wp2
  (refine Q05 (by kernel_rfl) (by kernel_rfl) ?_;intro hne9;(repeat (go_big_quiet_step (first|(go_at_call 80;exact Q09 _ (HF.out _))|(go_at_call 39;exact Q09 _ (HS.out _))|(go_at_call 85;exact Q09 _ (HRm.out _))|(go_at_call 86;exact Q09 _ (HCt.out _)))));(with_reducible refine wpQuiet_nil ?_);intro _ hw9;obtain ⟨pq,hw8⟩:=hw9;subst hw8)
  obtain ⟨u1,hu1⟩:∃W,pq.v=W:=⟨_,rfl⟩
  have hb:=pq.b
  rw [hu1] at hb ⊢
  clear G0 G1 G2 G3 G4 G5 G6 G7 G8 G9 G10 G11 G12 G13 HF HS HRm HCt
  replace z0:=bC hb z0 zz
  replace z1:=bC hb z1 zz
  replace z2:=bC hb z2 zz
  replace z3:=bC hb z3 zz
  replace z4:=bC hb z4 zz
  replace z5:=bC hb z5 zz
  replace z6:=bC hb z6 zz
  replace z7:=bC hb z7 zz
  replace z8:=bC hb z8 zz
  replace z9:=bC hb z9 zz
  replace z10:=bC hb z10 zz
  replace z11:=bC hb z11 zz
  replace z12:=bC hb z12 zz
  replace z13:=bC hb z13 zz
  replace zz:=Kbq zz hb.size
  replace HB:=Q00 (HB.out.trans (hb.mono HB.out.size))
  clear hb
  clear hu1 pq
  go_wp2_with fail
  refine (HLv.out u1).mono ?_
  rintro e v1 ⟨rfl,hb⟩
  replace z0:=bC hb z0 zz
  replace z1:=bC hb z1 zz
  replace z2:=bC hb z2 zz
  replace z3:=bC hb z3 zz
  replace z4:=bC hb z4 zz
  replace z5:=bC hb z5 zz
  replace z6:=bC hb z6 zz
  replace z7:=bC hb z7 zz
  replace z8:=bC hb z8 zz
  replace z9:=bC hb z9 zz
  replace z10:=bC hb z10 zz
  replace z11:=bC hb z11 zz
  replace z12:=bC hb z12 zz
  replace z13:=bC hb z13 zz
  replace zz:=Kbq zz hb.size
  replace HB:=Q00 (HB.out.trans (hb.mono HB.out.size))
  clear hb
  by_cases hok:0≤(Q0m mt a p).1
  ·rw [decide_eq_true hok] at HSh
   have hv:=HV.out
   have ht:=HPT.out
   simp [hok] at hv ht
   subst hv
   subst ht
   clear hok
   go_wp2
   go_region_held3 (fun w'=> w'.cell? ⟨w.heap.size,0,none⟩=some (.slice (some ⟨g,0,none⟩) mc.length c1)∧w'.cell? ⟨w.heap.size,1,none⟩=some (.slice (some ⟨h,0,none⟩) mt.length c2)∧w'.cell? ⟨w.heap.size,2,none⟩=some (.int .i64 i)∧w'.cell? ⟨w.heap.size,3,none⟩=some (.int .i64 l)∧w'.cell? ⟨w.heap.size,4,none⟩=some (.bool d)∧w'.cell? ⟨w.heap.size,5,none⟩=some (.int .i64 a)∧w'.cell? ⟨w.heap.size,6,none⟩=some (.int .i64 p)∧w'.cell? ⟨w.heap.size,7,none⟩=some (.int .i64 f)∧w'.cell? ⟨w.heap.size,8,none⟩=some (.int .i64 s)∧w'.cell? ⟨w.heap.size,9,none⟩=some (.slice o3 n3 c3)∧w'.cell? ⟨w.heap.size,10,none⟩=some (.slice (some ⟨bg,fg,none⟩) gl cg)∧w'.cell? ⟨w.heap.size,11,none⟩=some (.int .i64 (k:Int))∧w'.cell? ⟨w.heap.size,12,none⟩=some (.int .i64 st)∧w'.cell? ⟨w.heap.size,13,none⟩=some (.int .i64 now)) (first|with_reducible exact ⟨qz0,qz1,qz2,qz3,qz4,qz5,qz6,qz7,qz8,qz9,qz10,qz11,qz12,qz13⟩|with_reducible exact ⟨pz0,pz1,pz2,pz3,pz4,pz5,pz6,pz7,pz8,pz9,pz10,pz11,pz12,pz13⟩|exact ⟨z0,z1,z2,z3,z4,z5,z6,z7,z8,z9,z10,z11,z12,z13⟩|go_keep) (first|(go_at_call 80;(with_reducible refine (HFv.out v1.drew).mono ?_);rintro e x0 ⟨rfl,hb⟩;have hx0:Below v1.heap.size v1 x0:=(Below.drew (Below.refl _ _)).trans hb;have sx0:=hx0.size;clear hb;have pz0:=(hx0.cell (p:=⟨w.heap.size,0,none⟩) zz).trans z0;have pz1:=(hx0.cell (p:=⟨w.heap.size,1,none⟩) zz).trans z1;have pz2:=(hx0.cell (p:=⟨w.heap.size,2,none⟩) zz).trans z2;have pz3:=(hx0.cell (p:=⟨w.heap.size,3,none⟩) zz).trans z3;have pz4:=(hx0.cell (p:=⟨w.heap.size,4,none⟩) zz).trans z4;have pz5:=(hx0.cell (p:=⟨w.heap.size,5,none⟩) zz).trans z5;have pz6:=(hx0.cell (p:=⟨w.heap.size,6,none⟩) zz).trans z6;have pz7:=(hx0.cell (p:=⟨w.heap.size,7,none⟩) zz).trans z7;have pz8:=(hx0.cell (p:=⟨w.heap.size,8,none⟩) zz).trans z8;have pz9:=(hx0.cell (p:=⟨w.heap.size,9,none⟩) zz).trans z9;have pz10:=(hx0.cell (p:=⟨w.heap.size,10,none⟩) zz).trans z10;have pz11:=(hx0.cell (p:=⟨w.heap.size,11,none⟩) zz).trans z11;have pz12:=(hx0.cell (p:=⟨w.heap.size,12,none⟩) zz).trans z12;have pz13:=(hx0.cell (p:=⟨w.heap.size,13,none⟩) zz).trans z13)|(go_at_call 82;(with_reducible refine (HSh.out x0 (Q0a (Q0a HO.out HB.out) hx0)).mono ?_);rintro e x1 ⟨rfl,ho1,st1⟩;have HO1:=Q00 ho1;have HST:=Q00 ((Stp.of HB.out).trans ((Stp.of hx0).trans st1));have qz0:x1.cell? ⟨w.heap.size,0,none⟩=some (.slice (some ⟨g,0,none⟩) mc.length c1):=st1.cell pz0 (by omega) (.inr (by omega));have qz1:x1.cell? ⟨w.heap.size,1,none⟩=some (.slice (some ⟨h,0,none⟩) mt.length c2):=st1.cell pz1 (by omega) (.inr (by omega));have qz2:x1.cell? ⟨w.heap.size,2,none⟩=some (.int .i64 i):=st1.cell pz2 (by omega) (.inr (by omega));have qz3:x1.cell? ⟨w.heap.size,3,none⟩=some (.int .i64 l):=st1.cell pz3 (by omega) (.inr (by omega));have qz4:x1.cell? ⟨w.heap.size,4,none⟩=some (.bool d):=st1.cell pz4 (by omega) (.inr (by omega));have qz5:x1.cell? ⟨w.heap.size,5,none⟩=some (.int .i64 a):=st1.cell pz5 (by omega) (.inr (by omega));have qz6:x1.cell? ⟨w.heap.size,6,none⟩=some (.int .i64 p):=st1.cell pz6 (by omega) (.inr (by omega));have qz7:x1.cell? ⟨w.heap.size,7,none⟩=some (.int .i64 f):=st1.cell pz7 (by omega) (.inr (by omega));have qz8:x1.cell? ⟨w.heap.size,8,none⟩=some (.int .i64 s):=st1.cell pz8 (by omega) (.inr (by omega));have qz9:x1.cell? ⟨w.heap.size,9,none⟩=some (.slice o3 n3 c3):=st1.cell pz9 (by omega) (.inr (by omega));have qz10:x1.cell? ⟨w.heap.size,10,none⟩=some (.slice (some ⟨bg,fg,none⟩) gl cg):=st1.cell pz10 (by omega) (.inr (by omega));have qz11:x1.cell? ⟨w.heap.size,11,none⟩=some (.int .i64 (k:Int)):=st1.cell pz11 (by omega) (.inr (by omega));have qz12:x1.cell? ⟨w.heap.size,12,none⟩=some (.int .i64 st):=st1.cell pz12 (by omega) (.inr (by omega));have qz13:x1.cell? ⟨w.heap.size,13,none⟩=some (.int .i64 now):=st1.cell pz13 (by omega) (.inr (by omega));clear ho1 st1)|fail)
   go_wp2
   go_ret
   exact ⟨rfl,HO1.out,HST.out⟩
  ·rw [decide_eq_false hok] at HSh
   have hv:=HV.out
   have ht:=HPT.out
   simp [hok] at hv ht
   subst hv
   subst ht
   clear hok
   go_wp2
   go_region_held3 (fun w'=> w'.cell? ⟨w.heap.size,0,none⟩=some (.slice (some ⟨g,0,none⟩) mc.length c1)∧w'.cell? ⟨w.heap.size,1,none⟩=some (.slice (some ⟨h,0,none⟩) mt.length c2)∧w'.cell? ⟨w.heap.size,2,none⟩=some (.int .i64 i)∧w'.cell? ⟨w.heap.size,3,none⟩=some (.int .i64 l)∧w'.cell? ⟨w.heap.size,4,none⟩=some (.bool d)∧w'.cell? ⟨w.heap.size,5,none⟩=some (.int .i64 a)∧w'.cell? ⟨w.heap.size,6,none⟩=some (.int .i64 p)∧w'.cell? ⟨w.heap.size,7,none⟩=some (.int .i64 f)∧w'.cell? ⟨w.heap.size,8,none⟩=some (.int .i64 s)∧w'.cell? ⟨w.heap.size,9,none⟩=some (.slice o3 n3 c3)∧w'.cell? ⟨w.heap.size,10,none⟩=some (.slice (some ⟨bg,fg,none⟩) gl cg)∧w'.cell? ⟨w.heap.size,11,none⟩=some (.int .i64 (k:Int))∧w'.cell? ⟨w.heap.size,12,none⟩=some (.int .i64 st)∧w'.cell? ⟨w.heap.size,13,none⟩=some (.int .i64 now)) (first|with_reducible exact ⟨qz0,qz1,qz2,qz3,qz4,qz5,qz6,qz7,qz8,qz9,qz10,qz11,qz12,qz13⟩|with_reducible exact ⟨pz0,pz1,pz2,pz3,pz4,pz5,pz6,pz7,pz8,pz9,pz10,pz11,pz12,pz13⟩|exact ⟨z0,z1,z2,z3,z4,z5,z6,z7,z8,z9,z10,z11,z12,z13⟩|go_keep) (first|(go_at_call 80;(with_reducible refine (HFv.out v1.drew).mono ?_);rintro e x0 ⟨rfl,hb⟩;have hx0:Below v1.heap.size v1 x0:=(Below.drew (Below.refl _ _)).trans hb;have sx0:=hx0.size;clear hb;have pz0:=(hx0.cell (p:=⟨w.heap.size,0,none⟩) zz).trans z0;have pz1:=(hx0.cell (p:=⟨w.heap.size,1,none⟩) zz).trans z1;have pz2:=(hx0.cell (p:=⟨w.heap.size,2,none⟩) zz).trans z2;have pz3:=(hx0.cell (p:=⟨w.heap.size,3,none⟩) zz).trans z3;have pz4:=(hx0.cell (p:=⟨w.heap.size,4,none⟩) zz).trans z4;have pz5:=(hx0.cell (p:=⟨w.heap.size,5,none⟩) zz).trans z5;have pz6:=(hx0.cell (p:=⟨w.heap.size,6,none⟩) zz).trans z6;have pz7:=(hx0.cell (p:=⟨w.heap.size,7,none⟩) zz).trans z7;have pz8:=(hx0.cell (p:=⟨w.heap.size,8,none⟩) zz).trans z8;have pz9:=(hx0.cell (p:=⟨w.heap.size,9,none⟩) zz).trans z9;have pz10:=(hx0.cell (p:=⟨w.heap.size,10,none⟩) zz).trans z10;have pz11:=(hx0.cell (p:=⟨w.heap.size,11,none⟩) zz).trans z11;have pz12:=(hx0.cell (p:=⟨w.heap.size,12,none⟩) zz).trans z12;have pz13:=(hx0.cell (p:=⟨w.heap.size,13,none⟩) zz).trans z13)|(go_at_call 82;(with_reducible refine (HSh.out x0 (Q0a (Q0a HO.out HB.out) hx0)).mono ?_);rintro e x1 ⟨rfl,ho1,st1⟩;have HO1:=Q00 ho1;have HST:=Q00 ((Stp.of HB.out).trans ((Stp.of hx0).trans st1));have qz0:x1.cell? ⟨w.heap.size,0,none⟩=some (.slice (some ⟨g,0,none⟩) mc.length c1):=st1.cell pz0 (by omega) (.inr (by omega));have qz1:x1.cell? ⟨w.heap.size,1,none⟩=some (.slice (some ⟨h,0,none⟩) mt.length c2):=st1.cell pz1 (by omega) (.inr (by omega));have qz2:x1.cell? ⟨w.heap.size,2,none⟩=some (.int .i64 i):=st1.cell pz2 (by omega) (.inr (by omega));have qz3:x1.cell? ⟨w.heap.size,3,none⟩=some (.int .i64 l):=st1.cell pz3 (by omega) (.inr (by omega));have qz4:x1.cell? ⟨w.heap.size,4,none⟩=some (.bool d):=st1.cell pz4 (by omega) (.inr (by omega));have qz5:x1.cell? ⟨w.heap.size,5,none⟩=some (.int .i64 a):=st1.cell pz5 (by omega) (.inr (by omega));have qz6:x1.cell? ⟨w.heap.size,6,none⟩=some (.int .i64 p):=st1.cell pz6 (by omega) (.inr (by omega));have qz7:x1.cell? ⟨w.heap.size,7,none⟩=some (.int .i64 f):=st1.cell pz7 (by omega) (.inr (by omega));have qz8:x1.cell? ⟨w.heap.size,8,none⟩=some (.int .i64 s):=st1.cell pz8 (by omega) (.inr (by omega));have qz9:x1.cell? ⟨w.heap.size,9,none⟩=some (.slice o3 n3 c3):=st1.cell pz9 (by omega) (.inr (by omega));have qz10:x1.cell? ⟨w.heap.size,10,none⟩=some (.slice (some ⟨bg,fg,none⟩) gl cg):=st1.cell pz10 (by omega) (.inr (by omega));have qz11:x1.cell? ⟨w.heap.size,11,none⟩=some (.int .i64 (k:Int)):=st1.cell pz11 (by omega) (.inr (by omega));have qz12:x1.cell? ⟨w.heap.size,12,none⟩=some (.int .i64 st):=st1.cell pz12 (by omega) (.inr (by omega));have qz13:x1.cell? ⟨w.heap.size,13,none⟩=some (.int .i64 now):=st1.cell pz13 (by omega) (.inr (by omega));clear ho1 st1)|fail)
   go_wp2
   go_ret
   exact ⟨rfl,HO1.out,HST.out⟩
 |true=>
  go_enter Try.func57,Try.ntmps57
  go_wp2
  (refine Q05 (by kernel_rfl) (by kernel_rfl) ?_;intro hne9;(repeat (go_big_quiet_step (first|(go_at_call 80;exact Q09 _ (HF.out _))|(go_at_call 39;exact Q09 _ (HS.out _))|(go_at_call 85;exact Q09 _ (HRm.out _))|(go_at_call 86;exact Q09 _ (HCt.out _)))));(with_reducible refine wpQuiet_nil ?_);intro _ hw9;obtain ⟨pq,hw8⟩:=hw9;subst hw8)
  obtain ⟨u1,hu1⟩:∃W,pq.v=W:=⟨_,rfl⟩
  have hb:=pq.b
  rw [hu1] at hb ⊢
  clear G0 G1 G2 G3 G4 G5 G6 G7 G8 G9 G10 G11 G12 G13 HF HS HRm HCt
  replace z0:=bC hb z0 zz
  replace z1:=bC hb z1 zz
  replace z2:=bC hb z2 zz
  replace z3:=bC hb z3 zz
  replace z4:=bC hb z4 zz
  replace z5:=bC hb z5 zz
  replace z6:=bC hb z6 zz
  replace z7:=bC hb z7 zz
  replace z8:=bC hb z8 zz
  replace z9:=bC hb z9 zz
  replace z10:=bC hb z10 zz
  replace z11:=bC hb z11 zz
  replace z12:=bC hb z12 zz
  replace z13:=bC hb z13 zz
  replace zz:=Kbq zz hb.size
  replace HB:=Q00 (HB.out.trans (hb.mono HB.out.size))
  clear hb
  clear hu1 pq
  go_wp2_with fail
  refine (HLv.out u1).mono ?_
  rintro e v1 ⟨rfl,hb⟩
  replace z0:=bC hb z0 zz
  replace z1:=bC hb z1 zz
  replace z2:=bC hb z2 zz
  replace z3:=bC hb z3 zz
  replace z4:=bC hb z4 zz
  replace z5:=bC hb z5 zz
  replace z6:=bC hb z6 zz
  replace z7:=bC hb z7 zz
  replace z8:=bC hb z8 zz
  replace z9:=bC hb z9 zz
  replace z10:=bC hb z10 zz
  replace z11:=bC hb z11 zz
  replace z12:=bC hb z12 zz
  replace z13:=bC hb z13 zz
  replace zz:=Kbq zz hb.size
  replace HB:=Q00 (HB.out.trans (hb.mono HB.out.size))
  clear hb
  have hv:=HV.out
  have ht:=HPT.out
  simp at hv ht
  subst hv
  subst ht
  go_wp2
  go_ret
  exact ⟨rfl,Q0a HO.out HB.out,Stp.of HB.out⟩
theorem Q7E (g h c1 c2:Nat) (mc mt:List Sl) (o3:Option Addr) (n3 c3 bg fg gl cg k:Nat) (i l:Int) (d:Bool) (a p f s st now:Int) (base:Nat) (w:World) (hk:k < gl) (hgl:gl≤1048576) (hfl:Q0c a p=true) (hc0:0 < mc.length) (hc1:mc.length≤1048576) (ht0:0 < mt.length) (ht1:mt.length≤1048576) (hn0:0≤now) (hn1:now≤100000) (zg:g < w.heap.size) (hC:Row w g 0 mc) (ho:w.ownsRow base Q0k 5 (.slice (some ⟨h,0,none⟩) mt.length c2) mt.length (mt.flatMap Q0e.cs)) (e1:(Q0m mt a p).2=false) (e2:Q1g mc d=true) (e3:(Q0y mc:Int) < l):
  Calls Try.prog 57 #[Q3b (.slice (some ⟨g,0,none⟩) mc.length c1) (.slice (some ⟨h,0,none⟩) mt.length c2) i l d a p f s (.slice o3 n3 c3) (.slice (some ⟨bg,fg,none⟩) gl cg) (k:Int) st now] w fun e w'=> e=.returned (.int .i64 (Q23 mc mt d l a p k gl))∧w'.ownsRow base Q0k 5 (.slice (some ⟨h,0,none⟩) mt.length c2) mt.length ((Q2s mc mt d l a p now k gl).flatMap Q0e.cs)∧Stp h (h+1) w w':=by
 have HC:=Q00 hC
 have HT:Hid (Row w h 0 mt):=Q0n ho rfl
 have zh:h < w.heap.size:=(ho.lt h rfl).2
 have HO:=Q00 ho
 clear hC ho
 obtain ⟨W0,hW0⟩:∃W,(w.alloc (.cells #[.slice (some ⟨g,0,none⟩) mc.length c1,.slice (some ⟨h,0,none⟩) mt.length c2,.int .i64 i,.int .i64 l,.bool d,.int .i64 a,.int .i64 p,.int .i64 f,.int .i64 s,.slice o3 n3 c3,.slice (some ⟨bg,fg,none⟩) gl cg,.int .i64 (k:Int),.int .i64 st,.int .i64 now] 74))=W:=⟨_,rfl⟩
 have hb_W0:Below w.heap.size w W0:=by rw [←hW0];exact ((Below.refl _ _).alloc (Kaq _) _)
 have HB:=Q00 hb_W0
 clear hb_W0
 have zz:w.heap.size < W0.heap.size:=by rw [←hW0];simp
 have z0:W0.cell? ⟨w.heap.size,0,none⟩=some (.slice (some ⟨g,0,none⟩) mc.length c1):=by rw [←hW0];simp [go_sem]
 have z1:W0.cell? ⟨w.heap.size,1,none⟩=some (.slice (some ⟨h,0,none⟩) mt.length c2):=by rw [←hW0];simp [go_sem]
 have z2:W0.cell? ⟨w.heap.size,2,none⟩=some (.int .i64 i):=by rw [←hW0];simp [go_sem]
 have z3:W0.cell? ⟨w.heap.size,3,none⟩=some (.int .i64 l):=by rw [←hW0];simp [go_sem]
 have z4:W0.cell? ⟨w.heap.size,4,none⟩=some (.bool d):=by rw [←hW0];simp [go_sem]
 have z5:W0.cell? ⟨w.heap.size,5,none⟩=some (.int .i64 a):=by rw [←hW0];simp [go_sem]
 have z6:W0.cell? ⟨w.heap.size,6,none⟩=some (.int .i64 p):=by rw [←hW0];simp [go_sem]
 have z7:W0.cell? ⟨w.heap.size,7,none⟩=some (.int .i64 f):=by rw [←hW0];simp [go_sem]
 have z8:W0.cell? ⟨w.heap.size,8,none⟩=some (.int .i64 s):=by rw [←hW0];simp [go_sem]
 have z9:W0.cell? ⟨w.heap.size,9,none⟩=some (.slice o3 n3 c3):=by rw [←hW0];simp [go_sem]
 have z10:W0.cell? ⟨w.heap.size,10,none⟩=some (.slice (some ⟨bg,fg,none⟩) gl cg):=by rw [←hW0];simp [go_sem]
 have z11:W0.cell? ⟨w.heap.size,11,none⟩=some (.int .i64 (k:Int)):=by rw [←hW0];simp [go_sem]
 have z12:W0.cell? ⟨w.heap.size,12,none⟩=some (.int .i64 st):=by rw [←hW0];simp [go_sem]
 have z13:W0.cell? ⟨w.heap.size,13,none⟩=some (.int .i64 now):=by rw [←hW0];simp [go_sem]
 have HF:=Q00 (fun pp:Grown W0=> Q0t (some ⟨g,0,none⟩) (some ⟨h,0,none⟩) o3 mc.length c1 mt.length c2 n3 c3 bg fg gl cg k i l d a p f s st now pp.v)
 have HL:=Q00 (fun pp:Grown W0=> Q0J (some ⟨g,0,none⟩) (some ⟨h,0,none⟩) o3 mc.length c1 mt.length c2 n3 c3 bg fg gl cg k i l d a p f s st now pp.v hk hgl)
 have HS:=Q00 (fun pp:Grown W0=> Q1r h 0 c2 mt a p pp.v ht0 ht1 hfl (Kbq (Kbq zh HB.out.size) pp.b.size) (Row.kept (Row.kept HT.out HB.out zh) pp.b (Kbq zh HB.out.size)))
 have HRm:=Q00 (fun pp:Grown W0=> Q1e g 0 c1 mc (some ⟨h,0,none⟩) mt.length c2 i l d pp.v (Kbq (Kbq zg HB.out.size) pp.b.size) (Row.kept (Row.kept HC.out HB.out zg) pp.b (Kbq zg HB.out.size)) hc1)
 have HCt:=Q00 (fun pp:Grown W0=> Q1p g 0 c1 mc pp.v (Kbq (Kbq zg HB.out.size) pp.b.size) (Row.kept (Row.kept HC.out HB.out zg) pp.b (Kbq zg HB.out.size)) hc1)
 have HLv:=Q00 (fun W=> Q0J (some ⟨g,0,none⟩) (some ⟨h,0,none⟩) o3 mc.length c1 mt.length c2 n3 c3 bg fg gl cg k i l d a p f s st now W hk hgl)
 have HFv:=Q00 (fun W=> Q0t (some ⟨g,0,none⟩) (some ⟨h,0,none⟩) o3 mc.length c1 mt.length c2 n3 c3 bg fg gl cg k i l d a p f s st now W)
 have HSh:=Q00 (fun W ho=> Q1Z h c2 base mt a p now W ht0 ht1 hfl hn0 hn1 ho)
 have HV:=Q00 (show Q23 mc mt d l a p k gl=if (Q0M k gl||(!(Q0m mt a p).2 && Q1g mc d && decide ((Q0y mc:Int) < l)))=true then -1 else if 0≤(Q0m mt a p).1 then 2 else 5 from rfl)
 have HPT:=Q00 (show Q2s mc mt d l a p now k gl=if (Q0M k gl||(!(Q0m mt a p).2 && Q1g mc d && decide ((Q0y mc:Int) < l)))=true then mt else Q11 mt a p 0 (now+21) from rfl)
 obtain ⟨lb,hlb⟩:∃q,Q0M k gl=q:=⟨_,rfl⟩
 obtain ⟨sh,hsh⟩:∃q,(Q0m mt a p).2=q:=⟨_,rfl⟩
 obtain ⟨rm,hrm⟩:∃q,Q1g mc d=q:=⟨_,rfl⟩
 obtain ⟨nc,hnc⟩:∃q,Q0y mc=q:=⟨_,rfl⟩
 rw [hlb] at HLv HV HPT
 rw [hsh] at HS HV HPT
 rw [hrm] at HRm HV HPT
 rw [hnc] at HCt HV HPT
 have hsv:=hsh
 have hrv:=hrm
 have hnv:=hnc
 clear hlb hsh hrm hnc HL
 obtain ⟨pv,hpv⟩:∃q,Q23 mc mt d l a p k gl=q:=⟨_,rfl⟩
 obtain ⟨pt,hpt⟩:∃q,Q2s mc mt d l a p now k gl=q:=⟨_,rfl⟩
 rw [hpv] at HV ⊢
 rw [hpt] at HPT ⊢
 clear hpv hpt
 have G0:=Grown.cell z0 zz
 have G1:=Grown.cell z1 zz
 have G2:=Grown.cell z2 zz
 have G3:=Grown.cell z3 zz
 have G4:=Grown.cell z4 zz
 have G5:=Grown.cell z5 zz
 have G6:=Grown.cell z6 zz
 have G7:=Grown.cell z7 zz
 have G8:=Grown.cell z8 zz
 have G9:=Grown.cell z9 zz
 have G10:=Grown.cell z10 zz
 have G11:=Grown.cell z11 zz
 have G12:=Grown.cell z12 zz
 have G13:=Grown.cell z13 zz
 obtain rfl:=hsv.symm.trans e1
 obtain rfl:=hrv.symm.trans e2
 have hlt:=e3
 rw [hnv] at hlt
 rw [decide_eq_true hlt] at HV HPT
 clear e3
 clear e1 e2
 try clear hsv
 try clear hrv
 try clear hnv
 cases lb with
 |false=>
  go_enter Try.func57,Try.ntmps57
  go_wp2
  (refine Q05 (by kernel_rfl) (by kernel_rfl) ?_;intro hne9;(repeat (go_big_quiet_step (first|(go_at_call 80;exact Q09 _ (HF.out _))|(go_at_call 39;exact Q09 _ (HS.out _))|(go_at_call 85;exact Q09 _ (HRm.out _))|(go_at_call 86;exact Q09 _ (HCt.out _)))));(with_reducible refine wpQuiet_nil ?_);intro _ hw9;obtain ⟨pq,hw8⟩:=hw9;subst hw8)
  obtain ⟨u1,hu1⟩:∃W,pq.v=W:=⟨_,rfl⟩
  have hb:=pq.b
  rw [hu1] at hb ⊢
  clear G0 G1 G2 G3 G4 G5 G6 G7 G8 G9 G10 G11 G12 G13 HF HS HRm HCt
  replace z0:=bC hb z0 zz
  replace z1:=bC hb z1 zz
  replace z2:=bC hb z2 zz
  replace z3:=bC hb z3 zz
  replace z4:=bC hb z4 zz
  replace z5:=bC hb z5 zz
  replace z6:=bC hb z6 zz
  replace z7:=bC hb z7 zz
  replace z8:=bC hb z8 zz
  replace z9:=bC hb z9 zz
  replace z10:=bC hb z10 zz
  replace z11:=bC hb z11 zz
  replace z12:=bC hb z12 zz
  replace z13:=bC hb z13 zz
  replace zz:=Kbq zz hb.size
  replace HB:=Q00 (HB.out.trans (hb.mono HB.out.size))
  clear hb
  clear hu1 pq
  go_wp2_with fail
  refine (HLv.out u1).mono ?_
  rintro e v1 ⟨rfl,hb⟩
  replace z0:=bC hb z0 zz
  replace z1:=bC hb z1 zz
  replace z2:=bC hb z2 zz
  replace z3:=bC hb z3 zz
  replace z4:=bC hb z4 zz
  replace z5:=bC hb z5 zz
  replace z6:=bC hb z6 zz
  replace z7:=bC hb z7 zz
  replace z8:=bC hb z8 zz
  replace z9:=bC hb z9 zz
  replace z10:=bC hb z10 zz
  replace z11:=bC hb z11 zz
  replace z12:=bC hb z12 zz
  replace z13:=bC hb z13 zz
  replace zz:=Kbq zz hb.size
  replace HB:=Q00 (HB.out.trans (hb.mono HB.out.size))
  clear hb
  have hv:=HV.out
  have ht:=HPT.out
  simp at hv ht
  subst hv
  subst ht
  go_wp2
  go_ret
  exact ⟨rfl,Q0a HO.out HB.out,Stp.of HB.out⟩
 |true=>
  go_enter Try.func57,Try.ntmps57
  go_wp2
  (refine Q05 (by kernel_rfl) (by kernel_rfl) ?_;intro hne9;(repeat (go_big_quiet_step (first|(go_at_call 80;exact Q09 _ (HF.out _))|(go_at_call 39;exact Q09 _ (HS.out _))|(go_at_call 85;exact Q09 _ (HRm.out _))|(go_at_call 86;exact Q09 _ (HCt.out _)))));(with_reducible refine wpQuiet_nil ?_);intro _ hw9;obtain ⟨pq,hw8⟩:=hw9;subst hw8)
  obtain ⟨u1,hu1⟩:∃W,pq.v=W:=⟨_,rfl⟩
  have hb:=pq.b
  rw [hu1] at hb ⊢
  clear G0 G1 G2 G3 G4 G5 G6 G7 G8 G9 G10 G11 G12 G13 HF HS HRm HCt
  replace z0:=bC hb z0 zz
  replace z1:=bC hb z1 zz
  replace z2:=bC hb z2 zz
  replace z3:=bC hb z3 zz
  replace z4:=bC hb z4 zz
  replace z5:=bC hb z5 zz
  replace z6:=bC hb z6 zz
  replace z7:=bC hb z7 zz
  replace z8:=bC hb z8 zz
  replace z9:=bC hb z9 zz
  replace z10:=bC hb z10 zz
  replace z11:=bC hb z11 zz
  replace z12:=bC hb z12 zz
  replace z13:=bC hb z13 zz
  replace zz:=Kbq zz hb.size
  replace HB:=Q00 (HB.out.trans (hb.mono HB.out.size))
  clear hb
  clear hu1 pq
  go_wp2_with fail
  refine (HLv.out u1).mono ?_
  rintro e v1 ⟨rfl,hb⟩
  replace z0:=bC hb z0 zz
  replace z1:=bC hb z1 zz
  replace z2:=bC hb z2 zz
  replace z3:=bC hb z3 zz
  replace z4:=bC hb z4 zz
  replace z5:=bC hb z5 zz
  replace z6:=bC hb z6 zz
  replace z7:=bC hb z7 zz
  replace z8:=bC hb z8 zz
  replace z9:=bC hb z9 zz
  replace z10:=bC hb z10 zz
  replace z11:=bC hb z11 zz
  replace z12:=bC hb z12 zz
  replace z13:=bC hb z13 zz
  replace zz:=Kbq zz hb.size
  replace HB:=Q00 (HB.out.trans (hb.mono HB.out.size))
  clear hb
  have hv:=HV.out
  have ht:=HPT.out
  simp at hv ht
  subst hv
  subst ht
  go_wp2
  go_ret
  exact ⟨rfl,Q0a HO.out HB.out,Stp.of HB.out⟩
theorem Q7K (g h c1 c2:Nat) (mc mt:List Sl) (o3:Option Addr) (n3 c3 bg fg gl cg k:Nat) (i l:Int) (d:Bool) (a p f s st now:Int) (base:Nat) (w:World) (hk:k < gl) (hgl:gl≤1048576) (hfl:Q0c a p=true) (hc0:0 < mc.length) (hc1:mc.length≤1048576) (ht0:0 < mt.length) (ht1:mt.length≤1048576) (hn0:0≤now) (hn1:now≤100000) (zg:g < w.heap.size) (hC:Row w g 0 mc) (ho:w.ownsRow base Q0k 5 (.slice (some ⟨h,0,none⟩) mt.length c2) mt.length (mt.flatMap Q0e.cs)) (e1:(Q0m mt a p).2=false) (e2:Q1g mc d=true) (e3:¬((Q0y mc:Int) < l)):
  Calls Try.prog 57 #[Q3b (.slice (some ⟨g,0,none⟩) mc.length c1) (.slice (some ⟨h,0,none⟩) mt.length c2) i l d a p f s (.slice o3 n3 c3) (.slice (some ⟨bg,fg,none⟩) gl cg) (k:Int) st now] w fun e w'=> e=.returned (.int .i64 (Q23 mc mt d l a p k gl))∧w'.ownsRow base Q0k 5 (.slice (some ⟨h,0,none⟩) mt.length c2) mt.length ((Q2s mc mt d l a p now k gl).flatMap Q0e.cs)∧Stp h (h+1) w w':=by
 have HC:=Q00 hC
 have HT:Hid (Row w h 0 mt):=Q0n ho rfl
 have zh:h < w.heap.size:=(ho.lt h rfl).2
 have HO:=Q00 ho
 clear hC ho
 obtain ⟨W0,hW0⟩:∃W,(w.alloc (.cells #[.slice (some ⟨g,0,none⟩) mc.length c1,.slice (some ⟨h,0,none⟩) mt.length c2,.int .i64 i,.int .i64 l,.bool d,.int .i64 a,.int .i64 p,.int .i64 f,.int .i64 s,.slice o3 n3 c3,.slice (some ⟨bg,fg,none⟩) gl cg,.int .i64 (k:Int),.int .i64 st,.int .i64 now] 74))=W:=⟨_,rfl⟩
 have hb_W0:Below w.heap.size w W0:=by rw [←hW0];exact ((Below.refl _ _).alloc (Kaq _) _)
 have HB:=Q00 hb_W0
 clear hb_W0
 have zz:w.heap.size < W0.heap.size:=by rw [←hW0];simp
 have z0:W0.cell? ⟨w.heap.size,0,none⟩=some (.slice (some ⟨g,0,none⟩) mc.length c1):=by rw [←hW0];simp [go_sem]
 have z1:W0.cell? ⟨w.heap.size,1,none⟩=some (.slice (some ⟨h,0,none⟩) mt.length c2):=by rw [←hW0];simp [go_sem]
 have z2:W0.cell? ⟨w.heap.size,2,none⟩=some (.int .i64 i):=by rw [←hW0];simp [go_sem]
 have z3:W0.cell? ⟨w.heap.size,3,none⟩=some (.int .i64 l):=by rw [←hW0];simp [go_sem]
 have z4:W0.cell? ⟨w.heap.size,4,none⟩=some (.bool d):=by rw [←hW0];simp [go_sem]
 have z5:W0.cell? ⟨w.heap.size,5,none⟩=some (.int .i64 a):=by rw [←hW0];simp [go_sem]
 have z6:W0.cell? ⟨w.heap.size,6,none⟩=some (.int .i64 p):=by rw [←hW0];simp [go_sem]
 have z7:W0.cell? ⟨w.heap.size,7,none⟩=some (.int .i64 f):=by rw [←hW0];simp [go_sem]
 have z8:W0.cell? ⟨w.heap.size,8,none⟩=some (.int .i64 s):=by rw [←hW0];simp [go_sem]
 have z9:W0.cell? ⟨w.heap.size,9,none⟩=some (.slice o3 n3 c3):=by rw [←hW0];simp [go_sem]
 have z10:W0.cell? ⟨w.heap.size,10,none⟩=some (.slice (some ⟨bg,fg,none⟩) gl cg):=by rw [←hW0];simp [go_sem]
 have z11:W0.cell? ⟨w.heap.size,11,none⟩=some (.int .i64 (k:Int)):=by rw [←hW0];simp [go_sem]
 have z12:W0.cell? ⟨w.heap.size,12,none⟩=some (.int .i64 st):=by rw [←hW0];simp [go_sem]
 have z13:W0.cell? ⟨w.heap.size,13,none⟩=some (.int .i64 now):=by rw [←hW0];simp [go_sem]
 have HF:=Q00 (fun pp:Grown W0=> Q0t (some ⟨g,0,none⟩) (some ⟨h,0,none⟩) o3 mc.length c1 mt.length c2 n3 c3 bg fg gl cg k i l d a p f s st now pp.v)
 have HL:=Q00 (fun pp:Grown W0=> Q0J (some ⟨g,0,none⟩) (some ⟨h,0,none⟩) o3 mc.length c1 mt.length c2 n3 c3 bg fg gl cg k i l d a p f s st now pp.v hk hgl)
 have HS:=Q00 (fun pp:Grown W0=> Q1r h 0 c2 mt a p pp.v ht0 ht1 hfl (Kbq (Kbq zh HB.out.size) pp.b.size) (Row.kept (Row.kept HT.out HB.out zh) pp.b (Kbq zh HB.out.size)))
 have HRm:=Q00 (fun pp:Grown W0=> Q1e g 0 c1 mc (some ⟨h,0,none⟩) mt.length c2 i l d pp.v (Kbq (Kbq zg HB.out.size) pp.b.size) (Row.kept (Row.kept HC.out HB.out zg) pp.b (Kbq zg HB.out.size)) hc1)
 have HCt:=Q00 (fun pp:Grown W0=> Q1p g 0 c1 mc pp.v (Kbq (Kbq zg HB.out.size) pp.b.size) (Row.kept (Row.kept HC.out HB.out zg) pp.b (Kbq zg HB.out.size)) hc1)
 have HLv:=Q00 (fun W=> Q0J (some ⟨g,0,none⟩) (some ⟨h,0,none⟩) o3 mc.length c1 mt.length c2 n3 c3 bg fg gl cg k i l d a p f s st now W hk hgl)
 have HFv:=Q00 (fun W=> Q0t (some ⟨g,0,none⟩) (some ⟨h,0,none⟩) o3 mc.length c1 mt.length c2 n3 c3 bg fg gl cg k i l d a p f s st now W)
 have HSh:=Q00 (fun W ho=> Q1Z h c2 base mt a p now W ht0 ht1 hfl hn0 hn1 ho)
 have HV:=Q00 (show Q23 mc mt d l a p k gl=if (Q0M k gl||(!(Q0m mt a p).2 && Q1g mc d && decide ((Q0y mc:Int) < l)))=true then -1 else if 0≤(Q0m mt a p).1 then 2 else 5 from rfl)
 have HPT:=Q00 (show Q2s mc mt d l a p now k gl=if (Q0M k gl||(!(Q0m mt a p).2 && Q1g mc d && decide ((Q0y mc:Int) < l)))=true then mt else Q11 mt a p 0 (now+21) from rfl)
 obtain ⟨lb,hlb⟩:∃q,Q0M k gl=q:=⟨_,rfl⟩
 obtain ⟨sh,hsh⟩:∃q,(Q0m mt a p).2=q:=⟨_,rfl⟩
 obtain ⟨rm,hrm⟩:∃q,Q1g mc d=q:=⟨_,rfl⟩
 obtain ⟨nc,hnc⟩:∃q,Q0y mc=q:=⟨_,rfl⟩
 rw [hlb] at HLv HV HPT
 rw [hsh] at HS HV HPT
 rw [hrm] at HRm HV HPT
 rw [hnc] at HCt HV HPT
 have hsv:=hsh
 have hrv:=hrm
 have hnv:=hnc
 clear hlb hsh hrm hnc HL
 obtain ⟨pv,hpv⟩:∃q,Q23 mc mt d l a p k gl=q:=⟨_,rfl⟩
 obtain ⟨pt,hpt⟩:∃q,Q2s mc mt d l a p now k gl=q:=⟨_,rfl⟩
 rw [hpv] at HV ⊢
 rw [hpt] at HPT ⊢
 clear hpv hpt
 have G0:=Grown.cell z0 zz
 have G1:=Grown.cell z1 zz
 have G2:=Grown.cell z2 zz
 have G3:=Grown.cell z3 zz
 have G4:=Grown.cell z4 zz
 have G5:=Grown.cell z5 zz
 have G6:=Grown.cell z6 zz
 have G7:=Grown.cell z7 zz
 have G8:=Grown.cell z8 zz
 have G9:=Grown.cell z9 zz
 have G10:=Grown.cell z10 zz
 have G11:=Grown.cell z11 zz
 have G12:=Grown.cell z12 zz
 have G13:=Grown.cell z13 zz
 obtain rfl:=hsv.symm.trans e1
 obtain rfl:=hrv.symm.trans e2
 have hlt:=e3
 rw [hnv] at hlt
 rw [decide_eq_false hlt] at HV HPT
 clear e3
 clear e1 e2
 try clear hsv
 try clear hrv
 try clear hnv
 cases lb with
 |false=>
  go_enter Try.func57,Try.ntmps57
  go_wp2
  (refine Q05 (by kernel_rfl) (by kernel_rfl) ?_;intro hne9;(repeat (go_big_quiet_step (first|(go_at_call 80;exact Q09 _ (HF.out _))|(go_at_call 39;exact Q09 _ (HS.out _))|(go_at_call 85;exact Q09 _ (HRm.out _))|(go_at_call 86;exact Q09 _ (HCt.out _)))));(with_reducible refine wpQuiet_nil ?_);intro _ hw9;obtain ⟨pq,hw8⟩:=hw9;subst hw8)
  obtain ⟨u1,hu1⟩:∃W,pq.v=W:=⟨_,rfl⟩
  have hb:=pq.b
  rw [hu1] at hb ⊢
  clear G0 G1 G2 G3 G4 G5 G6 G7 G8 G9 G10 G11 G12 G13 HF HS HRm HCt
  replace z0:=bC hb z0 zz
  replace z1:=bC hb z1 zz
  replace z2:=bC hb z2 zz
  replace z3:=bC hb z3 zz
  replace z4:=bC hb z4 zz
  replace z5:=bC hb z5 zz
  replace z6:=bC hb z6 zz
  replace z7:=bC hb z7 zz
  replace z8:=bC hb z8 zz
  replace z9:=bC hb z9 zz
  replace z10:=bC hb z10 zz
  replace z11:=bC hb z11 zz
  replace z12:=bC hb z12 zz
  replace z13:=bC hb z13 zz
  replace zz:=Kbq zz hb.size
  replace HB:=Q00 (HB.out.trans (hb.mono HB.out.size))
  clear hb
  clear hu1 pq
  go_wp2_with fail
  refine (HLv.out u1).mono ?_
  rintro e v1 ⟨rfl,hb⟩
  replace z0:=bC hb z0 zz
  replace z1:=bC hb z1 zz
  replace z2:=bC hb z2 zz
  replace z3:=bC hb z3 zz
  replace z4:=bC hb z4 zz
  replace z5:=bC hb z5 zz
  replace z6:=bC hb z6 zz
  replace z7:=bC hb z7 zz
  replace z8:=bC hb z8 zz
  replace z9:=bC hb z9 zz
  replace z10:=bC hb z10 zz
  replace z11:=bC hb z11 zz
  replace z12:=bC hb z12 zz
  replace z13:=bC hb z13 zz
  replace zz:=Kbq zz hb.size
  replace HB:=Q00 (HB.out.trans (hb.mono HB.out.size))
  clear hb
  by_cases hok:0≤(Q0m mt a p).1
  ·rw [decide_eq_true hok] at HSh
   have hv:=HV.out
   have ht:=HPT.out
   simp [hok] at hv ht
   subst hv
   subst ht
   clear hok
   go_wp2
   go_region_held3 (fun w'=> w'.cell? ⟨w.heap.size,0,none⟩=some (.slice (some ⟨g,0,none⟩) mc.length c1)∧w'.cell? ⟨w.heap.size,1,none⟩=some (.slice (some ⟨h,0,none⟩) mt.length c2)∧w'.cell? ⟨w.heap.size,2,none⟩=some (.int .i64 i)∧w'.cell? ⟨w.heap.size,3,none⟩=some (.int .i64 l)∧w'.cell? ⟨w.heap.size,4,none⟩=some (.bool d)∧w'.cell? ⟨w.heap.size,5,none⟩=some (.int .i64 a)∧w'.cell? ⟨w.heap.size,6,none⟩=some (.int .i64 p)∧w'.cell? ⟨w.heap.size,7,none⟩=some (.int .i64 f)∧w'.cell? ⟨w.heap.size,8,none⟩=some (.int .i64 s)∧w'.cell? ⟨w.heap.size,9,none⟩=some (.slice o3 n3 c3)∧w'.cell? ⟨w.heap.size,10,none⟩=some (.slice (some ⟨bg,fg,none⟩) gl cg)∧w'.cell? ⟨w.heap.size,11,none⟩=some (.int .i64 (k:Int))∧w'.cell? ⟨w.heap.size,12,none⟩=some (.int .i64 st)∧w'.cell? ⟨w.heap.size,13,none⟩=some (.int .i64 now)) (first|with_reducible exact ⟨qz0,qz1,qz2,qz3,qz4,qz5,qz6,qz7,qz8,qz9,qz10,qz11,qz12,qz13⟩|with_reducible exact ⟨pz0,pz1,pz2,pz3,pz4,pz5,pz6,pz7,pz8,pz9,pz10,pz11,pz12,pz13⟩|exact ⟨z0,z1,z2,z3,z4,z5,z6,z7,z8,z9,z10,z11,z12,z13⟩|go_keep) (first|(go_at_call 80;(with_reducible refine (HFv.out v1.drew).mono ?_);rintro e x0 ⟨rfl,hb⟩;have hx0:Below v1.heap.size v1 x0:=(Below.drew (Below.refl _ _)).trans hb;have sx0:=hx0.size;clear hb;have pz0:=(hx0.cell (p:=⟨w.heap.size,0,none⟩) zz).trans z0;have pz1:=(hx0.cell (p:=⟨w.heap.size,1,none⟩) zz).trans z1;have pz2:=(hx0.cell (p:=⟨w.heap.size,2,none⟩) zz).trans z2;have pz3:=(hx0.cell (p:=⟨w.heap.size,3,none⟩) zz).trans z3;have pz4:=(hx0.cell (p:=⟨w.heap.size,4,none⟩) zz).trans z4;have pz5:=(hx0.cell (p:=⟨w.heap.size,5,none⟩) zz).trans z5;have pz6:=(hx0.cell (p:=⟨w.heap.size,6,none⟩) zz).trans z6;have pz7:=(hx0.cell (p:=⟨w.heap.size,7,none⟩) zz).trans z7;have pz8:=(hx0.cell (p:=⟨w.heap.size,8,none⟩) zz).trans z8;have pz9:=(hx0.cell (p:=⟨w.heap.size,9,none⟩) zz).trans z9;have pz10:=(hx0.cell (p:=⟨w.heap.size,10,none⟩) zz).trans z10;have pz11:=(hx0.cell (p:=⟨w.heap.size,11,none⟩) zz).trans z11;have pz12:=(hx0.cell (p:=⟨w.heap.size,12,none⟩) zz).trans z12;have pz13:=(hx0.cell (p:=⟨w.heap.size,13,none⟩) zz).trans z13)|(go_at_call 82;(with_reducible refine (HSh.out x0 (Q0a (Q0a HO.out HB.out) hx0)).mono ?_);rintro e x1 ⟨rfl,ho1,st1⟩;have HO1:=Q00 ho1;have HST:=Q00 ((Stp.of HB.out).trans ((Stp.of hx0).trans st1));have qz0:x1.cell? ⟨w.heap.size,0,none⟩=some (.slice (some ⟨g,0,none⟩) mc.length c1):=st1.cell pz0 (by omega) (.inr (by omega));have qz1:x1.cell? ⟨w.heap.size,1,none⟩=some (.slice (some ⟨h,0,none⟩) mt.length c2):=st1.cell pz1 (by omega) (.inr (by omega));have qz2:x1.cell? ⟨w.heap.size,2,none⟩=some (.int .i64 i):=st1.cell pz2 (by omega) (.inr (by omega));have qz3:x1.cell? ⟨w.heap.size,3,none⟩=some (.int .i64 l):=st1.cell pz3 (by omega) (.inr (by omega));have qz4:x1.cell? ⟨w.heap.size,4,none⟩=some (.bool d):=st1.cell pz4 (by omega) (.inr (by omega));have qz5:x1.cell? ⟨w.heap.size,5,none⟩=some (.int .i64 a):=st1.cell pz5 (by omega) (.inr (by omega));have qz6:x1.cell? ⟨w.heap.size,6,none⟩=some (.int .i64 p):=st1.cell pz6 (by omega) (.inr (by omega));have qz7:x1.cell? ⟨w.heap.size,7,none⟩=some (.int .i64 f):=st1.cell pz7 (by omega) (.inr (by omega));have qz8:x1.cell? ⟨w.heap.size,8,none⟩=some (.int .i64 s):=st1.cell pz8 (by omega) (.inr (by omega));have qz9:x1.cell? ⟨w.heap.size,9,none⟩=some (.slice o3 n3 c3):=st1.cell pz9 (by omega) (.inr (by omega));have qz10:x1.cell? ⟨w.heap.size,10,none⟩=some (.slice (some ⟨bg,fg,none⟩) gl cg):=st1.cell pz10 (by omega) (.inr (by omega));have qz11:x1.cell? ⟨w.heap.size,11,none⟩=some (.int .i64 (k:Int)):=st1.cell pz11 (by omega) (.inr (by omega));have qz12:x1.cell? ⟨w.heap.size,12,none⟩=some (.int .i64 st):=st1.cell pz12 (by omega) (.inr (by omega));have qz13:x1.cell? ⟨w.heap.size,13,none⟩=some (.int .i64 now):=st1.cell pz13 (by omega) (.inr (by omega));clear ho1 st1)|fail)
   go_wp2
   go_ret
   exact ⟨rfl,HO1.out,HST.out⟩
  ·rw [decide_eq_false hok] at HSh
   have hv:=HV.out
   have ht:=HPT.out
   simp [hok] at hv ht
   subst hv
   subst ht
   clear hok
   go_wp2
   go_region_held3 (fun w'=> w'.cell? ⟨w.heap.size,0,none⟩=some (.slice (some ⟨g,0,none⟩) mc.length c1)∧w'.cell? ⟨w.heap.size,1,none⟩=some (.slice (some ⟨h,0,none⟩) mt.length c2)∧w'.cell? ⟨w.heap.size,2,none⟩=some (.int .i64 i)∧w'.cell? ⟨w.heap.size,3,none⟩=some (.int .i64 l)∧w'.cell? ⟨w.heap.size,4,none⟩=some (.bool d)∧w'.cell? ⟨w.heap.size,5,none⟩=some (.int .i64 a)∧w'.cell? ⟨w.heap.size,6,none⟩=some (.int .i64 p)∧w'.cell? ⟨w.heap.size,7,none⟩=some (.int .i64 f)∧w'.cell? ⟨w.heap.size,8,none⟩=some (.int .i64 s)∧w'.cell? ⟨w.heap.size,9,none⟩=some (.slice o3 n3 c3)∧w'.cell? ⟨w.heap.size,10,none⟩=some (.slice (some ⟨bg,fg,none⟩) gl cg)∧w'.cell? ⟨w.heap.size,11,none⟩=some (.int .i64 (k:Int))∧w'.cell? ⟨w.heap.size,12,none⟩=some (.int .i64 st)∧w'.cell? ⟨w.heap.size,13,none⟩=some (.int .i64 now)) (first|with_reducible exact ⟨qz0,qz1,qz2,qz3,qz4,qz5,qz6,qz7,qz8,qz9,qz10,qz11,qz12,qz13⟩|with_reducible exact ⟨pz0,pz1,pz2,pz3,pz4,pz5,pz6,pz7,pz8,pz9,pz10,pz11,pz12,pz13⟩|exact ⟨z0,z1,z2,z3,z4,z5,z6,z7,z8,z9,z10,z11,z12,z13⟩|go_keep) (first|(go_at_call 80;(with_reducible refine (HFv.out v1.drew).mono ?_);rintro e x0 ⟨rfl,hb⟩;have hx0:Below v1.heap.size v1 x0:=(Below.drew (Below.refl _ _)).trans hb;have sx0:=hx0.size;clear hb;have pz0:=(hx0.cell (p:=⟨w.heap.size,0,none⟩) zz).trans z0;have pz1:=(hx0.cell (p:=⟨w.heap.size,1,none⟩) zz).trans z1;have pz2:=(hx0.cell (p:=⟨w.heap.size,2,none⟩) zz).trans z2;have pz3:=(hx0.cell (p:=⟨w.heap.size,3,none⟩) zz).trans z3;have pz4:=(hx0.cell (p:=⟨w.heap.size,4,none⟩) zz).trans z4;have pz5:=(hx0.cell (p:=⟨w.heap.size,5,none⟩) zz).trans z5;have pz6:=(hx0.cell (p:=⟨w.heap.size,6,none⟩) zz).trans z6;have pz7:=(hx0.cell (p:=⟨w.heap.size,7,none⟩) zz).trans z7;have pz8:=(hx0.cell (p:=⟨w.heap.size,8,none⟩) zz).trans z8;have pz9:=(hx0.cell (p:=⟨w.heap.size,9,none⟩) zz).trans z9;have pz10:=(hx0.cell (p:=⟨w.heap.size,10,none⟩) zz).trans z10;have pz11:=(hx0.cell (p:=⟨w.heap.size,11,none⟩) zz).trans z11;have pz12:=(hx0.cell (p:=⟨w.heap.size,12,none⟩) zz).trans z12;have pz13:=(hx0.cell (p:=⟨w.heap.size,13,none⟩) zz).trans z13)|(go_at_call 82;(with_reducible refine (HSh.out x0 (Q0a (Q0a HO.out HB.out) hx0)).mono ?_);rintro e x1 ⟨rfl,ho1,st1⟩;have HO1:=Q00 ho1;have HST:=Q00 ((Stp.of HB.out).trans ((Stp.of hx0).trans st1));have qz0:x1.cell? ⟨w.heap.size,0,none⟩=some (.slice (some ⟨g,0,none⟩) mc.length c1):=st1.cell pz0 (by omega) (.inr (by omega));have qz1:x1.cell? ⟨w.heap.size,1,none⟩=some (.slice (some ⟨h,0,none⟩) mt.length c2):=st1.cell pz1 (by omega) (.inr (by omega));have qz2:x1.cell? ⟨w.heap.size,2,none⟩=some (.int .i64 i):=st1.cell pz2 (by omega) (.inr (by omega));have qz3:x1.cell? ⟨w.heap.size,3,none⟩=some (.int .i64 l):=st1.cell pz3 (by omega) (.inr (by omega));have qz4:x1.cell? ⟨w.heap.size,4,none⟩=some (.bool d):=st1.cell pz4 (by omega) (.inr (by omega));have qz5:x1.cell? ⟨w.heap.size,5,none⟩=some (.int .i64 a):=st1.cell pz5 (by omega) (.inr (by omega));have qz6:x1.cell? ⟨w.heap.size,6,none⟩=some (.int .i64 p):=st1.cell pz6 (by omega) (.inr (by omega));have qz7:x1.cell? ⟨w.heap.size,7,none⟩=some (.int .i64 f):=st1.cell pz7 (by omega) (.inr (by omega));have qz8:x1.cell? ⟨w.heap.size,8,none⟩=some (.int .i64 s):=st1.cell pz8 (by omega) (.inr (by omega));have qz9:x1.cell? ⟨w.heap.size,9,none⟩=some (.slice o3 n3 c3):=st1.cell pz9 (by omega) (.inr (by omega));have qz10:x1.cell? ⟨w.heap.size,10,none⟩=some (.slice (some ⟨bg,fg,none⟩) gl cg):=st1.cell pz10 (by omega) (.inr (by omega));have qz11:x1.cell? ⟨w.heap.size,11,none⟩=some (.int .i64 (k:Int)):=st1.cell pz11 (by omega) (.inr (by omega));have qz12:x1.cell? ⟨w.heap.size,12,none⟩=some (.int .i64 st):=st1.cell pz12 (by omega) (.inr (by omega));have qz13:x1.cell? ⟨w.heap.size,13,none⟩=some (.int .i64 now):=st1.cell pz13 (by omega) (.inr (by omega));clear ho1 st1)|fail)
   go_wp2
   go_ret
   exact ⟨rfl,HO1.out,HST.out⟩
 |true=>
  go_enter Try.func57,Try.ntmps57
  go_wp2
  (refine Q05 (by kernel_rfl) (by kernel_rfl) ?_;intro hne9;(repeat (go_big_quiet_step (first|(go_at_call 80;exact Q09 _ (HF.out _))|(go_at_call 39;exact Q09 _ (HS.out _))|(go_at_call 85;exact Q09 _ (HRm.out _))|(go_at_call 86;exact Q09 _ (HCt.out _)))));(with_reducible refine wpQuiet_nil ?_);intro _ hw9;obtain ⟨pq,hw8⟩:=hw9;subst hw8)
  obtain ⟨u1,hu1⟩:∃W,pq.v=W:=⟨_,rfl⟩
  have hb:=pq.b
  rw [hu1] at hb ⊢
  clear G0 G1 G2 G3 G4 G5 G6 G7 G8 G9 G10 G11 G12 G13 HF HS HRm HCt
  replace z0:=bC hb z0 zz
  replace z1:=bC hb z1 zz
  replace z2:=bC hb z2 zz
  replace z3:=bC hb z3 zz
  replace z4:=bC hb z4 zz
  replace z5:=bC hb z5 zz
  replace z6:=bC hb z6 zz
  replace z7:=bC hb z7 zz
  replace z8:=bC hb z8 zz
  replace z9:=bC hb z9 zz
  replace z10:=bC hb z10 zz
  replace z11:=bC hb z11 zz
  replace z12:=bC hb z12 zz
  replace z13:=bC hb z13 zz
  replace zz:=Kbq zz hb.size
  replace HB:=Q00 (HB.out.trans (hb.mono HB.out.size))
  clear hb
  clear hu1 pq
  go_wp2_with fail
  refine (HLv.out u1).mono ?_
  rintro e v1 ⟨rfl,hb⟩
  replace z0:=bC hb z0 zz
  replace z1:=bC hb z1 zz
  replace z2:=bC hb z2 zz
  replace z3:=bC hb z3 zz
  replace z4:=bC hb z4 zz
  replace z5:=bC hb z5 zz
  replace z6:=bC hb z6 zz
  replace z7:=bC hb z7 zz
  replace z8:=bC hb z8 zz
  replace z9:=bC hb z9 zz
  replace z10:=bC hb z10 zz
  replace z11:=bC hb z11 zz
  replace z12:=bC hb z12 zz
  replace z13:=bC hb z13 zz
  replace zz:=Kbq zz hb.size
  replace HB:=Q00 (HB.out.trans (hb.mono HB.out.size))
  clear hb
  have hv:=HV.out
  have ht:=HPT.out
  simp at hv ht
  subst hv
  subst ht
  go_wp2
  go_ret
  exact ⟨rfl,Q0a HO.out HB.out,Stp.of HB.out⟩
theorem Q6u (g h c1 c2:Nat) (mc mt:List Sl) (o3:Option Addr) (n3 c3 bg fg gl cg k:Nat) (i l:Int) (d:Bool) (a p f s st now:Int) (base:Nat) (w:World) (hk:k < gl) (hgl:gl≤1048576) (hfl:Q0c a p=true) (hc0:0 < mc.length) (hc1:mc.length≤1048576) (ht0:0 < mt.length) (ht1:mt.length≤1048576) (hn0:0≤now) (hn1:now≤100000) (zg:g < w.heap.size) (hC:Row w g 0 mc) (ho:w.ownsRow base Q0k 5 (.slice (some ⟨h,0,none⟩) mt.length c2) mt.length (mt.flatMap Q0e.cs)):
  Calls Try.prog 57 #[Q3b (.slice (some ⟨g,0,none⟩) mc.length c1) (.slice (some ⟨h,0,none⟩) mt.length c2) i l d a p f s (.slice o3 n3 c3) (.slice (some ⟨bg,fg,none⟩) gl cg) (k:Int) st now] w fun e w'=> e=.returned (.int .i64 (Q23 mc mt d l a p k gl))∧w'.ownsRow base Q0k 5 (.slice (some ⟨h,0,none⟩) mt.length c2) mt.length ((Q2s mc mt d l a p now k gl).flatMap Q0e.cs)∧Stp h (h+1) w w':=by
 cases e1:(Q0m mt a p).2 with
 |true=> exact Q7v g h c1 c2 mc mt o3 n3 c3 bg fg gl cg k i l d a p f s st now base w hk hgl hfl hc0 hc1 ht0 ht1 hn0 hn1 zg hC ho e1
 |false=>
  cases e2:Q1g mc d with
  |false=> exact Q7t g h c1 c2 mc mt o3 n3 c3 bg fg gl cg k i l d a p f s st now base w hk hgl hfl hc0 hc1 ht0 ht1 hn0 hn1 zg hC ho e1 e2
  |true=>
   by_cases e3:(Q0y mc:Int) < l
   ·exact Q7E g h c1 c2 mc mt o3 n3 c3 bg fg gl cg k i l d a p f s st now base w hk hgl hfl hc0 hc1 ht0 ht1 hn0 hn1 zg hC ho e1 e2 e3
   ·exact Q7K g h c1 c2 mc mt o3 n3 c3 bg fg gl cg k i l d a p f s st now base w hk hgl hfl hc0 hc1 ht0 ht1 hn0 hn1 zg hC ho e1 e2 e3
theorem Q2G (f x:Int) (w:World):Calls Try.prog 38 #[.int .i64 f,.int .i64 x] w fun e w'=> e=.returned (.bool (bits .and .i64 f x !=0))∧w=w':=by
 go_enter Try.func38,Try.ntmps38
 go_wp2
 all_goals go_ret
 all_goals exact ⟨rfl,rfl⟩
def tkC (c:List Sl) (now a p f s:Int):List Sl:=if (Q0m c a p).2=true then (if bits .and .i64 f 12=0 then Q11 c a p s (now+50) else Q1N c a p) else c
def tkT (c t:List Sl) (now a p f:Int):List Sl:=if (Q0m c a p).2=true then (if bits .and .i64 f 12=0 then t else Q11 t a p 0 (now+21)) else t
theorem Q7P (g h c1 c2:Nat) (mc mt:List Sl) (o3:Option Addr) (n3 c3 bg fg gl cg k:Nat) (i l:Int) (d:Bool) (a p f s st now:Int) (lo mid hi:Nat) (w:World) (hfl:Q0c a p=true) (hc0:0 < mc.length) (hc16:mc.length≤16) (ht0:0 < mt.length) (ht16:mt.length≤16) (hn0:0≤now) (hn1:now≤100000) (hok:Q0F mc) (hgm:g < mid) (hmh:mid≤h) (hhi:h < hi) (ho:w.ownsRow lo Q0k 5 (.slice (some ⟨g,0,none⟩) mc.length c1) mc.length (mc.flatMap Q0e.cs)) (hp:w.ownsRow mid Q0k 5 (.slice (some ⟨h,0,none⟩) mt.length c2) mt.length (mt.flatMap Q0e.cs)) (e1:(Q0m mc a p).2=false):
  Calls Try.prog 54 #[Q3b (.slice (some ⟨g,0,none⟩) mc.length c1) (.slice (some ⟨h,0,none⟩) mt.length c2) i l d a p f s (.slice o3 n3 c3) (.slice (some ⟨bg,fg,none⟩) gl cg) (k:Int) st now] w fun e w'=> e=.returned (.int .i64 (if (Q0m mc a p).2=true then 0 else -1))∧w'.ownsRow lo Q0k 5 (.slice (some ⟨g,0,none⟩) mc.length c1) mc.length ((tkC mc now a p f s).flatMap Q0e.cs)∧w'.ownsRow mid Q0k 5 (.slice (some ⟨h,0,none⟩) mt.length c2) mt.length ((tkT mc mt now a p f).flatMap Q0e.cs)∧Stp lo hi w w':=by
 have hlg:=(ho.lt g rfl).1
 have zg:=(ho.lt g rfl).2
 have zh:=(hp.lt h rfl).2
 have HC:Hid (Row w g 0 mc):=Q0n ho rfl
 have HO:=Q00 ho
 have HP:=Q00 hp
 clear ho hp
 obtain ⟨W0,hW0⟩:∃W,(w.alloc (.cells #[.slice (some ⟨g,0,none⟩) mc.length c1,.slice (some ⟨h,0,none⟩) mt.length c2,.int .i64 i,.int .i64 l,.bool d,.int .i64 a,.int .i64 p,.int .i64 f,.int .i64 s,.slice o3 n3 c3,.slice (some ⟨bg,fg,none⟩) gl cg,.int .i64 (k:Int),.int .i64 st,.int .i64 now] 74))=W:=⟨_,rfl⟩
 have hb_W0:Below w.heap.size w W0:=by rw [←hW0];exact ((Below.refl _ _).alloc (Kaq _) _)
 have HB:=Q00 hb_W0
 clear hb_W0
 have zz:w.heap.size < W0.heap.size:=by rw [←hW0];simp
 have z0:W0.cell? ⟨w.heap.size,0,none⟩=some (.slice (some ⟨g,0,none⟩) mc.length c1):=by rw [←hW0];simp [go_sem]
 have z1:W0.cell? ⟨w.heap.size,1,none⟩=some (.slice (some ⟨h,0,none⟩) mt.length c2):=by rw [←hW0];simp [go_sem]
 have z2:W0.cell? ⟨w.heap.size,2,none⟩=some (.int .i64 i):=by rw [←hW0];simp [go_sem]
 have z3:W0.cell? ⟨w.heap.size,3,none⟩=some (.int .i64 l):=by rw [←hW0];simp [go_sem]
 have z4:W0.cell? ⟨w.heap.size,4,none⟩=some (.bool d):=by rw [←hW0];simp [go_sem]
 have z5:W0.cell? ⟨w.heap.size,5,none⟩=some (.int .i64 a):=by rw [←hW0];simp [go_sem]
 have z6:W0.cell? ⟨w.heap.size,6,none⟩=some (.int .i64 p):=by rw [←hW0];simp [go_sem]
 have z7:W0.cell? ⟨w.heap.size,7,none⟩=some (.int .i64 f):=by rw [←hW0];simp [go_sem]
 have z8:W0.cell? ⟨w.heap.size,8,none⟩=some (.int .i64 s):=by rw [←hW0];simp [go_sem]
 have z9:W0.cell? ⟨w.heap.size,9,none⟩=some (.slice o3 n3 c3):=by rw [←hW0];simp [go_sem]
 have z10:W0.cell? ⟨w.heap.size,10,none⟩=some (.slice (some ⟨bg,fg,none⟩) gl cg):=by rw [←hW0];simp [go_sem]
 have z11:W0.cell? ⟨w.heap.size,11,none⟩=some (.int .i64 (k:Int)):=by rw [←hW0];simp [go_sem]
 have z12:W0.cell? ⟨w.heap.size,12,none⟩=some (.int .i64 st):=by rw [←hW0];simp [go_sem]
 have z13:W0.cell? ⟨w.heap.size,13,none⟩=some (.int .i64 now):=by rw [←hW0];simp [go_sem]
 have HF:=Q00 (fun pp:Grown W0=> Q0t (some ⟨g,0,none⟩) (some ⟨h,0,none⟩) o3 mc.length c1 mt.length c2 n3 c3 bg fg gl cg k i l d a p f s st now pp.v)
 have HFv:=Q00 (fun W=> Q0t (some ⟨g,0,none⟩) (some ⟨h,0,none⟩) o3 mc.length c1 mt.length c2 n3 c3 bg fg gl cg k i l d a p f s st now W)
 have HH:=Q00 (fun pp:Grown W0=> Q3j g 0 c1 mc a p pp.v hc0 (by omega) hfl (Kbq (Kbq zg HB.out.size) pp.b.size) (Row.kept (Row.kept HC.out HB.out zg) pp.b (Kbq zg HB.out.size)))
 have HAn:=Q00 (fun W=> Q2G f 12 W)
 have G0:=Grown.cell z0 zz
 have G1:=Grown.cell z1 zz
 have G2:=Grown.cell z2 zz
 have G3:=Grown.cell z3 zz
 have G4:=Grown.cell z4 zz
 have G5:=Grown.cell z5 zz
 have G6:=Grown.cell z6 zz
 have G7:=Grown.cell z7 zz
 have G8:=Grown.cell z8 zz
 have G9:=Grown.cell z9 zz
 have G10:=Grown.cell z10 zz
 have G11:=Grown.cell z11 zz
 have G12:=Grown.cell z12 zz
 have G13:=Grown.cell z13 zz
 rw [e1] at HH
 have H1:Hid (tkC mc now a p f s=mc):=by unfold Hid tkC;rw [e1];rfl
 have H2:Hid (tkT mc mt now a p f=mt):=by unfold Hid tkT;rw [e1];rfl
 rw [e1,H1.out,H2.out]
 clear e1
 go_enter Try.func54,Try.ntmps54
 go_wp2
 (refine Q05 (by kernel_rfl) (by kernel_rfl) ?_;intro hne9;(repeat (go_big_quiet_step (first|(go_at_call 80;exact Q09 _ (HF.out _))|(go_at_call 36;exact Q09 _ (HH.out _)))));(with_reducible refine wpQuiet_nil ?_);intro _ hw9;obtain ⟨pq,hw8⟩:=hw9;subst hw8)
 obtain ⟨u1,hu1⟩:∃W,pq.v=W:=⟨_,rfl⟩
 have hb:=pq.b
 rw [hu1] at hb ⊢
 clear G0 G1 G2 G3 G4 G5 G6 G7 G8 G9 G10 G11 G12 G13 HF HH
 replace z0:=bC hb z0 zz
 replace z1:=bC hb z1 zz
 replace z2:=bC hb z2 zz
 replace z3:=bC hb z3 zz
 replace z4:=bC hb z4 zz
 replace z5:=bC hb z5 zz
 replace z6:=bC hb z6 zz
 replace z7:=bC hb z7 zz
 replace z8:=bC hb z8 zz
 replace z9:=bC hb z9 zz
 replace z10:=bC hb z10 zz
 replace z11:=bC hb z11 zz
 replace z12:=bC hb z12 zz
 replace z13:=bC hb z13 zz
 replace zz:=Kbq zz hb.size
 replace HB:=Q00 (HB.out.trans (hb.mono HB.out.size))
 clear hb
 clear hu1 pq
 go_wp2
 go_ret
 exact ⟨rfl,Q0a HO.out HB.out,Q0a HP.out HB.out,Stp.of HB.out⟩
theorem Q5Z (g h c1 c2:Nat) (mc mt:List Sl) (o3:Option Addr) (n3 c3 bg fg gl cg k:Nat) (i l:Int) (d:Bool) (a p f s st now:Int) (lo mid hi:Nat) (w:World) (hfl:Q0c a p=true) (hc0:0 < mc.length) (hc16:mc.length≤16) (ht0:0 < mt.length) (ht16:mt.length≤16) (hn0:0≤now) (hn1:now≤100000) (hok:Q0F mc) (hgm:g < mid) (hmh:mid≤h) (hhi:h < hi) (ho:w.ownsRow lo Q0k 5 (.slice (some ⟨g,0,none⟩) mc.length c1) mc.length (mc.flatMap Q0e.cs)) (hp:w.ownsRow mid Q0k 5 (.slice (some ⟨h,0,none⟩) mt.length c2) mt.length (mt.flatMap Q0e.cs)) (e1:(Q0m mc a p).2=true) (e2:bits .and .i64 f 12=0):
  Calls Try.prog 54 #[Q3b (.slice (some ⟨g,0,none⟩) mc.length c1) (.slice (some ⟨h,0,none⟩) mt.length c2) i l d a p f s (.slice o3 n3 c3) (.slice (some ⟨bg,fg,none⟩) gl cg) (k:Int) st now] w fun e w'=> e=.returned (.int .i64 (if (Q0m mc a p).2=true then 0 else -1))∧w'.ownsRow lo Q0k 5 (.slice (some ⟨g,0,none⟩) mc.length c1) mc.length ((tkC mc now a p f s).flatMap Q0e.cs)∧w'.ownsRow mid Q0k 5 (.slice (some ⟨h,0,none⟩) mt.length c2) mt.length ((tkT mc mt now a p f).flatMap Q0e.cs)∧Stp lo hi w w':=by
 have hlg:=(ho.lt g rfl).1
 have zg:=(ho.lt g rfl).2
 have zh:=(hp.lt h rfl).2
 have HC:Hid (Row w g 0 mc):=Q0n ho rfl
 have HO:=Q00 ho
 have HP:=Q00 hp
 clear ho hp
 obtain ⟨W0,hW0⟩:∃W,(w.alloc (.cells #[.slice (some ⟨g,0,none⟩) mc.length c1,.slice (some ⟨h,0,none⟩) mt.length c2,.int .i64 i,.int .i64 l,.bool d,.int .i64 a,.int .i64 p,.int .i64 f,.int .i64 s,.slice o3 n3 c3,.slice (some ⟨bg,fg,none⟩) gl cg,.int .i64 (k:Int),.int .i64 st,.int .i64 now] 74))=W:=⟨_,rfl⟩
 have hb_W0:Below w.heap.size w W0:=by rw [←hW0];exact ((Below.refl _ _).alloc (Kaq _) _)
 have HB:=Q00 hb_W0
 clear hb_W0
 have zz:w.heap.size < W0.heap.size:=by rw [←hW0];simp
 have z0:W0.cell? ⟨w.heap.size,0,none⟩=some (.slice (some ⟨g,0,none⟩) mc.length c1):=by rw [←hW0];simp [go_sem]
 have z1:W0.cell? ⟨w.heap.size,1,none⟩=some (.slice (some ⟨h,0,none⟩) mt.length c2):=by rw [←hW0];simp [go_sem]
 have z2:W0.cell? ⟨w.heap.size,2,none⟩=some (.int .i64 i):=by rw [←hW0];simp [go_sem]
 have z3:W0.cell? ⟨w.heap.size,3,none⟩=some (.int .i64 l):=by rw [←hW0];simp [go_sem]
 have z4:W0.cell? ⟨w.heap.size,4,none⟩=some (.bool d):=by rw [←hW0];simp [go_sem]
 have z5:W0.cell? ⟨w.heap.size,5,none⟩=some (.int .i64 a):=by rw [←hW0];simp [go_sem]
 have z6:W0.cell? ⟨w.heap.size,6,none⟩=some (.int .i64 p):=by rw [←hW0];simp [go_sem]
 have z7:W0.cell? ⟨w.heap.size,7,none⟩=some (.int .i64 f):=by rw [←hW0];simp [go_sem]
 have z8:W0.cell? ⟨w.heap.size,8,none⟩=some (.int .i64 s):=by rw [←hW0];simp [go_sem]
 have z9:W0.cell? ⟨w.heap.size,9,none⟩=some (.slice o3 n3 c3):=by rw [←hW0];simp [go_sem]
 have z10:W0.cell? ⟨w.heap.size,10,none⟩=some (.slice (some ⟨bg,fg,none⟩) gl cg):=by rw [←hW0];simp [go_sem]
 have z11:W0.cell? ⟨w.heap.size,11,none⟩=some (.int .i64 (k:Int)):=by rw [←hW0];simp [go_sem]
 have z12:W0.cell? ⟨w.heap.size,12,none⟩=some (.int .i64 st):=by rw [←hW0];simp [go_sem]
 have z13:W0.cell? ⟨w.heap.size,13,none⟩=some (.int .i64 now):=by rw [←hW0];simp [go_sem]
 have HF:=Q00 (fun pp:Grown W0=> Q0t (some ⟨g,0,none⟩) (some ⟨h,0,none⟩) o3 mc.length c1 mt.length c2 n3 c3 bg fg gl cg k i l d a p f s st now pp.v)
 have HFv:=Q00 (fun W=> Q0t (some ⟨g,0,none⟩) (some ⟨h,0,none⟩) o3 mc.length c1 mt.length c2 n3 c3 bg fg gl cg k i l d a p f s st now W)
 have HH:=Q00 (fun pp:Grown W0=> Q3j g 0 c1 mc a p pp.v hc0 (by omega) hfl (Kbq (Kbq zg HB.out.size) pp.b.size) (Row.kept (Row.kept HC.out HB.out zg) pp.b (Kbq zg HB.out.size)))
 have HAn:=Q00 (fun W=> Q2G f 12 W)
 have G0:=Grown.cell z0 zz
 have G1:=Grown.cell z1 zz
 have G2:=Grown.cell z2 zz
 have G3:=Grown.cell z3 zz
 have G4:=Grown.cell z4 zz
 have G5:=Grown.cell z5 zz
 have G6:=Grown.cell z6 zz
 have G7:=Grown.cell z7 zz
 have G8:=Grown.cell z8 zz
 have G9:=Grown.cell z9 zz
 have G10:=Grown.cell z10 zz
 have G11:=Grown.cell z11 zz
 have G12:=Grown.cell z12 zz
 have G13:=Grown.cell z13 zz
 rw [e1] at HH
 have H1:Hid (tkC mc now a p f s=Q11 mc a p s (now+50)):=by unfold Hid tkC;rw [if_pos e1,if_pos e2]
 have H2:Hid (tkT mc mt now a p f=mt):=by unfold Hid tkT;rw [if_pos e1,if_pos e2]
 rw [if_pos e1,H1.out,H2.out]
 have e3:(bits .and .i64 f 12 !=0)=false:=by rw [e2];rfl
 rw [e3] at HAn
 clear e1 e2 e3
 go_enter Try.func54,Try.ntmps54
 go_wp2
 (refine Q05 (by kernel_rfl) (by kernel_rfl) ?_;intro hne9;(repeat (go_big_quiet_step (first|(go_at_call 80;exact Q09 _ (HF.out _))|(go_at_call 36;exact Q09 _ (HH.out _)))));(with_reducible refine wpQuiet_nil ?_);intro _ hw9;obtain ⟨pq,hw8⟩:=hw9;subst hw8)
 obtain ⟨u1,hu1⟩:∃W,pq.v=W:=⟨_,rfl⟩
 have hb:=pq.b
 rw [hu1] at hb ⊢
 clear G0 G1 G2 G3 G4 G5 G6 G7 G8 G9 G10 G11 G12 G13 HF HH
 replace z0:=bC hb z0 zz
 replace z1:=bC hb z1 zz
 replace z2:=bC hb z2 zz
 replace z3:=bC hb z3 zz
 replace z4:=bC hb z4 zz
 replace z5:=bC hb z5 zz
 replace z6:=bC hb z6 zz
 replace z7:=bC hb z7 zz
 replace z8:=bC hb z8 zz
 replace z9:=bC hb z9 zz
 replace z10:=bC hb z10 zz
 replace z11:=bC hb z11 zz
 replace z12:=bC hb z12 zz
 replace z13:=bC hb z13 zz
 replace zz:=Kbq zz hb.size
 replace HB:=Q00 (HB.out.trans (hb.mono HB.out.size))
 clear hb
 clear hu1 pq
 go_wp2_with fail
 refine (HAn.out u1).mono ?_
 rintro e w9 ⟨rfl,rfl⟩
 go_wp2_with fail
 refine (Q4Z g c1 lo mc a p f s now o3 n3 c3 u1 hc0 (by omega) hfl hn0 hn1 (Q0a HO.out HB.out)).mono ?_
 rintro e v1 ⟨⟨v,rfl⟩,ho1,st1⟩
 have HO1:=Q00 ho1
 have HP1:Hid (v1.ownsRow mid Q0k 5 (.slice (some ⟨h,0,none⟩) mt.length c2) mt.length (mt.flatMap Q0e.cs)):=(InRow.step (a:=mid) (b:=hi) ⟨Q0a HP.out HB.out,fun b e=> by simp [Value.ownBlock] at e;omega⟩ st1 (.inl (by omega))).1
 have HS1:Hid (Stp lo hi w v1):=(Stp.of HB.out).trans (st1.wide' (by omega) (by omega))
 clear ho1 st1
 go_wp2
 go_ret
 exact ⟨rfl,HO1.out,HP1.out,HS1.out⟩
theorem Q6V (g h c1 c2:Nat) (mc mt:List Sl) (o3:Option Addr) (n3 c3 bg fg gl cg k:Nat) (i l:Int) (d:Bool) (a p f s st now:Int) (lo mid hi:Nat) (w:World) (hfl:Q0c a p=true) (hc0:0 < mc.length) (hc16:mc.length≤16) (ht0:0 < mt.length) (ht16:mt.length≤16) (hn0:0≤now) (hn1:now≤100000) (hok:Q0F mc) (hgm:g < mid) (hmh:mid≤h) (hhi:h < hi) (ho:w.ownsRow lo Q0k 5 (.slice (some ⟨g,0,none⟩) mc.length c1) mc.length (mc.flatMap Q0e.cs)) (hp:w.ownsRow mid Q0k 5 (.slice (some ⟨h,0,none⟩) mt.length c2) mt.length (mt.flatMap Q0e.cs)) (e1:(Q0m mc a p).2=true) (e2:¬(bits .and .i64 f 12=0)):
  Calls Try.prog 54 #[Q3b (.slice (some ⟨g,0,none⟩) mc.length c1) (.slice (some ⟨h,0,none⟩) mt.length c2) i l d a p f s (.slice o3 n3 c3) (.slice (some ⟨bg,fg,none⟩) gl cg) (k:Int) st now] w fun e w'=> e=.returned (.int .i64 (if (Q0m mc a p).2=true then 0 else -1))∧w'.ownsRow lo Q0k 5 (.slice (some ⟨g,0,none⟩) mc.length c1) mc.length ((tkC mc now a p f s).flatMap Q0e.cs)∧w'.ownsRow mid Q0k 5 (.slice (some ⟨h,0,none⟩) mt.length c2) mt.length ((tkT mc mt now a p f).flatMap Q0e.cs)∧Stp lo hi w w':=by
 have hlg:=(ho.lt g rfl).1
 have zg:=(ho.lt g rfl).2
 have zh:=(hp.lt h rfl).2
 have HC:Hid (Row w g 0 mc):=Q0n ho rfl
 have HO:=Q00 ho
 have HP:=Q00 hp
 clear ho hp
 obtain ⟨W0,hW0⟩:∃W,(w.alloc (.cells #[.slice (some ⟨g,0,none⟩) mc.length c1,.slice (some ⟨h,0,none⟩) mt.length c2,.int .i64 i,.int .i64 l,.bool d,.int .i64 a,.int .i64 p,.int .i64 f,.int .i64 s,.slice o3 n3 c3,.slice (some ⟨bg,fg,none⟩) gl cg,.int .i64 (k:Int),.int .i64 st,.int .i64 now] 74))=W:=⟨_,rfl⟩
 have hb_W0:Below w.heap.size w W0:=by rw [←hW0];exact ((Below.refl _ _).alloc (Kaq _) _)
 have HB:=Q00 hb_W0
 clear hb_W0
 have zz:w.heap.size < W0.heap.size:=by rw [←hW0];simp
 have z0:W0.cell? ⟨w.heap.size,0,none⟩=some (.slice (some ⟨g,0,none⟩) mc.length c1):=by rw [←hW0];simp [go_sem]
 have z1:W0.cell? ⟨w.heap.size,1,none⟩=some (.slice (some ⟨h,0,none⟩) mt.length c2):=by rw [←hW0];simp [go_sem]
 have z2:W0.cell? ⟨w.heap.size,2,none⟩=some (.int .i64 i):=by rw [←hW0];simp [go_sem]
 have z3:W0.cell? ⟨w.heap.size,3,none⟩=some (.int .i64 l):=by rw [←hW0];simp [go_sem]
 have z4:W0.cell? ⟨w.heap.size,4,none⟩=some (.bool d):=by rw [←hW0];simp [go_sem]
 have z5:W0.cell? ⟨w.heap.size,5,none⟩=some (.int .i64 a):=by rw [←hW0];simp [go_sem]
 have z6:W0.cell? ⟨w.heap.size,6,none⟩=some (.int .i64 p):=by rw [←hW0];simp [go_sem]
 have z7:W0.cell? ⟨w.heap.size,7,none⟩=some (.int .i64 f):=by rw [←hW0];simp [go_sem]
 have z8:W0.cell? ⟨w.heap.size,8,none⟩=some (.int .i64 s):=by rw [←hW0];simp [go_sem]
 have z9:W0.cell? ⟨w.heap.size,9,none⟩=some (.slice o3 n3 c3):=by rw [←hW0];simp [go_sem]
 have z10:W0.cell? ⟨w.heap.size,10,none⟩=some (.slice (some ⟨bg,fg,none⟩) gl cg):=by rw [←hW0];simp [go_sem]
 have z11:W0.cell? ⟨w.heap.size,11,none⟩=some (.int .i64 (k:Int)):=by rw [←hW0];simp [go_sem]
 have z12:W0.cell? ⟨w.heap.size,12,none⟩=some (.int .i64 st):=by rw [←hW0];simp [go_sem]
 have z13:W0.cell? ⟨w.heap.size,13,none⟩=some (.int .i64 now):=by rw [←hW0];simp [go_sem]
 have HF:=Q00 (fun pp:Grown W0=> Q0t (some ⟨g,0,none⟩) (some ⟨h,0,none⟩) o3 mc.length c1 mt.length c2 n3 c3 bg fg gl cg k i l d a p f s st now pp.v)
 have HFv:=Q00 (fun W=> Q0t (some ⟨g,0,none⟩) (some ⟨h,0,none⟩) o3 mc.length c1 mt.length c2 n3 c3 bg fg gl cg k i l d a p f s st now W)
 have HH:=Q00 (fun pp:Grown W0=> Q3j g 0 c1 mc a p pp.v hc0 (by omega) hfl (Kbq (Kbq zg HB.out.size) pp.b.size) (Row.kept (Row.kept HC.out HB.out zg) pp.b (Kbq zg HB.out.size)))
 have HAn:=Q00 (fun W=> Q2G f 12 W)
 have G0:=Grown.cell z0 zz
 have G1:=Grown.cell z1 zz
 have G2:=Grown.cell z2 zz
 have G3:=Grown.cell z3 zz
 have G4:=Grown.cell z4 zz
 have G5:=Grown.cell z5 zz
 have G6:=Grown.cell z6 zz
 have G7:=Grown.cell z7 zz
 have G8:=Grown.cell z8 zz
 have G9:=Grown.cell z9 zz
 have G10:=Grown.cell z10 zz
 have G11:=Grown.cell z11 zz
 have G12:=Grown.cell z12 zz
 have G13:=Grown.cell z13 zz
 rw [e1] at HH
 have H1:Hid (tkC mc now a p f s=Q1N mc a p):=by unfold Hid tkC;rw [if_pos e1,if_neg e2]
 have H2:Hid (tkT mc mt now a p f=Q11 mt a p 0 (now+21)):=by unfold Hid tkT;rw [if_pos e1,if_neg e2]
 rw [if_pos e1,H1.out,H2.out]
 have e3:(bits .and .i64 f 12 !=0)=true:=by simpa using e2
 rw [e3] at HAn
 have HDr:=Q00 (fun W ho=> Q7q g c1 lo mc a p W hc0 hc16 hfl hok ho)
 rw [e1] at HDr
 have HSh:=Q00 (fun W ho=> Q1Z h c2 mid mt a p now W ht0 (by omega) hfl hn0 hn1 ho)
 obtain ⟨tb,htb⟩:∃q,decide (0≤(Q0m mt a p).1)=q:=⟨_,rfl⟩
 rw [htb] at HSh
 clear e1 e2 e3 htb
 go_enter Try.func54,Try.ntmps54
 go_wp2
 (refine Q05 (by kernel_rfl) (by kernel_rfl) ?_;intro hne9;(repeat (go_big_quiet_step (first|(go_at_call 80;exact Q09 _ (HF.out _))|(go_at_call 36;exact Q09 _ (HH.out _)))));(with_reducible refine wpQuiet_nil ?_);intro _ hw9;obtain ⟨pq,hw8⟩:=hw9;subst hw8)
 obtain ⟨u1,hu1⟩:∃W,pq.v=W:=⟨_,rfl⟩
 have hb:=pq.b
 rw [hu1] at hb ⊢
 clear G0 G1 G2 G3 G4 G5 G6 G7 G8 G9 G10 G11 G12 G13 HF HH
 replace z0:=bC hb z0 zz
 replace z1:=bC hb z1 zz
 replace z2:=bC hb z2 zz
 replace z3:=bC hb z3 zz
 replace z4:=bC hb z4 zz
 replace z5:=bC hb z5 zz
 replace z6:=bC hb z6 zz
 replace z7:=bC hb z7 zz
 replace z8:=bC hb z8 zz
 replace z9:=bC hb z9 zz
 replace z10:=bC hb z10 zz
 replace z11:=bC hb z11 zz
 replace z12:=bC hb z12 zz
 replace z13:=bC hb z13 zz
 replace zz:=Kbq zz hb.size
 replace HB:=Q00 (HB.out.trans (hb.mono HB.out.size))
 clear hb
 clear hu1 pq
 go_wp2_with fail
 refine (HAn.out u1).mono ?_
 rintro e w9 ⟨rfl,rfl⟩
 have hzz:=zz
 go_wp2
 go_region_held3 (fun w'=> w'.cell? ⟨w.heap.size,0,none⟩=some (.slice (some ⟨g,0,none⟩) mc.length c1)∧w'.cell? ⟨w.heap.size,1,none⟩=some (.slice (some ⟨h,0,none⟩) mt.length c2)∧w'.cell? ⟨w.heap.size,2,none⟩=some (.int .i64 i)∧w'.cell? ⟨w.heap.size,3,none⟩=some (.int .i64 l)∧w'.cell? ⟨w.heap.size,4,none⟩=some (.bool d)∧w'.cell? ⟨w.heap.size,5,none⟩=some (.int .i64 a)∧w'.cell? ⟨w.heap.size,6,none⟩=some (.int .i64 p)∧w'.cell? ⟨w.heap.size,7,none⟩=some (.int .i64 f)∧w'.cell? ⟨w.heap.size,8,none⟩=some (.int .i64 s)∧w'.cell? ⟨w.heap.size,9,none⟩=some (.slice o3 n3 c3)∧w'.cell? ⟨w.heap.size,10,none⟩=some (.slice (some ⟨bg,fg,none⟩) gl cg)∧w'.cell? ⟨w.heap.size,11,none⟩=some (.int .i64 (k:Int))∧w'.cell? ⟨w.heap.size,12,none⟩=some (.int .i64 st)∧w'.cell? ⟨w.heap.size,13,none⟩=some (.int .i64 now)) (first|with_reducible exact ⟨qz0,qz1,qz2,qz3,qz4,qz5,qz6,qz7,qz8,qz9,qz10,qz11,qz12,qz13⟩|with_reducible exact ⟨pz0,pz1,pz2,pz3,pz4,pz5,pz6,pz7,pz8,pz9,pz10,pz11,pz12,pz13⟩|exact ⟨z0,z1,z2,z3,z4,z5,z6,z7,z8,z9,z10,z11,z12,z13⟩|go_keep) (first|(go_at_call 80;(with_reducible refine (HFv.out u1.drew).mono ?_);rintro e x0 ⟨rfl,hb⟩;have hx0:Below u1.heap.size u1 x0:=(Below.drew (Below.refl _ _)).trans hb;have sx0:=hx0.size;clear hb;have pz0:=(hx0.cell (p:=⟨w.heap.size,0,none⟩) zz).trans z0;have pz1:=(hx0.cell (p:=⟨w.heap.size,1,none⟩) zz).trans z1;have pz2:=(hx0.cell (p:=⟨w.heap.size,2,none⟩) zz).trans z2;have pz3:=(hx0.cell (p:=⟨w.heap.size,3,none⟩) zz).trans z3;have pz4:=(hx0.cell (p:=⟨w.heap.size,4,none⟩) zz).trans z4;have pz5:=(hx0.cell (p:=⟨w.heap.size,5,none⟩) zz).trans z5;have pz6:=(hx0.cell (p:=⟨w.heap.size,6,none⟩) zz).trans z6;have pz7:=(hx0.cell (p:=⟨w.heap.size,7,none⟩) zz).trans z7;have pz8:=(hx0.cell (p:=⟨w.heap.size,8,none⟩) zz).trans z8;have pz9:=(hx0.cell (p:=⟨w.heap.size,9,none⟩) zz).trans z9;have pz10:=(hx0.cell (p:=⟨w.heap.size,10,none⟩) zz).trans z10;have pz11:=(hx0.cell (p:=⟨w.heap.size,11,none⟩) zz).trans z11;have pz12:=(hx0.cell (p:=⟨w.heap.size,12,none⟩) zz).trans z12;have pz13:=(hx0.cell (p:=⟨w.heap.size,13,none⟩) zz).trans z13)|(go_at_call 81;(with_reducible refine (HDr.out x0 (Q0a (Q0a HO.out HB.out) hx0)).mono ?_);rintro e x1 ⟨rfl,ho1,st1⟩;have HO1:=Q00 ho1;have HSA:Hid (Stp lo hi w x1):=((Stp.of HB.out).trans (Stp.of hx0)).trans (st1.wide' (by omega) (by omega));have HP1:Hid (x1.ownsRow mid Q0k 5 (.slice (some ⟨h,0,none⟩) mt.length c2) mt.length (mt.flatMap Q0e.cs)):=(InRow.step (a:=mid) (b:=hi) ⟨Q0a (Q0a HP.out HB.out) hx0,fun b e=> (by simp [Value.ownBlock] at e;omega)⟩ st1 (.inl (by omega))).1;have sx1:=st1.size;have qz0:x1.cell? ⟨w.heap.size,0,none⟩=some (.slice (some ⟨g,0,none⟩) mc.length c1):=st1.cell pz0 (by omega) (.inr (by omega));have qz1:x1.cell? ⟨w.heap.size,1,none⟩=some (.slice (some ⟨h,0,none⟩) mt.length c2):=st1.cell pz1 (by omega) (.inr (by omega));have qz2:x1.cell? ⟨w.heap.size,2,none⟩=some (.int .i64 i):=st1.cell pz2 (by omega) (.inr (by omega));have qz3:x1.cell? ⟨w.heap.size,3,none⟩=some (.int .i64 l):=st1.cell pz3 (by omega) (.inr (by omega));have qz4:x1.cell? ⟨w.heap.size,4,none⟩=some (.bool d):=st1.cell pz4 (by omega) (.inr (by omega));have qz5:x1.cell? ⟨w.heap.size,5,none⟩=some (.int .i64 a):=st1.cell pz5 (by omega) (.inr (by omega));have qz6:x1.cell? ⟨w.heap.size,6,none⟩=some (.int .i64 p):=st1.cell pz6 (by omega) (.inr (by omega));have qz7:x1.cell? ⟨w.heap.size,7,none⟩=some (.int .i64 f):=st1.cell pz7 (by omega) (.inr (by omega));have qz8:x1.cell? ⟨w.heap.size,8,none⟩=some (.int .i64 s):=st1.cell pz8 (by omega) (.inr (by omega));have qz9:x1.cell? ⟨w.heap.size,9,none⟩=some (.slice o3 n3 c3):=st1.cell pz9 (by omega) (.inr (by omega));have qz10:x1.cell? ⟨w.heap.size,10,none⟩=some (.slice (some ⟨bg,fg,none⟩) gl cg):=st1.cell pz10 (by omega) (.inr (by omega));have qz11:x1.cell? ⟨w.heap.size,11,none⟩=some (.int .i64 (k:Int)):=st1.cell pz11 (by omega) (.inr (by omega));have qz12:x1.cell? ⟨w.heap.size,12,none⟩=some (.int .i64 st):=st1.cell pz12 (by omega) (.inr (by omega));have qz13:x1.cell? ⟨w.heap.size,13,none⟩=some (.int .i64 now):=st1.cell pz13 (by omega) (.inr (by omega));clear ho1 st1)|fail)
 have zx1:w.heap.size < x1.heap.size:=by omega
 clear pz0 z0 pz1 z1 pz2 z2 pz3 z3 pz4 z4 pz5 z5 pz6 z6 pz7 z7 pz8 z8 pz9 z9 pz10 z10 pz11 z11 pz12 z12 pz13 z13
 go_wp2
 go_region_held3 (fun w'=> w'.cell? ⟨w.heap.size,0,none⟩=some (.slice (some ⟨g,0,none⟩) mc.length c1)∧w'.cell? ⟨w.heap.size,1,none⟩=some (.slice (some ⟨h,0,none⟩) mt.length c2)∧w'.cell? ⟨w.heap.size,2,none⟩=some (.int .i64 i)∧w'.cell? ⟨w.heap.size,3,none⟩=some (.int .i64 l)∧w'.cell? ⟨w.heap.size,4,none⟩=some (.bool d)∧w'.cell? ⟨w.heap.size,5,none⟩=some (.int .i64 a)∧w'.cell? ⟨w.heap.size,6,none⟩=some (.int .i64 p)∧w'.cell? ⟨w.heap.size,7,none⟩=some (.int .i64 f)∧w'.cell? ⟨w.heap.size,8,none⟩=some (.int .i64 s)∧w'.cell? ⟨w.heap.size,9,none⟩=some (.slice o3 n3 c3)∧w'.cell? ⟨w.heap.size,10,none⟩=some (.slice (some ⟨bg,fg,none⟩) gl cg)∧w'.cell? ⟨w.heap.size,11,none⟩=some (.int .i64 (k:Int))∧w'.cell? ⟨w.heap.size,12,none⟩=some (.int .i64 st)∧w'.cell? ⟨w.heap.size,13,none⟩=some (.int .i64 now)) (first|with_reducible exact ⟨sz0,sz1,sz2,sz3,sz4,sz5,sz6,sz7,sz8,sz9,sz10,sz11,sz12,sz13⟩|with_reducible exact ⟨rz0,rz1,rz2,rz3,rz4,rz5,rz6,rz7,rz8,rz9,rz10,rz11,rz12,rz13⟩|exact ⟨qz0,qz1,qz2,qz3,qz4,qz5,qz6,qz7,qz8,qz9,qz10,qz11,qz12,qz13⟩|go_keep) (first|(go_at_call 80;(with_reducible refine (HFv.out x1.drew).mono ?_);rintro e y0 ⟨rfl,hb⟩;have hy0:Below x1.heap.size x1 y0:=(Below.drew (Below.refl _ _)).trans hb;have sy0:=hy0.size;clear hb;have rz0:=(hy0.cell (p:=⟨w.heap.size,0,none⟩) zx1).trans qz0;have rz1:=(hy0.cell (p:=⟨w.heap.size,1,none⟩) zx1).trans qz1;have rz2:=(hy0.cell (p:=⟨w.heap.size,2,none⟩) zx1).trans qz2;have rz3:=(hy0.cell (p:=⟨w.heap.size,3,none⟩) zx1).trans qz3;have rz4:=(hy0.cell (p:=⟨w.heap.size,4,none⟩) zx1).trans qz4;have rz5:=(hy0.cell (p:=⟨w.heap.size,5,none⟩) zx1).trans qz5;have rz6:=(hy0.cell (p:=⟨w.heap.size,6,none⟩) zx1).trans qz6;have rz7:=(hy0.cell (p:=⟨w.heap.size,7,none⟩) zx1).trans qz7;have rz8:=(hy0.cell (p:=⟨w.heap.size,8,none⟩) zx1).trans qz8;have rz9:=(hy0.cell (p:=⟨w.heap.size,9,none⟩) zx1).trans qz9;have rz10:=(hy0.cell (p:=⟨w.heap.size,10,none⟩) zx1).trans qz10;have rz11:=(hy0.cell (p:=⟨w.heap.size,11,none⟩) zx1).trans qz11;have rz12:=(hy0.cell (p:=⟨w.heap.size,12,none⟩) zx1).trans qz12;have rz13:=(hy0.cell (p:=⟨w.heap.size,13,none⟩) zx1).trans qz13)|(go_at_call 82;(with_reducible refine (HSh.out y0 (Q0a HP1.out hy0)).mono ?_);rintro e y1 ⟨rfl,hp1,st2⟩;have HP2:=Q00 hp1;have HSB:Hid (Stp lo hi w y1):=(HSA.out.trans (Stp.of hy0)).trans (st2.wide' (by omega) (by omega));have HO2:Hid (y1.ownsRow lo Q0k 5 (.slice (some ⟨g,0,none⟩) mc.length c1) mc.length ((Q1N mc a p).flatMap Q0e.cs)):=(InRow.step (a:=lo) (b:=mid) ⟨Q0a HO1.out hy0,fun b e=> (by simp [Value.ownBlock] at e;omega)⟩ st2 (.inr (by omega))).1;have sz0:y1.cell? ⟨w.heap.size,0,none⟩=some (.slice (some ⟨g,0,none⟩) mc.length c1):=st2.cell rz0 (by omega) (.inr (by omega));have sz1:y1.cell? ⟨w.heap.size,1,none⟩=some (.slice (some ⟨h,0,none⟩) mt.length c2):=st2.cell rz1 (by omega) (.inr (by omega));have sz2:y1.cell? ⟨w.heap.size,2,none⟩=some (.int .i64 i):=st2.cell rz2 (by omega) (.inr (by omega));have sz3:y1.cell? ⟨w.heap.size,3,none⟩=some (.int .i64 l):=st2.cell rz3 (by omega) (.inr (by omega));have sz4:y1.cell? ⟨w.heap.size,4,none⟩=some (.bool d):=st2.cell rz4 (by omega) (.inr (by omega));have sz5:y1.cell? ⟨w.heap.size,5,none⟩=some (.int .i64 a):=st2.cell rz5 (by omega) (.inr (by omega));have sz6:y1.cell? ⟨w.heap.size,6,none⟩=some (.int .i64 p):=st2.cell rz6 (by omega) (.inr (by omega));have sz7:y1.cell? ⟨w.heap.size,7,none⟩=some (.int .i64 f):=st2.cell rz7 (by omega) (.inr (by omega));have sz8:y1.cell? ⟨w.heap.size,8,none⟩=some (.int .i64 s):=st2.cell rz8 (by omega) (.inr (by omega));have sz9:y1.cell? ⟨w.heap.size,9,none⟩=some (.slice o3 n3 c3):=st2.cell rz9 (by omega) (.inr (by omega));have sz10:y1.cell? ⟨w.heap.size,10,none⟩=some (.slice (some ⟨bg,fg,none⟩) gl cg):=st2.cell rz10 (by omega) (.inr (by omega));have sz11:y1.cell? ⟨w.heap.size,11,none⟩=some (.int .i64 (k:Int)):=st2.cell rz11 (by omega) (.inr (by omega));have sz12:y1.cell? ⟨w.heap.size,12,none⟩=some (.int .i64 st):=st2.cell rz12 (by omega) (.inr (by omega));have sz13:y1.cell? ⟨w.heap.size,13,none⟩=some (.int .i64 now):=st2.cell rz13 (by omega) (.inr (by omega));clear hp1 st2)|fail)
 go_wp2
 go_ret
 exact ⟨rfl,HO2.out,HP2.out,HSB.out⟩
theorem Q6T (g h c1 c2:Nat) (mc mt:List Sl) (o3:Option Addr) (n3 c3 bg fg gl cg k:Nat) (i l:Int) (d:Bool) (a p f s st now:Int) (lo mid hi:Nat) (w:World) (hfl:Q0c a p=true) (hc0:0 < mc.length) (hc16:mc.length≤16) (ht0:0 < mt.length) (ht16:mt.length≤16) (hn0:0≤now) (hn1:now≤100000) (hok:Q0F mc) (hgm:g < mid) (hmh:mid≤h) (hhi:h < hi) (ho:w.ownsRow lo Q0k 5 (.slice (some ⟨g,0,none⟩) mc.length c1) mc.length (mc.flatMap Q0e.cs)) (hp:w.ownsRow mid Q0k 5 (.slice (some ⟨h,0,none⟩) mt.length c2) mt.length (mt.flatMap Q0e.cs)):
  Calls Try.prog 54 #[Q3b (.slice (some ⟨g,0,none⟩) mc.length c1) (.slice (some ⟨h,0,none⟩) mt.length c2) i l d a p f s (.slice o3 n3 c3) (.slice (some ⟨bg,fg,none⟩) gl cg) (k:Int) st now] w fun e w'=> e=.returned (.int .i64 (if (Q0m mc a p).2=true then 0 else -1))∧w'.ownsRow lo Q0k 5 (.slice (some ⟨g,0,none⟩) mc.length c1) mc.length ((tkC mc now a p f s).flatMap Q0e.cs)∧w'.ownsRow mid Q0k 5 (.slice (some ⟨h,0,none⟩) mt.length c2) mt.length ((tkT mc mt now a p f).flatMap Q0e.cs)∧Stp lo hi w w':=by
 cases e1:(Q0m mc a p).2 with
 |false=>
  have h:=Q7P g h c1 c2 mc mt o3 n3 c3 bg fg gl cg k i l d a p f s st now lo mid hi w hfl hc0 hc16 ht0 ht16 hn0 hn1 hok hgm hmh hhi ho hp e1
  rw [e1] at h
  exact h
 |true=>
  by_cases e2:bits .and .i64 f 12=0
  ·have h:=Q5Z g h c1 c2 mc mt o3 n3 c3 bg fg gl cg k i l d a p f s st now lo mid hi w hfl hc0 hc16 ht0 ht16 hn0 hn1 hok hgm hmh hhi ho hp e1 e2
   rw [e1] at h
   exact h
  ·have h:=Q6V g h c1 c2 mc mt o3 n3 c3 bg fg gl cg k i l d a p f s st now lo mid hi w hfl hc0 hc16 ht0 ht16 hn0 hn1 hok hgm hmh hhi ho hp e1 e2
   rw [e1] at h
   exact h
end Go.Proofs.Ytljogkoaaidlcaa
