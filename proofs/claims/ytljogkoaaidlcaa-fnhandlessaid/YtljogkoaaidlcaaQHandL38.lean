/- The rules of a visit tell what the model tells; the program's Handle. -/
import Derived.Test.YtljogkoaaidlcaaQHandL37
import Derived.Test.YtljogkoaaidlcaaQHandL22
namespace Go.Proofs.Ytljogkoaaidlcaa
open Go.ChangeShapes Go.WideShapes Go.ChangeAt Go.RowKit Go.Joins
set_option linter.unusedVariables false
set_option linter.unusedSimpArgs false
set_option maxRecDepth 100000
set_option maxHeartbeats 40000000
theorem Q8d {l:List Sl} (h:Q0y l≤l.length) (d:Bool):Q1g l d=(decide (Q0y l < l.length) && !d):=by
 unfold Q1g
 rw [Bool.and_comm]
 congr 1
 rw [Bool.eq_iff_iff]
 simp
 omega
theorem Q69 (l:List Sl):Q0y l≤l.length:=by
 exact Q2e l l.length
theorem Q8F {c:Prop} [Decidable c] {x:Int} (h:(if c then -1 else x)= -1) (hx:x≠ -1):c:=by
 split at h
 ·assumption
 ·exact absurd h hx
theorem no1 {c:Prop} [Decidable c] {x:Int} (h:(if c then x else -1)= -1) (hx:x≠ -1):¬c:=by
 split at h
 ·exact absurd h hx
 ·assumption
theorem Q88 {m:Am} {a p f s st now sb sf:Int} {k gl j:Nat} (hj:j≤6) (hsf:sf=0∨sf=1) (hcl:Q0y m.c≤m.c.length) (hq:∀q,q < j→rv m.c m.t m.id m.lim m.dr a p f s st now sb sf k gl q= -1) (hne:rv m.c m.t m.id m.lim m.dr a p f s st now sb sf k gl j≠ -1):
  rv m.c m.t m.id m.lim m.dr a p f s st now sb sf k gl j=hdV m now a p f sb sf k gl st∧rc m.c m.t m.id m.lim m.dr a p f s st now sb sf k gl j=hdC m now a p f s sb sf k gl st∧rt m.c m.t m.id m.lim m.dr a p f s st now sb sf k gl j=hdT m now a p f sb sf k gl st:=by
 have e21:now+20+1=now+21:=by omega
 have h0:0 < j→sb=m.id:=fun h=> Q8F (hq 0 h) (by decide)
 have h1:1 < j→¬((bits .and .i64 f 3==1)=true∧10 < now - st):=fun h=> no1 (hq 1 h) (by decide)
 have h2:2 < j→¬((Q0m m.c a p).2=true):=fun h=> no1 (hq 2 h) (by decide)
 have h3:3 < j→sf=1:=fun h=> by
  have h4:=hq 3 h
  simp only [rv] at h4
  rcases hsf with e|e
  ·rw [if_pos e] at h4;split at h4 <;> omega
  ·exact e
 have h4:4 < j→Q1Y m.c m.t m.dr a p k gl=false:=fun h=> Bool.eq_false_iff.2 (no1 (hq 4 h) (by decide))
 have h5:5 < j→(Q0M k gl||Q60 m.c m.t m.dr m.lim a p)=true:=fun h=> by
  have h6:=hq 5 h
  simp only [rv,Q23] at h6
  split at h6
  ·assumption
  ·split at h6 <;> omega
 clear hq
 unfold hdV hdC hdT Q41 Q3V Q3T Q2T Q3e Q19
 rw [←Q8d hcl,e21]
 unfold Q1Y at h4
 unfold Q60 at h5
 match j,hj with
 |0,_=>
  have e0:¬sb=m.id:=fun e=> hne (if_pos e)
  simp only [rv,rc,rt,if_neg e0,and_self]
 |1,_=>
  have e0:=h0 (by omega)
  have e1:(bits .and .i64 f 3==1)=true∧10 < now - st:=Classical.byContradiction fun e=> hne (if_neg e)
  simp only [rv,rc,rt,if_pos e0,if_pos e1,and_self]
 |2,_=>
  have e0:=h0 (by omega)
  have e1:=h1 (by omega)
  have e2:(Q0m m.c a p).2=true:=Classical.byContradiction fun e=> hne (if_neg e)
  simp only [rv,rc,rt,tkC,tkT,if_pos e0,if_neg e1,if_pos e2,and_self]
 |3,_=>
  have e0:=h0 (by omega)
  have e1:=h1 (by omega)
  have e2:=h2 (by omega)
  have e3:sf=0:=Classical.byContradiction fun e=> hne (if_neg e)
  have e4:¬sf=1:=by omega
  simp only [rv,rc,rt,if_pos e0,if_neg e1,if_neg e2,if_pos e3,if_neg e4,and_self]
 |4,_=>
  have e0:=h0 (by omega)
  have e1:=h1 (by omega)
  have e2:=h2 (by omega)
  have e3:=h3 (by omega)
  have e4:Q1Y m.c m.t m.dr a p k gl=true:=Classical.byContradiction fun e=> hne (if_neg e)
  simp only [rv,rc,rt,if_pos e0,if_neg e1,if_neg e2,if_pos e3,if_pos e4]
  unfold Q1Y at e4
  clear h0 h1 h2 h3 h4 h5 hne
  cases hl:Q0M k gl <;> cases hs:(Q0m m.t a p).2 <;> cases hr:Q1g m.c m.dr <;> simp [hl,hs,hr] at e4 ⊢
 |5,_=>
  have e0:=h0 (by omega)
  have e1:=h1 (by omega)
  have e2:=h2 (by omega)
  have e3:=h3 (by omega)
  have e5:¬((Q0M k gl||Q60 m.c m.t m.dr m.lim a p)=true):=fun e=> hne (if_pos e)
  simp only [rv,rc,rt,Q23,Q2s,if_pos e0,if_neg e1,if_neg e2,if_pos e3,if_neg e5]
  unfold Q60 at e5
  clear h0 h1 h2 h3 h4 h5 hne
  cases hl:Q0M k gl <;> cases hs:(Q0m m.t a p).2 <;> cases hr:Q1g m.c m.dr <;> cases hm:decide ((Q0y m.c:Int) < m.lim) <;> simp [hl,hs,hr,hm] at e5 ⊢
 |6,_=>
  have e0:=h0 (by omega)
  have e1:=h1 (by omega)
  have e2:=h2 (by omega)
  have e3:=h3 (by omega)
  have e4:=h4 (by omega)
  have e5:=h5 (by omega)
  simp only [rv,rc,rt,if_pos e0,if_neg e1,if_neg e2,if_pos e3]
  clear h0 h1 h2 h3 h4 h5 hne
  cases hl:Q0M k gl <;> cases hs:(Q0m m.t a p).2 <;> cases hr:Q1g m.c m.dr <;> cases hm:decide ((Q0y m.c:Int) < m.lim) <;> simp [hl,hs,hr,hm] at e4 e5 ⊢
theorem Q1H (v:Value) (m:Am) (now a p f s:Int) (o og:Option Addr) (n cp cg:Nat) (gg:List (Int × Int)) (pl st:Int) (w:World) (hR:RdA w.heap.size w v m) (hf:m.c.length+m.t.length≤1048576) (hn:n≤maxLen) (hgl:gg.length≤maxLen) (hG:RdG w og gg):
  Calls Try.prog 6 #[v,.int .i64 now,crr a p f s (.slice o n cp) (.slice og gg.length cg) pl st] w fun e w'=> ∃v',e=.returned (.tuple #[v',.int .i64 (Q7Y m now a p f s n gg pl st)])∧InA w.heap.size w'.heap.size w' v' (Q5W m now a p f s n gg pl st)∧Below w.heap.size w w':=by
 have hR0:=hR
 obtain ⟨vc,vt,rfl,⟨oc,cc,rfl,rc⟩,⟨ot,ct,rfl,rt⟩⟩:=hR0
 obtain ⟨W0,hW0⟩:∃W,(((w.alloc (.cells #[.int .i64 m.id,.int .i64 m.lim,.bool m.dr,.slice oc m.c.length cc,.slice ot m.t.length ct] 27)).alloc (.cells #[.int .i64 a,.int .i64 p,.int .i64 f,.int .i64 s,.slice o n cp,.slice og gg.length cg,.int .i64 pl,.int .i64 st] 34)).alloc (.cells #[.int .i64 0,.int .i64 0,.bool false,.slice none 0 0,.slice none 0 0] 27))=W:=⟨_,rfl⟩
 have hb_W0:Below w.heap.size w W0:=by rw [←hW0];exact ((((Below.refl _ _).alloc (Kaq _) _).alloc (by simp <;> omega) _).alloc (by simp <;> omega) _)
 have HB:=Q00 hb_W0
 clear hb_W0
 have zz:w.heap.size < W0.heap.size:=by rw [←hW0];simp <;> omega
 have z0:W0.cell? ⟨w.heap.size,0,none⟩=some (.int .i64 m.id):=by rw [←hW0];simp [go_sem]
 have z1:W0.cell? ⟨w.heap.size,1,none⟩=some (.int .i64 m.lim):=by rw [←hW0];simp [go_sem]
 have z2:W0.cell? ⟨w.heap.size,2,none⟩=some (.bool m.dr):=by rw [←hW0];simp [go_sem]
 have z3:W0.cell? ⟨w.heap.size,3,none⟩=some (.slice oc m.c.length cc):=by rw [←hW0];simp [go_sem]
 have z4:W0.cell? ⟨w.heap.size,4,none⟩=some (.slice ot m.t.length ct):=by rw [←hW0];simp [go_sem]
 have zu:w.heap.size+1 < W0.heap.size:=by rw [←hW0];simp <;> omega
 have u0:W0.cell? ⟨w.heap.size+1,0,none⟩=some (.int .i64 a):=by rw [←hW0];simp [go_sem]
 have u1:W0.cell? ⟨w.heap.size+1,1,none⟩=some (.int .i64 p):=by rw [←hW0];simp [go_sem]
 have u2:W0.cell? ⟨w.heap.size+1,2,none⟩=some (.int .i64 f):=by rw [←hW0];simp [go_sem]
 have u3:W0.cell? ⟨w.heap.size+1,3,none⟩=some (.int .i64 s):=by rw [←hW0];simp [go_sem]
 have u4:W0.cell? ⟨w.heap.size+1,4,none⟩=some (.slice o n cp):=by rw [←hW0];simp [go_sem]
 have u5:W0.cell? ⟨w.heap.size+1,5,none⟩=some (.slice og gg.length cg):=by rw [←hW0];simp [go_sem]
 have u6:W0.cell? ⟨w.heap.size+1,6,none⟩=some (.int .i64 pl):=by rw [←hW0];simp [go_sem]
 have u7:W0.cell? ⟨w.heap.size+1,7,none⟩=some (.int .i64 st):=by rw [←hW0];simp [go_sem]
 have zr:w.heap.size+1+1 < W0.heap.size:=by rw [←hW0];simp
 have r0:W0.cell? ⟨w.heap.size+1+1,0,none⟩=some (.int .i64 0):=by rw [←hW0];simp [go_sem]
 have r1:W0.cell? ⟨w.heap.size+1+1,1,none⟩=some (.int .i64 0):=by rw [←hW0];simp [go_sem]
 have r2:W0.cell? ⟨w.heap.size+1+1,2,none⟩=some (.bool false):=by rw [←hW0];simp [go_sem]
 have r3:W0.cell? ⟨w.heap.size+1+1,3,none⟩=some (.slice none 0 0):=by rw [←hW0];simp [go_sem]
 have r4:W0.cell? ⟨w.heap.size+1+1,4,none⟩=some (.slice none 0 0):=by rw [←hW0];simp [go_sem]
 have fr0:W0.frozen? ⟨w.heap.size+1+1,0,none⟩=false:=by rw [←hW0];simp [go_sem]
 have fr1:W0.frozen? ⟨w.heap.size+1+1,1,none⟩=false:=by rw [←hW0];simp [go_sem]
 have fr2:W0.frozen? ⟨w.heap.size+1+1,2,none⟩=false:=by rw [←hW0];simp [go_sem]
 have fr3:W0.frozen? ⟨w.heap.size+1+1,3,none⟩=false:=by rw [←hW0];simp [go_sem]
 have fr4:W0.frozen? ⟨w.heap.size+1+1,4,none⟩=false:=by rw [←hW0];simp [go_sem]
 have hz0:=zr
 have HOK:=Q00 (Q1m _ m W0 ((hR.kept HB.out (Kaq _)).le HB.out.size) hf)
 have hnw:=fun W=> Q55 now W
 have HCO:=Q00 (fun W (hb:Below w.heap.size w W)=> Q2R a p f s o og n cp cg gg pl st W hn hgl (hG.kept hb))
 have HB4:=Q00 (show Q4F m now a p f s n gg pl st=(Q0o m && (decide (0≤now) && decide (now≤100000)) && Q0q a p f s n gg pl st && decide (st≤now)) from rfl)
 have HHM:=Q00 (show Q5W m now a p f s n gg pl st=if Q4F m now a p f s n gg pl st=true then Q7b m now a p f s gg pl st else am0 from rfl)
 have HHV:=Q00 (show Q7Y m now a p f s n gg pl st=if Q4F m now a p f s n gg pl st=true then hdV m now a p f (gg.getD pl.toNat (0,0)).1 (gg.getD pl.toNat (0,0)).2 pl.toNat gg.length st else -1 from rfl)
 rw [HB4.out] at HHM HHV
 have HAG:=Q00 (fun h:Q0o m=true=> And.intro (Q6K h) (Q5N h))
 have HCF:=Q00 (fun h:Q0q a p f s n gg pl st=true=> Q2O h)
 have HNF:=Q00 (fun h:(decide (0≤now) && decide (now≤100000))=true=> (show 0≤now∧now≤100000 by simpa using h))
 clear HB4
 have HSG:=Q00 (fun h:Q0q a p f s n gg pl st=true=> Q33 h)
 generalize (decide (0≤now) && decide (now≤100000))=bl at *
 generalize Q0o m=ok at *
 generalize Q0q a p f s n gg pl st=co at *
 have HRC:=Q00 rc
 have HRT:=Q00 rt
 clear rc rt
 cases ok with
 |false=>
  clear HAG HCF HNF hnw HCO
  go_enter Try.func6,Try.ntmps6
  go_wp2_with fail
  refine (HOK.out).mono ?_
  rintro e v1 ⟨o1,n1,k1,o2,n2,k2,i,l,d,rfl,hv,hb⟩
  clear hv
  replace z0:=bC hb z0 zz
  replace z1:=bC hb z1 zz
  replace z2:=bC hb z2 zz
  replace z3:=bC hb z3 zz
  replace z4:=bC hb z4 zz
  replace zz:=Kbq zz hb.size
  replace u0:=bC hb u0 zu
  replace u1:=bC hb u1 zu
  replace u2:=bC hb u2 zu
  replace u3:=bC hb u3 zu
  replace u4:=bC hb u4 zu
  replace u5:=bC hb u5 zu
  replace u6:=bC hb u6 zu
  replace u7:=bC hb u7 zu
  replace zu:=Kbq zu hb.size
  replace r0:=bC hb r0 zr
  replace r1:=bC hb r1 zr
  replace r2:=bC hb r2 zr
  replace r3:=bC hb r3 zr
  replace r4:=bC hb r4 zr
  replace fr0:=bF hb fr0 zr
  replace fr1:=bF hb fr1 zr
  replace fr2:=bF hb fr2 zr
  replace fr3:=bF hb fr3 zr
  replace fr4:=bF hb fr4 zr
  replace zr:=Kbq zr hb.size
  replace HB:=Q00 (HB.out.trans (hb.mono HB.out.size))
  clear hb
  obtain ⟨W2,hW2⟩:∃W,(v1.alloc (.cells #[.slice o1 n1 k1,.slice o2 n2 k2,.int .i64 i,.int .i64 l,.bool d] 68))=W:=⟨_,rfl⟩
  have hb_W2:Below v1.heap.size v1 W2:=by rw [←hW2];exact ((Below.refl _ _).alloc (Kaq _) _)
  replace z0:=bC hb_W2 z0 zz
  replace z1:=bC hb_W2 z1 zz
  replace z2:=bC hb_W2 z2 zz
  replace z3:=bC hb_W2 z3 zz
  replace z4:=bC hb_W2 z4 zz
  replace zz:=Kbq zz hb_W2.size
  replace u0:=bC hb_W2 u0 zu
  replace u1:=bC hb_W2 u1 zu
  replace u2:=bC hb_W2 u2 zu
  replace u3:=bC hb_W2 u3 zu
  replace u4:=bC hb_W2 u4 zu
  replace u5:=bC hb_W2 u5 zu
  replace u6:=bC hb_W2 u6 zu
  replace u7:=bC hb_W2 u7 zu
  replace zu:=Kbq zu hb_W2.size
  replace r0:=bC hb_W2 r0 zr
  replace r1:=bC hb_W2 r1 zr
  replace r2:=bC hb_W2 r2 zr
  replace r3:=bC hb_W2 r3 zr
  replace r4:=bC hb_W2 r4 zr
  replace fr0:=bF hb_W2 fr0 zr
  replace fr1:=bF hb_W2 fr1 zr
  replace fr2:=bF hb_W2 fr2 zr
  replace fr3:=bF hb_W2 fr3 zr
  replace fr4:=bF hb_W2 fr4 zr
  replace zr:=Kbq zr hb_W2.size
  replace HB:=Q00 (HB.out.trans (hb_W2.mono HB.out.size))
  clear hb_W2
  have zx:v1.heap.size < W2.heap.size:=by rw [←hW2];simp
  have x0:W2.cell? ⟨v1.heap.size,0,none⟩=some (.slice o1 n1 k1):=by rw [←hW2];simp [go_sem]
  have x1:W2.cell? ⟨v1.heap.size,1,none⟩=some (.slice o2 n2 k2):=by rw [←hW2];simp [go_sem]
  have x2:W2.cell? ⟨v1.heap.size,2,none⟩=some (.int .i64 i):=by rw [←hW2];simp [go_sem]
  have x3:W2.cell? ⟨v1.heap.size,3,none⟩=some (.int .i64 l):=by rw [←hW2];simp [go_sem]
  have x4:W2.cell? ⟨v1.heap.size,4,none⟩=some (.bool d):=by rw [←hW2];simp [go_sem]
  go_wp2
  refine bodyPost_ret (v:=.tuple #[agt 0 0 false (.slice none 0 0) (.slice none 0 0),.int .i64 (-1)]) (by simp [results,Try.results6,go_sem,r0,r1,r2,r3,r4]) rfl ⟨_,by rw [HHV.out,if_neg (by simp)], ?_,Q07 HB.out (by omega) _ _ _ _ _⟩
  rw [HHM.out]
  rw [if_neg (by simp)]
  exact Q58 (by simp;omega)
 |true=>
  obtain ⟨⟨hp1,hp2⟩,ht1,ht2,hl1,hl2⟩:=HAG.out rfl
  clear HAG
  cases bl with
  |false=>
   clear HCF HNF HCO
   go_enter Try.func6,Try.ntmps6
   go_wp2_with fail
   refine (HOK.out).mono ?_
   rintro e v1 ⟨o1,n1,k1,o2,n2,k2,i,l,d,rfl,hv,hb⟩
   clear hv
   replace z0:=bC hb z0 zz
   replace z1:=bC hb z1 zz
   replace z2:=bC hb z2 zz
   replace z3:=bC hb z3 zz
   replace z4:=bC hb z4 zz
   replace zz:=Kbq zz hb.size
   replace u0:=bC hb u0 zu
   replace u1:=bC hb u1 zu
   replace u2:=bC hb u2 zu
   replace u3:=bC hb u3 zu
   replace u4:=bC hb u4 zu
   replace u5:=bC hb u5 zu
   replace u6:=bC hb u6 zu
   replace u7:=bC hb u7 zu
   replace zu:=Kbq zu hb.size
   replace r0:=bC hb r0 zr
   replace r1:=bC hb r1 zr
   replace r2:=bC hb r2 zr
   replace r3:=bC hb r3 zr
   replace r4:=bC hb r4 zr
   replace fr0:=bF hb fr0 zr
   replace fr1:=bF hb fr1 zr
   replace fr2:=bF hb fr2 zr
   replace fr3:=bF hb fr3 zr
   replace fr4:=bF hb fr4 zr
   replace zr:=Kbq zr hb.size
   replace HB:=Q00 (HB.out.trans (hb.mono HB.out.size))
   clear hb
   obtain ⟨W2,hW2⟩:∃W,(v1.alloc (.cells #[.slice o1 n1 k1,.slice o2 n2 k2,.int .i64 i,.int .i64 l,.bool d] 68))=W:=⟨_,rfl⟩
   have hb_W2:Below v1.heap.size v1 W2:=by rw [←hW2];exact ((Below.refl _ _).alloc (Kaq _) _)
   replace z0:=bC hb_W2 z0 zz
   replace z1:=bC hb_W2 z1 zz
   replace z2:=bC hb_W2 z2 zz
   replace z3:=bC hb_W2 z3 zz
   replace z4:=bC hb_W2 z4 zz
   replace zz:=Kbq zz hb_W2.size
   replace u0:=bC hb_W2 u0 zu
   replace u1:=bC hb_W2 u1 zu
   replace u2:=bC hb_W2 u2 zu
   replace u3:=bC hb_W2 u3 zu
   replace u4:=bC hb_W2 u4 zu
   replace u5:=bC hb_W2 u5 zu
   replace u6:=bC hb_W2 u6 zu
   replace u7:=bC hb_W2 u7 zu
   replace zu:=Kbq zu hb_W2.size
   replace r0:=bC hb_W2 r0 zr
   replace r1:=bC hb_W2 r1 zr
   replace r2:=bC hb_W2 r2 zr
   replace r3:=bC hb_W2 r3 zr
   replace r4:=bC hb_W2 r4 zr
   replace fr0:=bF hb_W2 fr0 zr
   replace fr1:=bF hb_W2 fr1 zr
   replace fr2:=bF hb_W2 fr2 zr
   replace fr3:=bF hb_W2 fr3 zr
   replace fr4:=bF hb_W2 fr4 zr
   replace zr:=Kbq zr hb_W2.size
   replace HB:=Q00 (HB.out.trans (hb_W2.mono HB.out.size))
   clear hb_W2
   have zx:v1.heap.size < W2.heap.size:=by rw [←hW2];simp
   have x0:W2.cell? ⟨v1.heap.size,0,none⟩=some (.slice o1 n1 k1):=by rw [←hW2];simp [go_sem]
   have x1:W2.cell? ⟨v1.heap.size,1,none⟩=some (.slice o2 n2 k2):=by rw [←hW2];simp [go_sem]
   have x2:W2.cell? ⟨v1.heap.size,2,none⟩=some (.int .i64 i):=by rw [←hW2];simp [go_sem]
   have x3:W2.cell? ⟨v1.heap.size,3,none⟩=some (.int .i64 l):=by rw [←hW2];simp [go_sem]
   have x4:W2.cell? ⟨v1.heap.size,4,none⟩=some (.bool d):=by rw [←hW2];simp [go_sem]
   go_wp2_with fail
   refine (hnw _).mono ?_
   rintro e w9 ⟨rfl,rfl⟩
   go_wp2
   refine bodyPost_ret (v:=.tuple #[agt 0 0 false (.slice none 0 0) (.slice none 0 0),.int .i64 (-1)]) (by simp [results,Try.results6,go_sem,r0,r1,r2,r3,r4]) rfl ⟨_,by rw [HHV.out,if_neg (by simp)], ?_,Q07 HB.out (by omega) _ _ _ _ _⟩
   rw [HHM.out]
   rw [if_neg (by simp)]
   exact Q58 (by simp;omega)
  |true=>
   obtain ⟨hn0,hn1⟩:=HNF.out rfl
   clear HNF
   cases co with
   |false=>
    clear HCF
    go_enter Try.func6,Try.ntmps6
    go_wp2_with fail
    refine (HOK.out).mono ?_
    rintro e v1 ⟨o1,n1,k1,o2,n2,k2,i,l,d,rfl,hv,hb⟩
    clear hv
    replace z0:=bC hb z0 zz
    replace z1:=bC hb z1 zz
    replace z2:=bC hb z2 zz
    replace z3:=bC hb z3 zz
    replace z4:=bC hb z4 zz
    replace zz:=Kbq zz hb.size
    replace u0:=bC hb u0 zu
    replace u1:=bC hb u1 zu
    replace u2:=bC hb u2 zu
    replace u3:=bC hb u3 zu
    replace u4:=bC hb u4 zu
    replace u5:=bC hb u5 zu
    replace u6:=bC hb u6 zu
    replace u7:=bC hb u7 zu
    replace zu:=Kbq zu hb.size
    replace r0:=bC hb r0 zr
    replace r1:=bC hb r1 zr
    replace r2:=bC hb r2 zr
    replace r3:=bC hb r3 zr
    replace r4:=bC hb r4 zr
    replace fr0:=bF hb fr0 zr
    replace fr1:=bF hb fr1 zr
    replace fr2:=bF hb fr2 zr
    replace fr3:=bF hb fr3 zr
    replace fr4:=bF hb fr4 zr
    replace zr:=Kbq zr hb.size
    replace HB:=Q00 (HB.out.trans (hb.mono HB.out.size))
    clear hb
    obtain ⟨W2,hW2⟩:∃W,(v1.alloc (.cells #[.slice o1 n1 k1,.slice o2 n2 k2,.int .i64 i,.int .i64 l,.bool d] 68))=W:=⟨_,rfl⟩
    have hb_W2:Below v1.heap.size v1 W2:=by rw [←hW2];exact ((Below.refl _ _).alloc (Kaq _) _)
    replace z0:=bC hb_W2 z0 zz
    replace z1:=bC hb_W2 z1 zz
    replace z2:=bC hb_W2 z2 zz
    replace z3:=bC hb_W2 z3 zz
    replace z4:=bC hb_W2 z4 zz
    replace zz:=Kbq zz hb_W2.size
    replace u0:=bC hb_W2 u0 zu
    replace u1:=bC hb_W2 u1 zu
    replace u2:=bC hb_W2 u2 zu
    replace u3:=bC hb_W2 u3 zu
    replace u4:=bC hb_W2 u4 zu
    replace u5:=bC hb_W2 u5 zu
    replace u6:=bC hb_W2 u6 zu
    replace u7:=bC hb_W2 u7 zu
    replace zu:=Kbq zu hb_W2.size
    replace r0:=bC hb_W2 r0 zr
    replace r1:=bC hb_W2 r1 zr
    replace r2:=bC hb_W2 r2 zr
    replace r3:=bC hb_W2 r3 zr
    replace r4:=bC hb_W2 r4 zr
    replace fr0:=bF hb_W2 fr0 zr
    replace fr1:=bF hb_W2 fr1 zr
    replace fr2:=bF hb_W2 fr2 zr
    replace fr3:=bF hb_W2 fr3 zr
    replace fr4:=bF hb_W2 fr4 zr
    replace zr:=Kbq zr hb_W2.size
    replace HB:=Q00 (HB.out.trans (hb_W2.mono HB.out.size))
    clear hb_W2
    have zx:v1.heap.size < W2.heap.size:=by rw [←hW2];simp
    have x0:W2.cell? ⟨v1.heap.size,0,none⟩=some (.slice o1 n1 k1):=by rw [←hW2];simp [go_sem]
    have x1:W2.cell? ⟨v1.heap.size,1,none⟩=some (.slice o2 n2 k2):=by rw [←hW2];simp [go_sem]
    have x2:W2.cell? ⟨v1.heap.size,2,none⟩=some (.int .i64 i):=by rw [←hW2];simp [go_sem]
    have x3:W2.cell? ⟨v1.heap.size,3,none⟩=some (.int .i64 l):=by rw [←hW2];simp [go_sem]
    have x4:W2.cell? ⟨v1.heap.size,4,none⟩=some (.bool d):=by rw [←hW2];simp [go_sem]
    go_wp2_with fail
    refine (hnw _).mono ?_
    rintro e w9 ⟨rfl,rfl⟩
    go_wp2_with fail
    refine (HCO.out W2 HB.out).mono ?_
    rintro e v2 ⟨rfl,hb⟩
    replace z0:=bC hb z0 zz
    replace z1:=bC hb z1 zz
    replace z2:=bC hb z2 zz
    replace z3:=bC hb z3 zz
    replace z4:=bC hb z4 zz
    replace zz:=Kbq zz hb.size
    replace u0:=bC hb u0 zu
    replace u1:=bC hb u1 zu
    replace u2:=bC hb u2 zu
    replace u3:=bC hb u3 zu
    replace u4:=bC hb u4 zu
    replace u5:=bC hb u5 zu
    replace u6:=bC hb u6 zu
    replace u7:=bC hb u7 zu
    replace zu:=Kbq zu hb.size
    replace r0:=bC hb r0 zr
    replace r1:=bC hb r1 zr
    replace r2:=bC hb r2 zr
    replace r3:=bC hb r3 zr
    replace r4:=bC hb r4 zr
    replace fr0:=bF hb fr0 zr
    replace fr1:=bF hb fr1 zr
    replace fr2:=bF hb fr2 zr
    replace fr3:=bF hb fr3 zr
    replace fr4:=bF hb fr4 zr
    replace zr:=Kbq zr hb.size
    replace x0:=bC hb x0 zx
    replace x1:=bC hb x1 zx
    replace x2:=bC hb x2 zx
    replace x3:=bC hb x3 zx
    replace x4:=bC hb x4 zx
    replace zx:=Kbq zx hb.size
    replace HB:=Q00 (HB.out.trans (hb.mono HB.out.size))
    clear hb
    go_wp2
    refine bodyPost_ret (v:=.tuple #[agt 0 0 false (.slice none 0 0) (.slice none 0 0),.int .i64 (-1)]) (by simp [results,Try.results6,go_sem,r0,r1,r2,r3,r4]) rfl ⟨_,by rw [HHV.out,if_neg (by simp)], ?_,Q07 HB.out (by omega) _ _ _ _ _⟩
    rw [HHM.out]
    rw [if_neg (by simp)]
    exact Q58 (by simp;omega)
   |true=>
    obtain ⟨hpk,hg24,hpl0,hpl1,hst0,hst1⟩:=HCF.out rfl
    skip
    clear HCF
    by_cases hsn:st≤now
    ·skip
     have HVl:=Q00 (HHV.out.trans (if_pos (by simp [hsn])))
     have HMl:=Q00 (HHM.out.trans (if_pos (by simp [hsn])))
     clear HHV HHM
     obtain ⟨k,rfl⟩:∃k:Nat,pl=(k:Int):=⟨pl.toNat,by omega⟩
     rw [Int.toNat_natCast] at HVl
     have hk:k < gg.length:=by omega
     have hfl:=Q2F hpk
     have hsf:=HSG.out rfl k hk
     rcases hG with hG|⟨bg,fg,rfl,zg,hcg⟩
     ·subst hG;simp at hk
     obtain ⟨hs0,hs1⟩:=hcg k hk
     have HS0:=Q00 hs0
     have HS1:=Q00 hs1
     have HFO:=Q00 (Q1s ht1)
     have hcl:=Q69 m.c
     clear hcg hs0 hs1 ht1 ht2 HRC HRT HSG
     go_enter Try.func6,Try.ntmps6
     go_wp2_with fail
     refine (HOK.out).mono ?_
     rintro e v1 ⟨o1,n1,k1,o2,n2,k2,i,l,d,rfl,hv,hb⟩
     have hO:=hv (by simp)
     obtain ⟨g,h,mid,e,i1,i2,g1,g2⟩:=hO
     injection e with e
     simp at e
     obtain ⟨⟨rfl,rfl,rfl⟩,⟨rfl,rfl,rfl⟩,rfl,rfl,rfl⟩:=e
     have HI:Hid (OwnG W0.heap.size v1.heap.size v1 (agi (.slice (some ⟨g,0,none⟩) m.c.length m.c.length) (.slice (some ⟨h,0,none⟩) m.t.length m.t.length) m.id m.lim m.dr) m):=⟨g,h,mid,rfl,i1,i2,g1,g2⟩
     have hs1:=hb.size
     clear hv i1 i2 g1 g2
     replace z0:=bC hb z0 zz
     replace z1:=bC hb z1 zz
     replace z2:=bC hb z2 zz
     replace z3:=bC hb z3 zz
     replace z4:=bC hb z4 zz
     replace zz:=Kbq zz hb.size
     replace u0:=bC hb u0 zu
     replace u1:=bC hb u1 zu
     replace u2:=bC hb u2 zu
     replace u3:=bC hb u3 zu
     replace u4:=bC hb u4 zu
     replace u5:=bC hb u5 zu
     replace u6:=bC hb u6 zu
     replace u7:=bC hb u7 zu
     replace zu:=Kbq zu hb.size
     replace r0:=bC hb r0 zr
     replace r1:=bC hb r1 zr
     replace r2:=bC hb r2 zr
     replace r3:=bC hb r3 zr
     replace r4:=bC hb r4 zr
     replace fr0:=bF hb fr0 zr
     replace fr1:=bF hb fr1 zr
     replace fr2:=bF hb fr2 zr
     replace fr3:=bF hb fr3 zr
     replace fr4:=bF hb fr4 zr
     replace zr:=Kbq zr hb.size
     replace HB:=Q00 (HB.out.trans (hb.mono HB.out.size))
     clear hb
     obtain ⟨W2,hW2⟩:∃W,(v1.alloc (.cells #[.slice (some ⟨g,0,none⟩) m.c.length m.c.length,.slice (some ⟨h,0,none⟩) m.t.length m.t.length,.int .i64 m.id,.int .i64 m.lim,.bool m.dr] 68))=W:=⟨_,rfl⟩
     have hb_W2:Below v1.heap.size v1 W2:=by rw [←hW2];exact ((Below.refl _ _).alloc (Kaq _) _)
     replace z0:=bC hb_W2 z0 zz
     replace z1:=bC hb_W2 z1 zz
     replace z2:=bC hb_W2 z2 zz
     replace z3:=bC hb_W2 z3 zz
     replace z4:=bC hb_W2 z4 zz
     replace zz:=Kbq zz hb_W2.size
     replace u0:=bC hb_W2 u0 zu
     replace u1:=bC hb_W2 u1 zu
     replace u2:=bC hb_W2 u2 zu
     replace u3:=bC hb_W2 u3 zu
     replace u4:=bC hb_W2 u4 zu
     replace u5:=bC hb_W2 u5 zu
     replace u6:=bC hb_W2 u6 zu
     replace u7:=bC hb_W2 u7 zu
     replace zu:=Kbq zu hb_W2.size
     replace r0:=bC hb_W2 r0 zr
     replace r1:=bC hb_W2 r1 zr
     replace r2:=bC hb_W2 r2 zr
     replace r3:=bC hb_W2 r3 zr
     replace r4:=bC hb_W2 r4 zr
     replace fr0:=bF hb_W2 fr0 zr
     replace fr1:=bF hb_W2 fr1 zr
     replace fr2:=bF hb_W2 fr2 zr
     replace fr3:=bF hb_W2 fr3 zr
     replace fr4:=bF hb_W2 fr4 zr
     replace zr:=Kbq zr hb_W2.size
     replace HB:=Q00 (HB.out.trans (hb_W2.mono HB.out.size))
     clear hb_W2
     have zo:v1.heap.size < W2.heap.size:=by rw [←hW2];simp
     have o0:W2.cell? ⟨v1.heap.size,0,none⟩=some (.slice (some ⟨g,0,none⟩) m.c.length m.c.length):=by rw [←hW2];simp [go_sem]
     have o1:W2.cell? ⟨v1.heap.size,1,none⟩=some (.slice (some ⟨h,0,none⟩) m.t.length m.t.length):=by rw [←hW2];simp [go_sem]
     have o2:W2.cell? ⟨v1.heap.size,2,none⟩=some (.int .i64 m.id):=by rw [←hW2];simp [go_sem]
     have o3:W2.cell? ⟨v1.heap.size,3,none⟩=some (.int .i64 m.lim):=by rw [←hW2];simp [go_sem]
     have o4:W2.cell? ⟨v1.heap.size,4,none⟩=some (.bool m.dr):=by rw [←hW2];simp [go_sem]
     have fo0:W2.frozen? ⟨v1.heap.size,0,none⟩=false:=by rw [←hW2];simp [go_sem]
     have fo1:W2.frozen? ⟨v1.heap.size,1,none⟩=false:=by rw [←hW2];simp [go_sem]
     have fo2:W2.frozen? ⟨v1.heap.size,2,none⟩=false:=by rw [←hW2];simp [go_sem]
     have fo3:W2.frozen? ⟨v1.heap.size,3,none⟩=false:=by rw [←hW2];simp [go_sem]
     have fo4:W2.frozen? ⟨v1.heap.size,4,none⟩=false:=by rw [←hW2];simp [go_sem]
     replace HI:=Q00 (HI.out.step (Stp.of (lo:=0) (hi:=0) (show Below v1.heap.size v1 W2 by rw [←hW2];exact (Below.refl _ _).alloc (Kaq _) _)) (.inl (Kcq _)))
     have hs2:v1.heap.size≤W2.heap.size:=by omega
     go_wp2_with fail
     refine (hnw _).mono ?_
     rintro e w9 ⟨rfl,rfl⟩
     go_wp2_with fail
     refine (HCO.out W2 HB.out).mono ?_
     rintro e v9 ⟨rfl,hb⟩
     replace HI:=Q00 (HI.out.step (Stp.of (lo:=0) (hi:=0) hb) (.inl (Kcq _)))
     have hs9:=hb.size
     clear HCO HOK
     replace z0:=bC hb z0 zz
     replace z1:=bC hb z1 zz
     replace z2:=bC hb z2 zz
     replace z3:=bC hb z3 zz
     replace z4:=bC hb z4 zz
     replace zz:=Kbq zz hb.size
     replace u0:=bC hb u0 zu
     replace u1:=bC hb u1 zu
     replace u2:=bC hb u2 zu
     replace u3:=bC hb u3 zu
     replace u4:=bC hb u4 zu
     replace u5:=bC hb u5 zu
     replace u6:=bC hb u6 zu
     replace u7:=bC hb u7 zu
     replace zu:=Kbq zu hb.size
     replace r0:=bC hb r0 zr
     replace r1:=bC hb r1 zr
     replace r2:=bC hb r2 zr
     replace r3:=bC hb r3 zr
     replace r4:=bC hb r4 zr
     replace fr0:=bF hb fr0 zr
     replace fr1:=bF hb fr1 zr
     replace fr2:=bF hb fr2 zr
     replace fr3:=bF hb fr3 zr
     replace fr4:=bF hb fr4 zr
     replace zr:=Kbq zr hb.size
     replace o0:=bC hb o0 zo
     replace o1:=bC hb o1 zo
     replace o2:=bC hb o2 zo
     replace o3:=bC hb o3 zo
     replace o4:=bC hb o4 zo
     replace fo0:=bF hb fo0 zo
     replace fo1:=bF hb fo1 zo
     replace fo2:=bF hb fo2 zo
     replace fo3:=bF hb fo3 zo
     replace fo4:=bF hb fo4 zo
     replace zo:=Kbq zo hb.size
     replace HB:=Q00 (HB.out.trans (hb.mono HB.out.size))
     clear hb
     have hs00:w.heap.size+1+1+1≤W0.heap.size:=hz0
     obtain ⟨g',h',mid,e',i1,i2,g1,g2⟩:=HI.out
     injection e' with e'
     simp at e'
     obtain ⟨rfl,rfl⟩:=e'
     have zg1:=i1.2 g rfl
     have zh0:=(i2.1.lt h rfl).1
     have zh1:=i2.2 h rfl
     have J1:=Q00 i1
     have J2:=Q00 i2
     clear i1 i2 HI
     have H3:=Q00 (Q4L g h m.c.length m.t.length m.c m.t o n cp bg fg gg.length cg k m.id m.lim m.dr a p f s st now (gg.getD k (0,0)).1 (gg.getD k (0,0)).2 W0.heap.size mid v1.heap.size v9 hk (by omega) hfl hp1 hl1 hp2 hl2 hn0 hn1 hst0 hst1 hn hpk HFO.out zg1 zh0 zh1 J1.out.1 J2.out.1 (by have:=HB.out.size;omega) ((HB.out.cell (p:=⟨bg,fg+k * 2,none⟩) zg).trans HS0.out) ((HB.out.cell (p:=⟨bg,fg+k * 2+1,none⟩) zg).trans HS1.out) (by omega) (.inl (by omega)))
     go_wp2_with fail
     refine H3.out.mono ?_
     rintro e v2 ⟨j,hj,hq,hne,rfl,o1,o2,sp9⟩
     obtain ⟨e1,e2,e3⟩:=Q88 hj hsf hcl hq hne
     rw [e2] at o1
     rw [e3] at o2
     rw [e1]
     clear hq hne e1 e2 e3 H3
     have el1:=Q5b m now a p f s (gg.getD k (0,0)).1 (gg.getD k (0,0)).2 k gg.length st
     have el2:=Q5u m now a p f (gg.getD k (0,0)).1 (gg.getD k (0,0)).2 k gg.length st
     have HHA:=Q00 (show Q7b m now a p f s gg (k:Int) st={ m with c:=hdC m now a p f s (gg.getD k (0,0)).1 (gg.getD k (0,0)).2 k gg.length st,t:=hdT m now a p f (gg.getD k (0,0)).1 (gg.getD k (0,0)).2 k gg.length st } by unfold Q7b;rw [Int.toNat_natCast])
     generalize hdC m now a p f s (gg.getD k (0,0)).1 (gg.getD k (0,0)).2 k gg.length st=lc at *
     generalize hdT m now a p f (gg.getD k (0,0)).1 (gg.getD k (0,0)).2 k gg.length st=lt at *
     generalize hdV m now a p f (gg.getD k (0,0)).1 (gg.getD k (0,0)).2 k gg.length st=hv at *
     have HI2:Hid (OwnG W0.heap.size v1.heap.size v2 (agi (.slice (some ⟨g,0,none⟩) m.c.length m.c.length) (.slice (some ⟨h,0,none⟩) m.t.length m.t.length) m.id m.lim m.dr) { m with c:=lc,t:=lt }):=⟨g,h,mid,by simp only [el1,el2],⟨by simp only;rw [el1];exact o1,fun b e=> by simp [Value.ownBlock] at e;omega⟩,⟨by simp only;rw [el2];exact o2,fun b e=> by simp [Value.ownBlock] at e;omega⟩,g1,g2⟩
     have HL1:=Q00 el1
     have HL2:=Q00 el2
     clear el1 el2 o1 o2 J1 J2
     replace r0:v2.cell? ⟨w.heap.size+1+1,0,none⟩=some (.int .i64 0):=sp9.cell r0 zr (by omega)
     replace fr0:v2.frozen? ⟨w.heap.size+1+1,0,none⟩=false:=sp9.frozen fr0 zr (by omega)
     replace r1:v2.cell? ⟨w.heap.size+1+1,1,none⟩=some (.int .i64 0):=sp9.cell r1 zr (by omega)
     replace fr1:v2.frozen? ⟨w.heap.size+1+1,1,none⟩=false:=sp9.frozen fr1 zr (by omega)
     replace r2:v2.cell? ⟨w.heap.size+1+1,2,none⟩=some (.bool false):=sp9.cell r2 zr (by omega)
     replace fr2:v2.frozen? ⟨w.heap.size+1+1,2,none⟩=false:=sp9.frozen fr2 zr (by omega)
     replace r3:v2.cell? ⟨w.heap.size+1+1,3,none⟩=some (.slice none 0 0):=sp9.cell r3 zr (by omega)
     replace fr3:v2.frozen? ⟨w.heap.size+1+1,3,none⟩=false:=sp9.frozen fr3 zr (by omega)
     replace r4:v2.cell? ⟨w.heap.size+1+1,4,none⟩=some (.slice none 0 0):=sp9.cell r4 zr (by omega)
     replace fr4:v2.frozen? ⟨w.heap.size+1+1,4,none⟩=false:=sp9.frozen fr4 zr (by omega)
     replace zr:w.heap.size+1+1 < v2.heap.size:=Kbq zr sp9.size
     replace o0:v2.cell? ⟨v1.heap.size,0,none⟩=some (.slice (some ⟨g,0,none⟩) m.c.length m.c.length):=sp9.cell o0 zo (by omega)
     replace fo0:v2.frozen? ⟨v1.heap.size,0,none⟩=false:=sp9.frozen fo0 zo (by omega)
     replace o1:v2.cell? ⟨v1.heap.size,1,none⟩=some (.slice (some ⟨h,0,none⟩) m.t.length m.t.length):=sp9.cell o1 zo (by omega)
     replace fo1:v2.frozen? ⟨v1.heap.size,1,none⟩=false:=sp9.frozen fo1 zo (by omega)
     replace o2:v2.cell? ⟨v1.heap.size,2,none⟩=some (.int .i64 m.id):=sp9.cell o2 zo (by omega)
     replace fo2:v2.frozen? ⟨v1.heap.size,2,none⟩=false:=sp9.frozen fo2 zo (by omega)
     replace o3:v2.cell? ⟨v1.heap.size,3,none⟩=some (.int .i64 m.lim):=sp9.cell o3 zo (by omega)
     replace fo3:v2.frozen? ⟨v1.heap.size,3,none⟩=false:=sp9.frozen fo3 zo (by omega)
     replace o4:v2.cell? ⟨v1.heap.size,4,none⟩=some (.bool m.dr):=sp9.cell o4 zo (by omega)
     replace fo4:v2.frozen? ⟨v1.heap.size,4,none⟩=false:=sp9.frozen fo4 zo (by omega)
     replace zo:v1.heap.size < v2.heap.size:=Kbq zo sp9.size
     replace HB:=Q00 (HB.out.trans (sp9.below (by omega) HB.out.size))
     have hs5:=sp9.size
     clear z0 z1 z2 z3 z4 zz u0 u1 u2 u3 u4 u5 u6 u7 zu sp9 hW2
     go_wp2_with fail
     refine (Q4g _ { m with c:=lc,t:=lt } _ _ v2 HI2.out (by have:=HL1.out;have:=HL2.out;simp only;omega)).mono ?_
     rintro e v3 ⟨x1,rfl,hin,hb⟩
     obtain ⟨y1,y2,rfl,⟨p1,c1,rfl,_⟩,⟨p2,c2,rfl,_⟩⟩:=hin.rd
     have HJ:=Q00 hin
     have hs4:=hb.size
     clear hin
     replace r0:=bC hb r0 zr
     replace r1:=bC hb r1 zr
     replace r2:=bC hb r2 zr
     replace r3:=bC hb r3 zr
     replace r4:=bC hb r4 zr
     replace fr0:=bF hb fr0 zr
     replace fr1:=bF hb fr1 zr
     replace fr2:=bF hb fr2 zr
     replace fr3:=bF hb fr3 zr
     replace fr4:=bF hb fr4 zr
     replace zr:=Kbq zr hb.size
     replace o0:=bC hb o0 zo
     replace o1:=bC hb o1 zo
     replace o2:=bC hb o2 zo
     replace o3:=bC hb o3 zo
     replace o4:=bC hb o4 zo
     replace fo0:=bF hb fo0 zo
     replace fo1:=bF hb fo1 zo
     replace fo2:=bF hb fo2 zo
     replace fo3:=bF hb fo3 zo
     replace fo4:=bF hb fo4 zo
     replace zo:=Kbq zo hb.size
     replace HB:=Q00 (HB.out.trans (hb.mono HB.out.size))
     clear hb
     simp only at HJ ⊢
     go_wp2
     refine bodyPost_ret (v:=.tuple #[agt m.id m.lim m.dr (.slice p1 lc.length c1) (.slice p2 lt.length c2),.int .i64 hv]) (by simp [results,Try.results6,go_sem,r0,r1,r2,r3,r4]) rfl ⟨_,by rw [HVl.out], ?_,Q07 HB.out (by omega) _ _ _ _ _⟩
     rw [HMl.out,HHA.out]
     exact (HJ.out.step (Q04 _ (w.heap.size+1+1) (.int .i64 m.id) (.int .i64 m.lim) (.bool m.dr) (.slice p1 lc.length c1) (.slice p2 lt.length c2)) (.inl (by omega))).mono (by omega) (by simp)
    ·skip
     have hsn2:st > now:=by omega
     go_enter Try.func6,Try.ntmps6
     go_wp2_with fail
     refine (HOK.out).mono ?_
     rintro e v1 ⟨o1,n1,k1,o2,n2,k2,i,l,d,rfl,hv,hb⟩
     clear hv
     replace z0:=bC hb z0 zz
     replace z1:=bC hb z1 zz
     replace z2:=bC hb z2 zz
     replace z3:=bC hb z3 zz
     replace z4:=bC hb z4 zz
     replace zz:=Kbq zz hb.size
     replace u0:=bC hb u0 zu
     replace u1:=bC hb u1 zu
     replace u2:=bC hb u2 zu
     replace u3:=bC hb u3 zu
     replace u4:=bC hb u4 zu
     replace u5:=bC hb u5 zu
     replace u6:=bC hb u6 zu
     replace u7:=bC hb u7 zu
     replace zu:=Kbq zu hb.size
     replace r0:=bC hb r0 zr
     replace r1:=bC hb r1 zr
     replace r2:=bC hb r2 zr
     replace r3:=bC hb r3 zr
     replace r4:=bC hb r4 zr
     replace fr0:=bF hb fr0 zr
     replace fr1:=bF hb fr1 zr
     replace fr2:=bF hb fr2 zr
     replace fr3:=bF hb fr3 zr
     replace fr4:=bF hb fr4 zr
     replace zr:=Kbq zr hb.size
     replace HB:=Q00 (HB.out.trans (hb.mono HB.out.size))
     clear hb
     obtain ⟨W2,hW2⟩:∃W,(v1.alloc (.cells #[.slice o1 n1 k1,.slice o2 n2 k2,.int .i64 i,.int .i64 l,.bool d] 68))=W:=⟨_,rfl⟩
     have hb_W2:Below v1.heap.size v1 W2:=by rw [←hW2];exact ((Below.refl _ _).alloc (Kaq _) _)
     replace z0:=bC hb_W2 z0 zz
     replace z1:=bC hb_W2 z1 zz
     replace z2:=bC hb_W2 z2 zz
     replace z3:=bC hb_W2 z3 zz
     replace z4:=bC hb_W2 z4 zz
     replace zz:=Kbq zz hb_W2.size
     replace u0:=bC hb_W2 u0 zu
     replace u1:=bC hb_W2 u1 zu
     replace u2:=bC hb_W2 u2 zu
     replace u3:=bC hb_W2 u3 zu
     replace u4:=bC hb_W2 u4 zu
     replace u5:=bC hb_W2 u5 zu
     replace u6:=bC hb_W2 u6 zu
     replace u7:=bC hb_W2 u7 zu
     replace zu:=Kbq zu hb_W2.size
     replace r0:=bC hb_W2 r0 zr
     replace r1:=bC hb_W2 r1 zr
     replace r2:=bC hb_W2 r2 zr
     replace r3:=bC hb_W2 r3 zr
     replace r4:=bC hb_W2 r4 zr
     replace fr0:=bF hb_W2 fr0 zr
     replace fr1:=bF hb_W2 fr1 zr
     replace fr2:=bF hb_W2 fr2 zr
     replace fr3:=bF hb_W2 fr3 zr
     replace fr4:=bF hb_W2 fr4 zr
     replace zr:=Kbq zr hb_W2.size
     replace HB:=Q00 (HB.out.trans (hb_W2.mono HB.out.size))
     clear hb_W2
     have zx:v1.heap.size < W2.heap.size:=by rw [←hW2];simp
     have x0:W2.cell? ⟨v1.heap.size,0,none⟩=some (.slice o1 n1 k1):=by rw [←hW2];simp [go_sem]
     have x1:W2.cell? ⟨v1.heap.size,1,none⟩=some (.slice o2 n2 k2):=by rw [←hW2];simp [go_sem]
     have x2:W2.cell? ⟨v1.heap.size,2,none⟩=some (.int .i64 i):=by rw [←hW2];simp [go_sem]
     have x3:W2.cell? ⟨v1.heap.size,3,none⟩=some (.int .i64 l):=by rw [←hW2];simp [go_sem]
     have x4:W2.cell? ⟨v1.heap.size,4,none⟩=some (.bool d):=by rw [←hW2];simp [go_sem]
     go_wp2_with fail
     refine (hnw _).mono ?_
     rintro e w9 ⟨rfl,rfl⟩
     go_wp2_with fail
     refine (HCO.out W2 HB.out).mono ?_
     rintro e v2 ⟨rfl,hb⟩
     replace z0:=bC hb z0 zz
     replace z1:=bC hb z1 zz
     replace z2:=bC hb z2 zz
     replace z3:=bC hb z3 zz
     replace z4:=bC hb z4 zz
     replace zz:=Kbq zz hb.size
     replace u0:=bC hb u0 zu
     replace u1:=bC hb u1 zu
     replace u2:=bC hb u2 zu
     replace u3:=bC hb u3 zu
     replace u4:=bC hb u4 zu
     replace u5:=bC hb u5 zu
     replace u6:=bC hb u6 zu
     replace u7:=bC hb u7 zu
     replace zu:=Kbq zu hb.size
     replace r0:=bC hb r0 zr
     replace r1:=bC hb r1 zr
     replace r2:=bC hb r2 zr
     replace r3:=bC hb r3 zr
     replace r4:=bC hb r4 zr
     replace fr0:=bF hb fr0 zr
     replace fr1:=bF hb fr1 zr
     replace fr2:=bF hb fr2 zr
     replace fr3:=bF hb fr3 zr
     replace fr4:=bF hb fr4 zr
     replace zr:=Kbq zr hb.size
     replace x0:=bC hb x0 zx
     replace x1:=bC hb x1 zx
     replace x2:=bC hb x2 zx
     replace x3:=bC hb x3 zx
     replace x4:=bC hb x4 zx
     replace zx:=Kbq zx hb.size
     replace HB:=Q00 (HB.out.trans (hb.mono HB.out.size))
     clear hb
     go_wp2
     refine bodyPost_ret (v:=.tuple #[agt 0 0 false (.slice none 0 0) (.slice none 0 0),.int .i64 (-1)]) (by simp [results,Try.results6,go_sem,r0,r1,r2,r3,r4]) rfl ⟨_,by rw [HHV.out,if_neg (by simp;omega)], ?_,Q07 HB.out (by omega) _ _ _ _ _⟩
     rw [HHM.out]
     rw [if_neg (by simp;omega)]
     exact Q58 (by simp;omega)
end Go.Proofs.Ytljogkoaaidlcaa
