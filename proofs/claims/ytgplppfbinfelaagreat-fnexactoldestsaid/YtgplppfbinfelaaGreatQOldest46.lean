/- Agents that may be, on both sides; the program's agent, from one and back. -/
import Derived.Test.YtgplppfbinfelaaGreatQOldest43
import Derived.Test.YtgplppfbinfelaaGreatQOldest26
import Derived.Test.YtgplppfbinfelaaGreatQOldest04
namespace Go.Proofs.YtgplppfbinfelaaGreat
open Go.ChangeShapes Go.WideShapes Go.ChangeAt Go.RowKit Go.Joins
set_option linter.unusedVariables false
set_option linter.unusedSimpArgs false
set_option maxRecDepth 100000
set_option maxHeartbeats 40000000
def agentOkB (m:Am):Bool:=decide (0≤m.id) && decide (m.id < 6) && decide (0≤m.lim) && decide (m.lim≤16) && tableOkB m.c && tableOkB m.t
theorem agentOkB_parts {m:Am}:agentOkB m=true↔(0≤m.id∧m.id < 6∧0≤m.lim∧m.lim≤16∧tableOkB m.c=true∧tableOkB m.t=true∧True):=by simp [agentOkB,and_assoc]
theorem agentOkB_tabs {m:Am} (h1:0≤m.id) (h2:m.id < 6) (h3:0≤m.lim) (h4:m.lim≤16):agentOkB m=(tableOkB m.c && tableOkB m.t):=by simp [agentOkB,h1,h2,h3,h4]
theorem agentOkB_four (m:Am):agentOkB m=((decide (0≤m.id) && decide (m.id < 6)) && (decide (0≤m.lim) && decide (m.lim≤16)) && (tableOkB m.c && tableOkB m.t)):=by simp [agentOkB,Bool.and_assoc]
theorem specAgentOk_sh (v:Value) (m:Am) (w:World) (hR:RdA w.heap.size w v m) (hf:m.c.length+m.t.length≤1048576):
  Calls Tryz.prog 42 #[v] w fun e w'=> e=.returned (.bool (agentOkB m))∧Below w.heap.size w w':=by
 obtain ⟨vc,vt,rfl,⟨oc,cc,rfl,rc⟩,⟨ot,ct,rfl,rt⟩⟩:=hR
 obtain ⟨W0,hW0⟩:∃W,(w.alloc (.cells #[.int .i64 m.id,.int .i64 m.lim,.bool m.dr,.slice oc m.c.length cc,.slice ot m.t.length ct] 87))=W:=⟨_,rfl⟩
 have hb_W0:Below w.heap.size w W0:=by rw [←hW0];exact ((Below.refl _ _).alloc (Nat.le_refl _) _)
 have HB:=hide hb_W0
 clear hb_W0
 have zz:w.heap.size < W0.heap.size:=by rw [←hW0];simp
 have z0:W0.cell? ⟨w.heap.size,0,none⟩=some (.int .i64 m.id):=by rw [←hW0];simp [go_sem]
 have z1:W0.cell? ⟨w.heap.size,1,none⟩=some (.int .i64 m.lim):=by rw [←hW0];simp [go_sem]
 have z2:W0.cell? ⟨w.heap.size,2,none⟩=some (.bool m.dr):=by rw [←hW0];simp [go_sem]
 have z3:W0.cell? ⟨w.heap.size,3,none⟩=some (.slice oc m.c.length cc):=by rw [←hW0];simp [go_sem]
 have z4:W0.cell? ⟨w.heap.size,4,none⟩=some (.slice ot m.t.length ct):=by rw [←hW0];simp [go_sem]
 have hcc:=specTableOk_any oc cc m.c W0 ((rc.kept HB.out (Nat.le_refl _)).le HB.out.size) (by omega)
 have hct:=fun W (h:Below w.heap.size w W)=> specTableOk_any ot ct m.t W ((rt.kept h (Nat.le_refl _)).le h.size) (by omega)
 have HCT:=hide hct
 clear hct rc rt
 by_cases h1:0≤m.id
 ·by_cases h2:m.id < 6
  ·by_cases h3:0≤m.lim
   ·by_cases h4:m.lim≤16
    ·have HE:=hide (agentOkB_tabs h1 h2 h3 h4)
     generalize tableOkB m.c=t1 at *
     cases t1 with
     |false=>
      go_enter Tryz.func42,Tryz.ntmps42
      go_wp2_with fail
      refine (hcc).mono ?_
      rintro e v1 ⟨rfl,hb⟩
      replace z0:v1.cell? ⟨w.heap.size,0,none⟩=some (.int .i64 m.id):=(hb.cell (p:=⟨w.heap.size,0,none⟩) zz).trans z0
      replace z1:v1.cell? ⟨w.heap.size,1,none⟩=some (.int .i64 m.lim):=(hb.cell (p:=⟨w.heap.size,1,none⟩) zz).trans z1
      replace z2:v1.cell? ⟨w.heap.size,2,none⟩=some (.bool m.dr):=(hb.cell (p:=⟨w.heap.size,2,none⟩) zz).trans z2
      replace z3:v1.cell? ⟨w.heap.size,3,none⟩=some (.slice oc m.c.length cc):=(hb.cell (p:=⟨w.heap.size,3,none⟩) zz).trans z3
      replace z4:v1.cell? ⟨w.heap.size,4,none⟩=some (.slice ot m.t.length ct):=(hb.cell (p:=⟨w.heap.size,4,none⟩) zz).trans z4
      replace zz:w.heap.size < v1.heap.size:=Nat.lt_of_lt_of_le zz hb.size
      replace HB:=hide (HB.out.trans (hb.mono HB.out.size))
      clear hb
      go_wp2
      go_ret
      exact ⟨by rw [HE.out];rfl,HB.out⟩
     |true=>
      go_enter Tryz.func42,Tryz.ntmps42
      go_wp2_with fail
      refine (hcc).mono ?_
      rintro e v1 ⟨rfl,hb⟩
      replace z0:v1.cell? ⟨w.heap.size,0,none⟩=some (.int .i64 m.id):=(hb.cell (p:=⟨w.heap.size,0,none⟩) zz).trans z0
      replace z1:v1.cell? ⟨w.heap.size,1,none⟩=some (.int .i64 m.lim):=(hb.cell (p:=⟨w.heap.size,1,none⟩) zz).trans z1
      replace z2:v1.cell? ⟨w.heap.size,2,none⟩=some (.bool m.dr):=(hb.cell (p:=⟨w.heap.size,2,none⟩) zz).trans z2
      replace z3:v1.cell? ⟨w.heap.size,3,none⟩=some (.slice oc m.c.length cc):=(hb.cell (p:=⟨w.heap.size,3,none⟩) zz).trans z3
      replace z4:v1.cell? ⟨w.heap.size,4,none⟩=some (.slice ot m.t.length ct):=(hb.cell (p:=⟨w.heap.size,4,none⟩) zz).trans z4
      replace zz:w.heap.size < v1.heap.size:=Nat.lt_of_lt_of_le zz hb.size
      replace HB:=hide (HB.out.trans (hb.mono HB.out.size))
      clear hb
      go_wp2_with fail
      refine (HCT.out v1 HB.out).mono ?_
      rintro e v2 ⟨rfl,hb⟩
      replace z0:v2.cell? ⟨w.heap.size,0,none⟩=some (.int .i64 m.id):=(hb.cell (p:=⟨w.heap.size,0,none⟩) zz).trans z0
      replace z1:v2.cell? ⟨w.heap.size,1,none⟩=some (.int .i64 m.lim):=(hb.cell (p:=⟨w.heap.size,1,none⟩) zz).trans z1
      replace z2:v2.cell? ⟨w.heap.size,2,none⟩=some (.bool m.dr):=(hb.cell (p:=⟨w.heap.size,2,none⟩) zz).trans z2
      replace z3:v2.cell? ⟨w.heap.size,3,none⟩=some (.slice oc m.c.length cc):=(hb.cell (p:=⟨w.heap.size,3,none⟩) zz).trans z3
      replace z4:v2.cell? ⟨w.heap.size,4,none⟩=some (.slice ot m.t.length ct):=(hb.cell (p:=⟨w.heap.size,4,none⟩) zz).trans z4
      replace zz:w.heap.size < v2.heap.size:=Nat.lt_of_lt_of_le zz hb.size
      replace HB:=hide (HB.out.trans (hb.mono HB.out.size))
      clear hb
      go_wp2
      all_goals go_ret
      all_goals exact ⟨by rw [HE.out];first|rfl|simp,HB.out⟩
    ·have HN:=hide (bool_no (agentOkB_parts (m:=m)) (fun q=> h4 q.2.2.2.1))
     clear hcc HCT
     go_enter Tryz.func42,Tryz.ntmps42
     go_wp2
     all_goals go_ret
     all_goals exact ⟨ret_bool HN.out,HB.out⟩
   ·have HN:=hide (bool_no (agentOkB_parts (m:=m)) (fun q=> h3 q.2.2.1))
    clear hcc HCT
    go_enter Tryz.func42,Tryz.ntmps42
    go_wp2
    all_goals go_ret
    all_goals exact ⟨ret_bool HN.out,HB.out⟩
  ·have HN:=hide (bool_no (agentOkB_parts (m:=m)) (fun q=> h2 q.2.1))
   clear hcc HCT
   go_enter Tryz.func42,Tryz.ntmps42
   go_wp2
   all_goals go_ret
   all_goals exact ⟨ret_bool HN.out,HB.out⟩
 ·have HN:=hide (bool_no (agentOkB_parts (m:=m)) (fun q=> h1 q.1))
  clear hcc HCT
  go_enter Tryz.func42,Tryz.ntmps42
  go_wp2
  all_goals go_ret
  all_goals exact ⟨ret_bool HN.out,HB.out⟩
theorem isBackA_any (n:Int) (w:World):Calls Tryz.prog 74 #[.int .i64 n] w fun e w'=> e=.returned (.bool (decide (0≤n) && decide (n < 6)))∧w=w':=by
 go_enter Tryz.func74,Tryz.ntmps74
 go_wp2
 all_goals go_ret
 all_goals refine ⟨ret_bool ?_,rfl⟩
 all_goals first|(simp [*];done)|(simp;omega)
theorem isLimit_any (n:Int) (w:World):Calls Tryz.prog 75 #[.int .i64 n] w fun e w'=> e=.returned (.bool (decide (0≤n) && decide (n≤16)))∧w=w':=by
 go_enter Tryz.func75,Tryz.ntmps75
 go_wp2
 all_goals go_ret
 all_goals refine ⟨ret_bool ?_,rfl⟩
 all_goals first|(simp [*];done)|(simp;omega)
abbrev agi (vc vt:Value) (i l:Int) (d:Bool):Value:=.agg #[vc,vt,.int .i64 i,.int .i64 l,.bool d]
def OwnG (lo hi:Nat) (w:World) (v:Value) (m:Am):Prop:=∃g h mid,v=agi (.slice (some ⟨g,0,none⟩) m.c.length m.c.length) (.slice (some ⟨h,0,none⟩) m.t.length m.t.length) m.id m.lim m.dr∧InC5 lo mid w (.slice (some ⟨g,0,none⟩) m.c.length m.c.length) m.c∧InC5 mid hi w (.slice (some ⟨h,0,none⟩) m.t.length m.t.length) m.t∧lo≤mid∧mid≤hi
theorem OwnG.step {a b lo hi:Nat} {w w':World} {v:Value} {m:Am} (h:OwnG a b w v m) (s:Stp lo hi w w') (hd:hi≤a∨b≤lo):OwnG a b w' v m:=by
 obtain ⟨g,h',mid,e,h1,h2,h3,h4⟩:=h
 exact ⟨g,h',mid,e,InRow.step h1 s (by omega),InRow.step h2 s (by omega),h3,h4⟩
theorem OwnG.mono {a b a' b':Nat} {w:World} {v:Value} {m:Am} (h:OwnG a b w v m) (h1:a'≤a) (h2:b≤b'):OwnG a' b' w v m:=by
 obtain ⟨g,h',mid,e,i1,i2,h3,h4⟩:=h
 exact ⟨g,h',mid,e,InRow.mono i1 h1 (Nat.le_refl _),InRow.mono i2 (Nat.le_refl _) h2,Nat.le_trans h1 h3,Nat.le_trans h4 h2⟩
theorem agentFrom_any (v:Value) (m:Am) (w:World) (hR:RdA w.heap.size w v m) (hf:m.c.length+m.t.length≤1048576):
  Calls Tryz.prog 161 #[v] w fun e w'=> ∃o1 n1 c1 o2 n2 c2 i l d,e=.returned (.tuple #[agi (.slice o1 n1 c1) (.slice o2 n2 c2) i l d,.bool (agentOkB m)])∧(agentOkB m=true→OwnG w.heap.size w'.heap.size w' (agi (.slice o1 n1 c1) (.slice o2 n2 c2) i l d) m)∧Below w.heap.size w w':=by
 obtain ⟨vc,vt,rfl,⟨oc,cc,rfl,rc⟩,⟨ot,ct,rfl,rt⟩⟩:=hR
 obtain ⟨W0,hW0⟩:∃W,((w.alloc (.cells #[.int .i64 m.id,.int .i64 m.lim,.bool m.dr,.slice oc m.c.length cc,.slice ot m.t.length ct] 87)).alloc (.cells #[.slice none 0 0,.slice none 0 0,.int .i64 0,.int .i64 0,.bool false] 140))=W:=⟨_,rfl⟩
 have hb_W0:Below w.heap.size w W0:=by rw [←hW0];exact (((Below.refl _ _).alloc (Nat.le_refl _) _).alloc (by simp <;> omega) _)
 have HB:=hide hb_W0
 clear hb_W0
 have zz:w.heap.size < W0.heap.size:=by rw [←hW0];simp <;> omega
 have z0:W0.cell? ⟨w.heap.size,0,none⟩=some (.int .i64 m.id):=by rw [←hW0];simp [go_sem]
 have z1:W0.cell? ⟨w.heap.size,1,none⟩=some (.int .i64 m.lim):=by rw [←hW0];simp [go_sem]
 have z2:W0.cell? ⟨w.heap.size,2,none⟩=some (.bool m.dr):=by rw [←hW0];simp [go_sem]
 have z3:W0.cell? ⟨w.heap.size,3,none⟩=some (.slice oc m.c.length cc):=by rw [←hW0];simp [go_sem]
 have z4:W0.cell? ⟨w.heap.size,4,none⟩=some (.slice ot m.t.length ct):=by rw [←hW0];simp [go_sem]
 have zr:w.heap.size+1 < W0.heap.size:=by rw [←hW0];simp
 have r0:W0.cell? ⟨w.heap.size+1,0,none⟩=some (.slice none 0 0):=by rw [←hW0];simp [go_sem]
 have r1:W0.cell? ⟨w.heap.size+1,1,none⟩=some (.slice none 0 0):=by rw [←hW0];simp [go_sem]
 have r2:W0.cell? ⟨w.heap.size+1,2,none⟩=some (.int .i64 0):=by rw [←hW0];simp [go_sem]
 have r3:W0.cell? ⟨w.heap.size+1,3,none⟩=some (.int .i64 0):=by rw [←hW0];simp [go_sem]
 have r4:W0.cell? ⟨w.heap.size+1,4,none⟩=some (.bool false):=by rw [←hW0];simp [go_sem]
 have fr0:W0.frozen? ⟨w.heap.size+1,0,none⟩=false:=by rw [←hW0];simp [go_sem]
 have fr1:W0.frozen? ⟨w.heap.size+1,1,none⟩=false:=by rw [←hW0];simp [go_sem]
 have fr2:W0.frozen? ⟨w.heap.size+1,2,none⟩=false:=by rw [←hW0];simp [go_sem]
 have fr3:W0.frozen? ⟨w.heap.size+1,3,none⟩=false:=by rw [←hW0];simp [go_sem]
 have fr4:W0.frozen? ⟨w.heap.size+1,4,none⟩=false:=by rw [←hW0];simp [go_sem]
 have hz00:w.heap.size+1 < W0.heap.size:=zr
 have h1:=tableFrom_any oc cc m.c W0 ((rc.kept HB.out (Nat.le_refl _)).le HB.out.size) (by omega)
 have h2:=fun W (h:Below w.heap.size w W)=> tableFrom_any ot ct m.t W ((rt.kept h (Nat.le_refl _)).le h.size) (by omega)
 have H2:=hide h2
 have hbk:=fun W=> isBackA_any m.id W
 have hli:=fun W=> isLimit_any m.lim W
 have HE:=hide (agentOkB_four m)
 clear h2 rc rt
 generalize (decide (0≤m.id) && decide (m.id < 6))=bk at *
 generalize (decide (0≤m.lim) && decide (m.lim≤16))=bl at *
 generalize tableOkB m.c=t1 at *
 generalize tableOkB m.t=t2 at *
 by_cases hall:(bk && bl && (t1 && t2))=true
 ·obtain ⟨rfl,rfl,rfl,rfl⟩:bk=true∧bl=true∧t1=true∧t2=true:=by cases bk <;> cases bl <;> cases t1 <;> cases t2 <;> simp_all
  go_enter Tryz.func161,Tryz.ntmps161
  go_wp2_with fail
  refine (h1).mono ?_
  rintro e v1 ⟨o1,n1,c1,rfl,hv1,hb⟩
  obtain ⟨g,rfl,rfl,rfl,hown⟩:=hv1 (by simp)
  have HO:=hide hown
  have hg0:=(hown.lt g rfl).1
  have hg1:=(hown.lt g rfl).2
  clear hown hv1
  replace z0:v1.cell? ⟨w.heap.size,0,none⟩=some (.int .i64 m.id):=(hb.cell (p:=⟨w.heap.size,0,none⟩) zz).trans z0
  replace z1:v1.cell? ⟨w.heap.size,1,none⟩=some (.int .i64 m.lim):=(hb.cell (p:=⟨w.heap.size,1,none⟩) zz).trans z1
  replace z2:v1.cell? ⟨w.heap.size,2,none⟩=some (.bool m.dr):=(hb.cell (p:=⟨w.heap.size,2,none⟩) zz).trans z2
  replace z3:v1.cell? ⟨w.heap.size,3,none⟩=some (.slice oc m.c.length cc):=(hb.cell (p:=⟨w.heap.size,3,none⟩) zz).trans z3
  replace z4:v1.cell? ⟨w.heap.size,4,none⟩=some (.slice ot m.t.length ct):=(hb.cell (p:=⟨w.heap.size,4,none⟩) zz).trans z4
  replace zz:w.heap.size < v1.heap.size:=Nat.lt_of_lt_of_le zz hb.size
  replace r0:v1.cell? ⟨w.heap.size+1,0,none⟩=some (.slice none 0 0):=(hb.cell (p:=⟨w.heap.size+1,0,none⟩) zr).trans r0
  replace r1:v1.cell? ⟨w.heap.size+1,1,none⟩=some (.slice none 0 0):=(hb.cell (p:=⟨w.heap.size+1,1,none⟩) zr).trans r1
  replace r2:v1.cell? ⟨w.heap.size+1,2,none⟩=some (.int .i64 0):=(hb.cell (p:=⟨w.heap.size+1,2,none⟩) zr).trans r2
  replace r3:v1.cell? ⟨w.heap.size+1,3,none⟩=some (.int .i64 0):=(hb.cell (p:=⟨w.heap.size+1,3,none⟩) zr).trans r3
  replace r4:v1.cell? ⟨w.heap.size+1,4,none⟩=some (.bool false):=(hb.cell (p:=⟨w.heap.size+1,4,none⟩) zr).trans r4
  replace fr0:v1.frozen? ⟨w.heap.size+1,0,none⟩=false:=(hb.frozen (p:=⟨w.heap.size+1,0,none⟩) zr).trans fr0
  replace fr1:v1.frozen? ⟨w.heap.size+1,1,none⟩=false:=(hb.frozen (p:=⟨w.heap.size+1,1,none⟩) zr).trans fr1
  replace fr2:v1.frozen? ⟨w.heap.size+1,2,none⟩=false:=(hb.frozen (p:=⟨w.heap.size+1,2,none⟩) zr).trans fr2
  replace fr3:v1.frozen? ⟨w.heap.size+1,3,none⟩=false:=(hb.frozen (p:=⟨w.heap.size+1,3,none⟩) zr).trans fr3
  replace fr4:v1.frozen? ⟨w.heap.size+1,4,none⟩=false:=(hb.frozen (p:=⟨w.heap.size+1,4,none⟩) zr).trans fr4
  replace zr:w.heap.size+1 < v1.heap.size:=Nat.lt_of_lt_of_le zr hb.size
  replace HB:=hide (HB.out.trans (hb.mono HB.out.size))
  clear hb
  obtain ⟨W2,hW2⟩:∃W,(v1.alloc (.cells #[.slice (some ⟨g,0,none⟩) m.c.length m.c.length] 128))=W:=⟨_,rfl⟩
  have hb_W2:Below v1.heap.size v1 W2:=by rw [←hW2];exact ((Below.refl _ _).alloc (Nat.le_refl _) _)
  replace z0:W2.cell? ⟨w.heap.size,0,none⟩=some (.int .i64 m.id):=(hb_W2.cell (p:=⟨w.heap.size,0,none⟩) zz).trans z0
  replace z1:W2.cell? ⟨w.heap.size,1,none⟩=some (.int .i64 m.lim):=(hb_W2.cell (p:=⟨w.heap.size,1,none⟩) zz).trans z1
  replace z2:W2.cell? ⟨w.heap.size,2,none⟩=some (.bool m.dr):=(hb_W2.cell (p:=⟨w.heap.size,2,none⟩) zz).trans z2
  replace z3:W2.cell? ⟨w.heap.size,3,none⟩=some (.slice oc m.c.length cc):=(hb_W2.cell (p:=⟨w.heap.size,3,none⟩) zz).trans z3
  replace z4:W2.cell? ⟨w.heap.size,4,none⟩=some (.slice ot m.t.length ct):=(hb_W2.cell (p:=⟨w.heap.size,4,none⟩) zz).trans z4
  replace zz:w.heap.size < W2.heap.size:=Nat.lt_of_lt_of_le zz hb_W2.size
  replace r0:W2.cell? ⟨w.heap.size+1,0,none⟩=some (.slice none 0 0):=(hb_W2.cell (p:=⟨w.heap.size+1,0,none⟩) zr).trans r0
  replace r1:W2.cell? ⟨w.heap.size+1,1,none⟩=some (.slice none 0 0):=(hb_W2.cell (p:=⟨w.heap.size+1,1,none⟩) zr).trans r1
  replace r2:W2.cell? ⟨w.heap.size+1,2,none⟩=some (.int .i64 0):=(hb_W2.cell (p:=⟨w.heap.size+1,2,none⟩) zr).trans r2
  replace r3:W2.cell? ⟨w.heap.size+1,3,none⟩=some (.int .i64 0):=(hb_W2.cell (p:=⟨w.heap.size+1,3,none⟩) zr).trans r3
  replace r4:W2.cell? ⟨w.heap.size+1,4,none⟩=some (.bool false):=(hb_W2.cell (p:=⟨w.heap.size+1,4,none⟩) zr).trans r4
  replace fr0:W2.frozen? ⟨w.heap.size+1,0,none⟩=false:=(hb_W2.frozen (p:=⟨w.heap.size+1,0,none⟩) zr).trans fr0
  replace fr1:W2.frozen? ⟨w.heap.size+1,1,none⟩=false:=(hb_W2.frozen (p:=⟨w.heap.size+1,1,none⟩) zr).trans fr1
  replace fr2:W2.frozen? ⟨w.heap.size+1,2,none⟩=false:=(hb_W2.frozen (p:=⟨w.heap.size+1,2,none⟩) zr).trans fr2
  replace fr3:W2.frozen? ⟨w.heap.size+1,3,none⟩=false:=(hb_W2.frozen (p:=⟨w.heap.size+1,3,none⟩) zr).trans fr3
  replace fr4:W2.frozen? ⟨w.heap.size+1,4,none⟩=false:=(hb_W2.frozen (p:=⟨w.heap.size+1,4,none⟩) zr).trans fr4
  replace zr:w.heap.size+1 < W2.heap.size:=Nat.lt_of_lt_of_le zr hb_W2.size
  replace HO:=hide (own_kept HO.out hb_W2)
  replace HB:=hide (HB.out.trans (hb_W2.mono HB.out.size))
  clear hb_W2
  have zx:v1.heap.size < W2.heap.size:=by rw [←hW2];simp
  have x0:W2.cell? ⟨v1.heap.size,0,none⟩=some (.slice (some ⟨g,0,none⟩) m.c.length m.c.length):=by rw [←hW2];simp [go_sem]
  go_wp2_with fail
  refine (H2.out W2 HB.out).mono ?_
  rintro e v2 ⟨o2,n2,c2,rfl,hv2,hb⟩
  obtain ⟨h,rfl,rfl,rfl,hown⟩:=hv2 (by simp)
  have HP:=hide hown
  have hh0:=(hown.lt h rfl).1
  clear hown hv2
  have hgm:g < W2.heap.size:=by have h:=hg1;rw [←hW2];simp;omega
  replace z0:v2.cell? ⟨w.heap.size,0,none⟩=some (.int .i64 m.id):=(hb.cell (p:=⟨w.heap.size,0,none⟩) zz).trans z0
  replace z1:v2.cell? ⟨w.heap.size,1,none⟩=some (.int .i64 m.lim):=(hb.cell (p:=⟨w.heap.size,1,none⟩) zz).trans z1
  replace z2:v2.cell? ⟨w.heap.size,2,none⟩=some (.bool m.dr):=(hb.cell (p:=⟨w.heap.size,2,none⟩) zz).trans z2
  replace z3:v2.cell? ⟨w.heap.size,3,none⟩=some (.slice oc m.c.length cc):=(hb.cell (p:=⟨w.heap.size,3,none⟩) zz).trans z3
  replace z4:v2.cell? ⟨w.heap.size,4,none⟩=some (.slice ot m.t.length ct):=(hb.cell (p:=⟨w.heap.size,4,none⟩) zz).trans z4
  replace zz:w.heap.size < v2.heap.size:=Nat.lt_of_lt_of_le zz hb.size
  replace r0:v2.cell? ⟨w.heap.size+1,0,none⟩=some (.slice none 0 0):=(hb.cell (p:=⟨w.heap.size+1,0,none⟩) zr).trans r0
  replace r1:v2.cell? ⟨w.heap.size+1,1,none⟩=some (.slice none 0 0):=(hb.cell (p:=⟨w.heap.size+1,1,none⟩) zr).trans r1
  replace r2:v2.cell? ⟨w.heap.size+1,2,none⟩=some (.int .i64 0):=(hb.cell (p:=⟨w.heap.size+1,2,none⟩) zr).trans r2
  replace r3:v2.cell? ⟨w.heap.size+1,3,none⟩=some (.int .i64 0):=(hb.cell (p:=⟨w.heap.size+1,3,none⟩) zr).trans r3
  replace r4:v2.cell? ⟨w.heap.size+1,4,none⟩=some (.bool false):=(hb.cell (p:=⟨w.heap.size+1,4,none⟩) zr).trans r4
  replace fr0:v2.frozen? ⟨w.heap.size+1,0,none⟩=false:=(hb.frozen (p:=⟨w.heap.size+1,0,none⟩) zr).trans fr0
  replace fr1:v2.frozen? ⟨w.heap.size+1,1,none⟩=false:=(hb.frozen (p:=⟨w.heap.size+1,1,none⟩) zr).trans fr1
  replace fr2:v2.frozen? ⟨w.heap.size+1,2,none⟩=false:=(hb.frozen (p:=⟨w.heap.size+1,2,none⟩) zr).trans fr2
  replace fr3:v2.frozen? ⟨w.heap.size+1,3,none⟩=false:=(hb.frozen (p:=⟨w.heap.size+1,3,none⟩) zr).trans fr3
  replace fr4:v2.frozen? ⟨w.heap.size+1,4,none⟩=false:=(hb.frozen (p:=⟨w.heap.size+1,4,none⟩) zr).trans fr4
  replace zr:w.heap.size+1 < v2.heap.size:=Nat.lt_of_lt_of_le zr hb.size
  replace x0:v2.cell? ⟨v1.heap.size,0,none⟩=some (.slice (some ⟨g,0,none⟩) m.c.length m.c.length):=(hb.cell (p:=⟨v1.heap.size,0,none⟩) zx).trans x0
  replace zx:v1.heap.size < v2.heap.size:=Nat.lt_of_lt_of_le zx hb.size
  replace HO:=hide (own_kept HO.out hb)
  replace HB:=hide (HB.out.trans (hb.mono HB.out.size))
  clear hb
  obtain ⟨W4,hW4⟩:∃W,(v2.alloc (.cells #[.slice (some ⟨h,0,none⟩) m.t.length m.t.length] 128))=W:=⟨_,rfl⟩
  have hb_W4:Below v2.heap.size v2 W4:=by rw [←hW4];exact ((Below.refl _ _).alloc (Nat.le_refl _) _)
  replace z0:W4.cell? ⟨w.heap.size,0,none⟩=some (.int .i64 m.id):=(hb_W4.cell (p:=⟨w.heap.size,0,none⟩) zz).trans z0
  replace z1:W4.cell? ⟨w.heap.size,1,none⟩=some (.int .i64 m.lim):=(hb_W4.cell (p:=⟨w.heap.size,1,none⟩) zz).trans z1
  replace z2:W4.cell? ⟨w.heap.size,2,none⟩=some (.bool m.dr):=(hb_W4.cell (p:=⟨w.heap.size,2,none⟩) zz).trans z2
  replace z3:W4.cell? ⟨w.heap.size,3,none⟩=some (.slice oc m.c.length cc):=(hb_W4.cell (p:=⟨w.heap.size,3,none⟩) zz).trans z3
  replace z4:W4.cell? ⟨w.heap.size,4,none⟩=some (.slice ot m.t.length ct):=(hb_W4.cell (p:=⟨w.heap.size,4,none⟩) zz).trans z4
  replace zz:w.heap.size < W4.heap.size:=Nat.lt_of_lt_of_le zz hb_W4.size
  replace r0:W4.cell? ⟨w.heap.size+1,0,none⟩=some (.slice none 0 0):=(hb_W4.cell (p:=⟨w.heap.size+1,0,none⟩) zr).trans r0
  replace r1:W4.cell? ⟨w.heap.size+1,1,none⟩=some (.slice none 0 0):=(hb_W4.cell (p:=⟨w.heap.size+1,1,none⟩) zr).trans r1
  replace r2:W4.cell? ⟨w.heap.size+1,2,none⟩=some (.int .i64 0):=(hb_W4.cell (p:=⟨w.heap.size+1,2,none⟩) zr).trans r2
  replace r3:W4.cell? ⟨w.heap.size+1,3,none⟩=some (.int .i64 0):=(hb_W4.cell (p:=⟨w.heap.size+1,3,none⟩) zr).trans r3
  replace r4:W4.cell? ⟨w.heap.size+1,4,none⟩=some (.bool false):=(hb_W4.cell (p:=⟨w.heap.size+1,4,none⟩) zr).trans r4
  replace fr0:W4.frozen? ⟨w.heap.size+1,0,none⟩=false:=(hb_W4.frozen (p:=⟨w.heap.size+1,0,none⟩) zr).trans fr0
  replace fr1:W4.frozen? ⟨w.heap.size+1,1,none⟩=false:=(hb_W4.frozen (p:=⟨w.heap.size+1,1,none⟩) zr).trans fr1
  replace fr2:W4.frozen? ⟨w.heap.size+1,2,none⟩=false:=(hb_W4.frozen (p:=⟨w.heap.size+1,2,none⟩) zr).trans fr2
  replace fr3:W4.frozen? ⟨w.heap.size+1,3,none⟩=false:=(hb_W4.frozen (p:=⟨w.heap.size+1,3,none⟩) zr).trans fr3
  replace fr4:W4.frozen? ⟨w.heap.size+1,4,none⟩=false:=(hb_W4.frozen (p:=⟨w.heap.size+1,4,none⟩) zr).trans fr4
  replace zr:w.heap.size+1 < W4.heap.size:=Nat.lt_of_lt_of_le zr hb_W4.size
  replace x0:W4.cell? ⟨v1.heap.size,0,none⟩=some (.slice (some ⟨g,0,none⟩) m.c.length m.c.length):=(hb_W4.cell (p:=⟨v1.heap.size,0,none⟩) zx).trans x0
  replace zx:v1.heap.size < W4.heap.size:=Nat.lt_of_lt_of_le zx hb_W4.size
  replace HO:=hide (own_kept HO.out hb_W4)
  replace HP:=hide (own_kept HP.out hb_W4)
  replace HB:=hide (HB.out.trans (hb_W4.mono HB.out.size))
  clear hb_W4
  have zy:v2.heap.size < W4.heap.size:=by rw [←hW4];simp
  have y0:W4.cell? ⟨v2.heap.size,0,none⟩=some (.slice (some ⟨h,0,none⟩) m.t.length m.t.length):=by rw [←hW4];simp [go_sem]
  have hW2s:W0.heap.size≤W2.heap.size:=by omega
  have hW4s:=(HP.out.lt h rfl).2
  go_wp2_with (first|(go_at_call 74;refine (hbk _).mono ?_;rintro e w9 ⟨rfl,rfl⟩)|(go_at_call 75;refine (hli _).mono ?_;rintro e w9 ⟨rfl,rfl⟩))
  refine bodyPost_ret (v:=.tuple #[agi (.slice (some ⟨g,0,none⟩) m.c.length m.c.length) (.slice (some ⟨h,0,none⟩) m.t.length m.t.length) m.id m.lim m.dr,.bool true]) (by simp [results,Tryz.results161,go_sem,r0,r1,r2,r3,r4]) rfl ⟨_,_,_,_,_,_,_,_,_,by rw [HE.out];rfl,fun _=> ?_, ?_⟩
  ·refine ⟨g,h,W2.heap.size,rfl,InRow.mono (InRow.step (a:=W0.heap.size) (b:=W2.heap.size) ⟨HO.out,fun b e=> by simp [Value.ownBlock] at e;omega⟩ (stp_set5v W4 (w.heap.size+1) _ _ _ _ _) (.inl (by omega))) (by omega) (Nat.le_refl _),InRow.mono (InRow.step (a:=W2.heap.size) (b:=W4.heap.size) ⟨HP.out,fun b e=> by simp [Value.ownBlock] at e;omega⟩ (stp_set5v W4 (w.heap.size+1) _ _ _ _ _) (.inl (by omega))) (Nat.le_refl _) (by rw [set5v_size];exact Nat.le_refl _),by omega,by rw [set5v_size];omega⟩
  ·exact below_set5v HB.out (by omega) _ _ _ _ _
 ·have HN:Hid (agentOkB m=false):=by unfold Hid;rw [HE.out];simpa using hall
  go_enter Tryz.func161,Tryz.ntmps161
  go_wp2_with fail
  refine (h1).mono ?_
  rintro e v1 ⟨o1,n1,c1,rfl,hv1,hb⟩
  clear hv1
  replace z0:v1.cell? ⟨w.heap.size,0,none⟩=some (.int .i64 m.id):=(hb.cell (p:=⟨w.heap.size,0,none⟩) zz).trans z0
  replace z1:v1.cell? ⟨w.heap.size,1,none⟩=some (.int .i64 m.lim):=(hb.cell (p:=⟨w.heap.size,1,none⟩) zz).trans z1
  replace z2:v1.cell? ⟨w.heap.size,2,none⟩=some (.bool m.dr):=(hb.cell (p:=⟨w.heap.size,2,none⟩) zz).trans z2
  replace z3:v1.cell? ⟨w.heap.size,3,none⟩=some (.slice oc m.c.length cc):=(hb.cell (p:=⟨w.heap.size,3,none⟩) zz).trans z3
  replace z4:v1.cell? ⟨w.heap.size,4,none⟩=some (.slice ot m.t.length ct):=(hb.cell (p:=⟨w.heap.size,4,none⟩) zz).trans z4
  replace zz:w.heap.size < v1.heap.size:=Nat.lt_of_lt_of_le zz hb.size
  replace r0:v1.cell? ⟨w.heap.size+1,0,none⟩=some (.slice none 0 0):=(hb.cell (p:=⟨w.heap.size+1,0,none⟩) zr).trans r0
  replace r1:v1.cell? ⟨w.heap.size+1,1,none⟩=some (.slice none 0 0):=(hb.cell (p:=⟨w.heap.size+1,1,none⟩) zr).trans r1
  replace r2:v1.cell? ⟨w.heap.size+1,2,none⟩=some (.int .i64 0):=(hb.cell (p:=⟨w.heap.size+1,2,none⟩) zr).trans r2
  replace r3:v1.cell? ⟨w.heap.size+1,3,none⟩=some (.int .i64 0):=(hb.cell (p:=⟨w.heap.size+1,3,none⟩) zr).trans r3
  replace r4:v1.cell? ⟨w.heap.size+1,4,none⟩=some (.bool false):=(hb.cell (p:=⟨w.heap.size+1,4,none⟩) zr).trans r4
  replace fr0:v1.frozen? ⟨w.heap.size+1,0,none⟩=false:=(hb.frozen (p:=⟨w.heap.size+1,0,none⟩) zr).trans fr0
  replace fr1:v1.frozen? ⟨w.heap.size+1,1,none⟩=false:=(hb.frozen (p:=⟨w.heap.size+1,1,none⟩) zr).trans fr1
  replace fr2:v1.frozen? ⟨w.heap.size+1,2,none⟩=false:=(hb.frozen (p:=⟨w.heap.size+1,2,none⟩) zr).trans fr2
  replace fr3:v1.frozen? ⟨w.heap.size+1,3,none⟩=false:=(hb.frozen (p:=⟨w.heap.size+1,3,none⟩) zr).trans fr3
  replace fr4:v1.frozen? ⟨w.heap.size+1,4,none⟩=false:=(hb.frozen (p:=⟨w.heap.size+1,4,none⟩) zr).trans fr4
  replace zr:w.heap.size+1 < v1.heap.size:=Nat.lt_of_lt_of_le zr hb.size
  replace HB:=hide (HB.out.trans (hb.mono HB.out.size))
  clear hb
  obtain ⟨W2,hW2⟩:∃W,(v1.alloc (.cells #[.slice o1 n1 c1] 128))=W:=⟨_,rfl⟩
  have hb_W2:Below v1.heap.size v1 W2:=by rw [←hW2];exact ((Below.refl _ _).alloc (Nat.le_refl _) _)
  replace z0:W2.cell? ⟨w.heap.size,0,none⟩=some (.int .i64 m.id):=(hb_W2.cell (p:=⟨w.heap.size,0,none⟩) zz).trans z0
  replace z1:W2.cell? ⟨w.heap.size,1,none⟩=some (.int .i64 m.lim):=(hb_W2.cell (p:=⟨w.heap.size,1,none⟩) zz).trans z1
  replace z2:W2.cell? ⟨w.heap.size,2,none⟩=some (.bool m.dr):=(hb_W2.cell (p:=⟨w.heap.size,2,none⟩) zz).trans z2
  replace z3:W2.cell? ⟨w.heap.size,3,none⟩=some (.slice oc m.c.length cc):=(hb_W2.cell (p:=⟨w.heap.size,3,none⟩) zz).trans z3
  replace z4:W2.cell? ⟨w.heap.size,4,none⟩=some (.slice ot m.t.length ct):=(hb_W2.cell (p:=⟨w.heap.size,4,none⟩) zz).trans z4
  replace zz:w.heap.size < W2.heap.size:=Nat.lt_of_lt_of_le zz hb_W2.size
  replace r0:W2.cell? ⟨w.heap.size+1,0,none⟩=some (.slice none 0 0):=(hb_W2.cell (p:=⟨w.heap.size+1,0,none⟩) zr).trans r0
  replace r1:W2.cell? ⟨w.heap.size+1,1,none⟩=some (.slice none 0 0):=(hb_W2.cell (p:=⟨w.heap.size+1,1,none⟩) zr).trans r1
  replace r2:W2.cell? ⟨w.heap.size+1,2,none⟩=some (.int .i64 0):=(hb_W2.cell (p:=⟨w.heap.size+1,2,none⟩) zr).trans r2
  replace r3:W2.cell? ⟨w.heap.size+1,3,none⟩=some (.int .i64 0):=(hb_W2.cell (p:=⟨w.heap.size+1,3,none⟩) zr).trans r3
  replace r4:W2.cell? ⟨w.heap.size+1,4,none⟩=some (.bool false):=(hb_W2.cell (p:=⟨w.heap.size+1,4,none⟩) zr).trans r4
  replace fr0:W2.frozen? ⟨w.heap.size+1,0,none⟩=false:=(hb_W2.frozen (p:=⟨w.heap.size+1,0,none⟩) zr).trans fr0
  replace fr1:W2.frozen? ⟨w.heap.size+1,1,none⟩=false:=(hb_W2.frozen (p:=⟨w.heap.size+1,1,none⟩) zr).trans fr1
  replace fr2:W2.frozen? ⟨w.heap.size+1,2,none⟩=false:=(hb_W2.frozen (p:=⟨w.heap.size+1,2,none⟩) zr).trans fr2
  replace fr3:W2.frozen? ⟨w.heap.size+1,3,none⟩=false:=(hb_W2.frozen (p:=⟨w.heap.size+1,3,none⟩) zr).trans fr3
  replace fr4:W2.frozen? ⟨w.heap.size+1,4,none⟩=false:=(hb_W2.frozen (p:=⟨w.heap.size+1,4,none⟩) zr).trans fr4
  replace zr:w.heap.size+1 < W2.heap.size:=Nat.lt_of_lt_of_le zr hb_W2.size
  replace HB:=hide (HB.out.trans (hb_W2.mono HB.out.size))
  clear hb_W2
  have zx:v1.heap.size < W2.heap.size:=by rw [←hW2];simp
  have x0:W2.cell? ⟨v1.heap.size,0,none⟩=some (.slice o1 n1 c1):=by rw [←hW2];simp [go_sem]
  go_wp2_with fail
  refine (H2.out W2 HB.out).mono ?_
  rintro e v2 ⟨o2,n2,c2,rfl,hv2,hb⟩
  clear hv2
  replace z0:v2.cell? ⟨w.heap.size,0,none⟩=some (.int .i64 m.id):=(hb.cell (p:=⟨w.heap.size,0,none⟩) zz).trans z0
  replace z1:v2.cell? ⟨w.heap.size,1,none⟩=some (.int .i64 m.lim):=(hb.cell (p:=⟨w.heap.size,1,none⟩) zz).trans z1
  replace z2:v2.cell? ⟨w.heap.size,2,none⟩=some (.bool m.dr):=(hb.cell (p:=⟨w.heap.size,2,none⟩) zz).trans z2
  replace z3:v2.cell? ⟨w.heap.size,3,none⟩=some (.slice oc m.c.length cc):=(hb.cell (p:=⟨w.heap.size,3,none⟩) zz).trans z3
  replace z4:v2.cell? ⟨w.heap.size,4,none⟩=some (.slice ot m.t.length ct):=(hb.cell (p:=⟨w.heap.size,4,none⟩) zz).trans z4
  replace zz:w.heap.size < v2.heap.size:=Nat.lt_of_lt_of_le zz hb.size
  replace r0:v2.cell? ⟨w.heap.size+1,0,none⟩=some (.slice none 0 0):=(hb.cell (p:=⟨w.heap.size+1,0,none⟩) zr).trans r0
  replace r1:v2.cell? ⟨w.heap.size+1,1,none⟩=some (.slice none 0 0):=(hb.cell (p:=⟨w.heap.size+1,1,none⟩) zr).trans r1
  replace r2:v2.cell? ⟨w.heap.size+1,2,none⟩=some (.int .i64 0):=(hb.cell (p:=⟨w.heap.size+1,2,none⟩) zr).trans r2
  replace r3:v2.cell? ⟨w.heap.size+1,3,none⟩=some (.int .i64 0):=(hb.cell (p:=⟨w.heap.size+1,3,none⟩) zr).trans r3
  replace r4:v2.cell? ⟨w.heap.size+1,4,none⟩=some (.bool false):=(hb.cell (p:=⟨w.heap.size+1,4,none⟩) zr).trans r4
  replace fr0:v2.frozen? ⟨w.heap.size+1,0,none⟩=false:=(hb.frozen (p:=⟨w.heap.size+1,0,none⟩) zr).trans fr0
  replace fr1:v2.frozen? ⟨w.heap.size+1,1,none⟩=false:=(hb.frozen (p:=⟨w.heap.size+1,1,none⟩) zr).trans fr1
  replace fr2:v2.frozen? ⟨w.heap.size+1,2,none⟩=false:=(hb.frozen (p:=⟨w.heap.size+1,2,none⟩) zr).trans fr2
  replace fr3:v2.frozen? ⟨w.heap.size+1,3,none⟩=false:=(hb.frozen (p:=⟨w.heap.size+1,3,none⟩) zr).trans fr3
  replace fr4:v2.frozen? ⟨w.heap.size+1,4,none⟩=false:=(hb.frozen (p:=⟨w.heap.size+1,4,none⟩) zr).trans fr4
  replace zr:w.heap.size+1 < v2.heap.size:=Nat.lt_of_lt_of_le zr hb.size
  replace x0:v2.cell? ⟨v1.heap.size,0,none⟩=some (.slice o1 n1 c1):=(hb.cell (p:=⟨v1.heap.size,0,none⟩) zx).trans x0
  replace zx:v1.heap.size < v2.heap.size:=Nat.lt_of_lt_of_le zx hb.size
  replace HB:=hide (HB.out.trans (hb.mono HB.out.size))
  clear hb
  obtain ⟨W4,hW4⟩:∃W,(v2.alloc (.cells #[.slice o2 n2 c2] 128))=W:=⟨_,rfl⟩
  have hb_W4:Below v2.heap.size v2 W4:=by rw [←hW4];exact ((Below.refl _ _).alloc (Nat.le_refl _) _)
  replace z0:W4.cell? ⟨w.heap.size,0,none⟩=some (.int .i64 m.id):=(hb_W4.cell (p:=⟨w.heap.size,0,none⟩) zz).trans z0
  replace z1:W4.cell? ⟨w.heap.size,1,none⟩=some (.int .i64 m.lim):=(hb_W4.cell (p:=⟨w.heap.size,1,none⟩) zz).trans z1
  replace z2:W4.cell? ⟨w.heap.size,2,none⟩=some (.bool m.dr):=(hb_W4.cell (p:=⟨w.heap.size,2,none⟩) zz).trans z2
  replace z3:W4.cell? ⟨w.heap.size,3,none⟩=some (.slice oc m.c.length cc):=(hb_W4.cell (p:=⟨w.heap.size,3,none⟩) zz).trans z3
  replace z4:W4.cell? ⟨w.heap.size,4,none⟩=some (.slice ot m.t.length ct):=(hb_W4.cell (p:=⟨w.heap.size,4,none⟩) zz).trans z4
  replace zz:w.heap.size < W4.heap.size:=Nat.lt_of_lt_of_le zz hb_W4.size
  replace r0:W4.cell? ⟨w.heap.size+1,0,none⟩=some (.slice none 0 0):=(hb_W4.cell (p:=⟨w.heap.size+1,0,none⟩) zr).trans r0
  replace r1:W4.cell? ⟨w.heap.size+1,1,none⟩=some (.slice none 0 0):=(hb_W4.cell (p:=⟨w.heap.size+1,1,none⟩) zr).trans r1
  replace r2:W4.cell? ⟨w.heap.size+1,2,none⟩=some (.int .i64 0):=(hb_W4.cell (p:=⟨w.heap.size+1,2,none⟩) zr).trans r2
  replace r3:W4.cell? ⟨w.heap.size+1,3,none⟩=some (.int .i64 0):=(hb_W4.cell (p:=⟨w.heap.size+1,3,none⟩) zr).trans r3
  replace r4:W4.cell? ⟨w.heap.size+1,4,none⟩=some (.bool false):=(hb_W4.cell (p:=⟨w.heap.size+1,4,none⟩) zr).trans r4
  replace fr0:W4.frozen? ⟨w.heap.size+1,0,none⟩=false:=(hb_W4.frozen (p:=⟨w.heap.size+1,0,none⟩) zr).trans fr0
  replace fr1:W4.frozen? ⟨w.heap.size+1,1,none⟩=false:=(hb_W4.frozen (p:=⟨w.heap.size+1,1,none⟩) zr).trans fr1
  replace fr2:W4.frozen? ⟨w.heap.size+1,2,none⟩=false:=(hb_W4.frozen (p:=⟨w.heap.size+1,2,none⟩) zr).trans fr2
  replace fr3:W4.frozen? ⟨w.heap.size+1,3,none⟩=false:=(hb_W4.frozen (p:=⟨w.heap.size+1,3,none⟩) zr).trans fr3
  replace fr4:W4.frozen? ⟨w.heap.size+1,4,none⟩=false:=(hb_W4.frozen (p:=⟨w.heap.size+1,4,none⟩) zr).trans fr4
  replace zr:w.heap.size+1 < W4.heap.size:=Nat.lt_of_lt_of_le zr hb_W4.size
  replace x0:W4.cell? ⟨v1.heap.size,0,none⟩=some (.slice o1 n1 c1):=(hb_W4.cell (p:=⟨v1.heap.size,0,none⟩) zx).trans x0
  replace zx:v1.heap.size < W4.heap.size:=Nat.lt_of_lt_of_le zx hb_W4.size
  replace HB:=hide (HB.out.trans (hb_W4.mono HB.out.size))
  clear hb_W4
  have zy:v2.heap.size < W4.heap.size:=by rw [←hW4];simp
  have y0:W4.cell? ⟨v2.heap.size,0,none⟩=some (.slice o2 n2 c2):=by rw [←hW4];simp [go_sem]
  clear HE
  cases t1 <;> cases t2 <;> cases bk <;> cases bl <;> first|(exfalso;simp at hall;done)|skip
  all_goals (
   clear hall
   go_wp2_with (first|(go_at_call 74;refine (hbk _).mono ?_;rintro e w9 ⟨rfl,rfl⟩)|(go_at_call 75;refine (hli _).mono ?_;rintro e w9 ⟨rfl,rfl⟩))
   refine bodyPost_ret (v:=.tuple #[agi (.slice none 0 0) (.slice none 0 0) 0 0 false,.bool false]) (by simp [results,Tryz.results161,go_sem,r0,r1,r2,r3,r4]) rfl ⟨_,_,_,_,_,_,_,_,_,by rw [HN.out],fun h=> absurd (h.symm.trans HN.out) (by decide),below_set5v HB.out (by omega) _ _ _ _ _⟩)
end Go.Proofs.YtgplppfbinfelaaGreat
