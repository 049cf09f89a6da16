/- Several texts in one: SSoon, SAg, SGet, SAg5. -/
import Derived.Test.YtgplppfbinfelaaGreatQOwners43
import Derived.Test.YtgplppfbinfelaaGreatQOwners26
import Derived.Test.YtgplppfbinfelaaGreatQOwners04
namespace Go.Proofs.YtgplppfbinfelaaGreat
open Go.ChangeShapes Go.WideShapes Go.ChangeAt Go.RowKit Go.Joins
set_option linter.unusedVariables false
set_option linter.unusedSimpArgs false
set_option maxRecDepth 100000
set_option maxHeartbeats 40000000
def Qhn (w:World) (B:Nat) (s:Sl):World:=((((w.setCell ⟨B,0,none⟩ (.bool s.u)).setCell ⟨B,1,none⟩ (.int .i64 s.a)).setCell ⟨B,2,none⟩ (.int .i64 s.p)).setCell ⟨B,3,none⟩ (.int .i64 s.v)).setCell ⟨B,4,none⟩ (.int .i64 s.t)
theorem Q1T {w W:World} {n B:Nat} (h:Below n w W) (hB:n≤B) (s:Sl):Below n w (Qhn W B s):=
 ((((h.setCell (p:=⟨B,0,none⟩) hB _).setCell (p:=⟨B,1,none⟩) hB _).setCell (p:=⟨B,2,none⟩) hB _).setCell (p:=⟨B,3,none⟩) hB _).setCell (p:=⟨B,4,none⟩) hB _
def Q0O (m:Am):Bool:=decide (0≤m.id) && decide (m.id < 6) && decide (0≤m.lim) && decide (m.lim≤16) && Q0j m.c && Q0j m.t
theorem Q1p {m:Am}:Q0O m=true↔(0≤m.id∧m.id < 6∧0≤m.lim∧m.lim≤16∧Q0j m.c=true∧Q0j m.t=true∧True):=by simp [Q0O,and_assoc]
theorem Q7L {m:Am} (h1:0≤m.id) (h2:m.id < 6) (h3:0≤m.lim) (h4:m.lim≤16):Q0O m=(Q0j m.c && Q0j m.t):=by simp [Q0O,h1,h2,h3,h4]
theorem Q7X (m:Am):Q0O m=((decide (0≤m.id) && decide (m.id < 6)) && (decide (0≤m.lim) && decide (m.lim≤16)) && (Q0j m.c && Q0j m.t)):=by simp [Q0O,Bool.and_assoc]
theorem Q6H (v:Value) (m:Am) (w:World) (hR:RdA w.heap.size w v m) (hf:m.c.length+m.t.length≤1048576):
  Calls Tryz.prog 42 #[v] w fun e w'=> e=.returned (.bool (Q0O m))∧Below w.heap.size w w':=by
 obtain ⟨vc,vt,rfl,⟨oc,cc,rfl,rc⟩,⟨ot,ct,rfl,rt⟩⟩:=hR
 obtain ⟨W0,hW0⟩:∃W,(w.alloc (.cells #[.int .i64 m.id,.int .i64 m.lim,.bool m.dr,.slice oc m.c.length cc,.slice ot m.t.length ct] 87))=W:=⟨_,rfl⟩
 have hb_W0:Below w.heap.size w W0:=by rw [←hW0];exact ((Below.refl _ _).alloc (Kaq _) _)
 have HB:=Q00 hb_W0
 clear hb_W0
 have zz:w.heap.size < W0.heap.size:=by rw [←hW0];simp
 have z0:W0.cell? ⟨w.heap.size,0,none⟩=some (.int .i64 m.id):=by rw [←hW0];simp [go_sem]
 have z1:W0.cell? ⟨w.heap.size,1,none⟩=some (.int .i64 m.lim):=by rw [←hW0];simp [go_sem]
 have z2:W0.cell? ⟨w.heap.size,2,none⟩=some (.bool m.dr):=by rw [←hW0];simp [go_sem]
 have z3:W0.cell? ⟨w.heap.size,3,none⟩=some (.slice oc m.c.length cc):=by rw [←hW0];simp [go_sem]
 have z4:W0.cell? ⟨w.heap.size,4,none⟩=some (.slice ot m.t.length ct):=by rw [←hW0];simp [go_sem]
 have hcc:=Q25 oc cc m.c W0 ((rc.kept HB.out (Kaq _)).le HB.out.size) (by omega)
 have hct:=fun W (h:Below w.heap.size w W)=> Q25 ot ct m.t W ((rt.kept h (Kaq _)).le h.size) (by omega)
 have HCT:=Q00 hct
 clear hct rc rt
 by_cases h1:0≤m.id
 ·by_cases h2:m.id < 6
  ·by_cases h3:0≤m.lim
   ·by_cases h4:m.lim≤16
    ·have HE:=Q00 (Q7L h1 h2 h3 h4)
     generalize Q0j m.c=t1 at *
     cases t1 with
     |false=>
      go_enter Tryz.func42,Tryz.ntmps42
      go_wp2_with fail
      refine (hcc).mono ?_
      rintro e v1 ⟨rfl,hb⟩
      replace z0:v1.cell? ⟨w.heap.size,0,none⟩=some (.int .i64 m.id):=(hb.cell (p:=⟨w.heap.size,0,none⟩) zz).trans z0
      replace z1:v1.cell? ⟨w.heap.size,1,none⟩=some (.int .i64 m.lim):=(hb.cell (p:=⟨w.heap.size,1,none⟩) zz).trans z1
      replace z2:v1.cell? ⟨w.heap.size,2,none⟩=some (.bool m.dr):=(hb.cell (p:=⟨w.heap.size,2,none⟩) zz).trans z2
      replace z3:v1.cell? ⟨w.heap.size,3,none⟩=some (.slice oc m.c.length cc):=(hb.cell (p:=⟨w.heap.size,3,none⟩) zz).trans z3
      replace z4:v1.cell? ⟨w.heap.size,4,none⟩=some (.slice ot m.t.length ct):=(hb.cell (p:=⟨w.heap.size,4,none⟩) zz).trans z4
      replace zz:w.heap.size < v1.heap.size:=Kbq zz hb.size
      replace HB:=Q00 (HB.out.trans (hb.mono HB.out.size))
      clear hb
      go_wp2
      go_ret
      exact ⟨by rw [HE.out];rfl,HB.out⟩
     |true=>
      go_enter Tryz.func42,Tryz.ntmps42
      go_wp2_with fail
      refine (hcc).mono ?_
      rintro e v1 ⟨rfl,hb⟩
      replace z0:v1.cell? ⟨w.heap.size,0,none⟩=some (.int .i64 m.id):=(hb.cell (p:=⟨w.heap.size,0,none⟩) zz).trans z0
      replace z1:v1.cell? ⟨w.heap.size,1,none⟩=some (.int .i64 m.lim):=(hb.cell (p:=⟨w.heap.size,1,none⟩) zz).trans z1
      replace z2:v1.cell? ⟨w.heap.size,2,none⟩=some (.bool m.dr):=(hb.cell (p:=⟨w.heap.size,2,none⟩) zz).trans z2
      replace z3:v1.cell? ⟨w.heap.size,3,none⟩=some (.slice oc m.c.length cc):=(hb.cell (p:=⟨w.heap.size,3,none⟩) zz).trans z3
      replace z4:v1.cell? ⟨w.heap.size,4,none⟩=some (.slice ot m.t.length ct):=(hb.cell (p:=⟨w.heap.size,4,none⟩) zz).trans z4
      replace zz:w.heap.size < v1.heap.size:=Kbq zz hb.size
      replace HB:=Q00 (HB.out.trans (hb.mono HB.out.size))
      clear hb
      go_wp2_with fail
      refine (HCT.out v1 HB.out).mono ?_
      rintro e v2 ⟨rfl,hb⟩
      replace z0:v2.cell? ⟨w.heap.size,0,none⟩=some (.int .i64 m.id):=(hb.cell (p:=⟨w.heap.size,0,none⟩) zz).trans z0
      replace z1:v2.cell? ⟨w.heap.size,1,none⟩=some (.int .i64 m.lim):=(hb.cell (p:=⟨w.heap.size,1,none⟩) zz).trans z1
      replace z2:v2.cell? ⟨w.heap.size,2,none⟩=some (.bool m.dr):=(hb.cell (p:=⟨w.heap.size,2,none⟩) zz).trans z2
      replace z3:v2.cell? ⟨w.heap.size,3,none⟩=some (.slice oc m.c.length cc):=(hb.cell (p:=⟨w.heap.size,3,none⟩) zz).trans z3
      replace z4:v2.cell? ⟨w.heap.size,4,none⟩=some (.slice ot m.t.length ct):=(hb.cell (p:=⟨w.heap.size,4,none⟩) zz).trans z4
      replace zz:w.heap.size < v2.heap.size:=Kbq zz hb.size
      replace HB:=Q00 (HB.out.trans (hb.mono HB.out.size))
      clear hb
      go_wp2
      all_goals go_ret
      all_goals exact ⟨by rw [HE.out];first|rfl|simp,HB.out⟩
    ·have HN:=Q00 (Q0V (Q1p (m:=m)) (fun q=> h4 q.2.2.2.1))
     clear hcc HCT
     go_enter Tryz.func42,Tryz.ntmps42
     go_wp2
     all_goals go_ret
     all_goals exact ⟨Q03 HN.out,HB.out⟩
   ·have HN:=Q00 (Q0V (Q1p (m:=m)) (fun q=> h3 q.2.2.1))
    clear hcc HCT
    go_enter Tryz.func42,Tryz.ntmps42
    go_wp2
    all_goals go_ret
    all_goals exact ⟨Q03 HN.out,HB.out⟩
  ·have HN:=Q00 (Q0V (Q1p (m:=m)) (fun q=> h2 q.2.1))
   clear hcc HCT
   go_enter Tryz.func42,Tryz.ntmps42
   go_wp2
   all_goals go_ret
   all_goals exact ⟨Q03 HN.out,HB.out⟩
 ·have HN:=Q00 (Q0V (Q1p (m:=m)) (fun q=> h1 q.1))
  clear hcc HCT
  go_enter Tryz.func42,Tryz.ntmps42
  go_wp2
  all_goals go_ret
  all_goals exact ⟨Q03 HN.out,HB.out⟩
theorem Q5X (n:Int) (w:World):Calls Tryz.prog 74 #[.int .i64 n] w fun e w'=> e=.returned (.bool (decide (0≤n) && decide (n < 6)))∧w=w':=by
 go_enter Tryz.func74,Tryz.ntmps74
 go_wp2
 all_goals go_ret
 all_goals refine ⟨Q03 ?_,rfl⟩
 all_goals first|(simp [*];done)|(simp;omega)
theorem Qa7 (n:Int) (w:World):Calls Tryz.prog 75 #[.int .i64 n] w fun e w'=> e=.returned (.bool (decide (0≤n) && decide (n≤16)))∧w=w':=by
 go_enter Tryz.func75,Tryz.ntmps75
 go_wp2
 all_goals go_ret
 all_goals refine ⟨Q03 ?_,rfl⟩
 all_goals first|(simp [*];done)|(simp;omega)
abbrev agi (vc vt:Value) (i l:Int) (d:Bool):Value:=.agg #[vc,vt,.int .i64 i,.int .i64 l,.bool d]
def OwnG (lo hi:Nat) (w:World) (v:Value) (m:Am):Prop:=∃g h mid,v=agi (.slice (some ⟨g,0,none⟩) m.c.length m.c.length) (.slice (some ⟨h,0,none⟩) m.t.length m.t.length) m.id m.lim m.dr∧Qh9 lo mid w (.slice (some ⟨g,0,none⟩) m.c.length m.c.length) m.c∧Qh9 mid hi w (.slice (some ⟨h,0,none⟩) m.t.length m.t.length) m.t∧lo≤mid∧mid≤hi
theorem OwnG.step {a b lo hi:Nat} {w w':World} {v:Value} {m:Am} (h:OwnG a b w v m) (s:Stp lo hi w w') (hd:hi≤a∨b≤lo):OwnG a b w' v m:=by
 obtain ⟨g,h',mid,e,h1,h2,h3,h4⟩:=h
 exact ⟨g,h',mid,e,InRow.step h1 s (by omega),InRow.step h2 s (by omega),h3,h4⟩
theorem OwnG.mono {a b a' b':Nat} {w:World} {v:Value} {m:Am} (h:OwnG a b w v m) (h1:a'≤a) (h2:b≤b'):OwnG a' b' w v m:=by
 obtain ⟨g,h',mid,e,i1,i2,h3,h4⟩:=h
 exact ⟨g,h',mid,e,InRow.mono i1 h1 (Kaq _),InRow.mono i2 (Kaq _) h2,Kdq h1 h3,Kdq h4 h2⟩
theorem Q8t (v:Value) (m:Am) (w:World) (hR:RdA w.heap.size w v m) (hf:m.c.length+m.t.length≤1048576):
  Calls Tryz.prog 161 #[v] w fun e w'=> ∃o1 n1 c1 o2 n2 c2 i l d,e=.returned (.tuple #[agi (.slice o1 n1 c1) (.slice o2 n2 c2) i l d,.bool (Q0O m)])∧(Q0O m=true→OwnG w.heap.size w'.heap.size w' (agi (.slice o1 n1 c1) (.slice o2 n2 c2) i l d) m)∧Below w.heap.size w w':=by
 obtain ⟨vc,vt,rfl,⟨oc,cc,rfl,rc⟩,⟨ot,ct,rfl,rt⟩⟩:=hR
 obtain ⟨W0,hW0⟩:∃W,((w.alloc (.cells #[.int .i64 m.id,.int .i64 m.lim,.bool m.dr,.slice oc m.c.length cc,.slice ot m.t.length ct] 87)).alloc (.cells #[.slice none 0 0,.slice none 0 0,.int .i64 0,.int .i64 0,.bool false] 140))=W:=⟨_,rfl⟩
 have hb_W0:Below w.heap.size w W0:=by rw [←hW0];exact (((Below.refl _ _).alloc (Kaq _) _).alloc (by simp <;> omega) _)
 have HB:=Q00 hb_W0
 clear hb_W0
 have zz:w.heap.size < W0.heap.size:=by rw [←hW0];simp <;> omega
 have z0:W0.cell? ⟨w.heap.size,0,none⟩=some (.int .i64 m.id):=by rw [←hW0];simp [go_sem]
 have z1:W0.cell? ⟨w.heap.size,1,none⟩=some (.int .i64 m.lim):=by rw [←hW0];simp [go_sem]
 have z2:W0.cell? ⟨w.heap.size,2,none⟩=some (.bool m.dr):=by rw [←hW0];simp [go_sem]
 have z3:W0.cell? ⟨w.heap.size,3,none⟩=some (.slice oc m.c.length cc):=by rw [←hW0];simp [go_sem]
 have z4:W0.cell? ⟨w.heap.size,4,none⟩=some (.slice ot m.t.length ct):=by rw [←hW0];simp [go_sem]
 have zr:w.heap.size+1 < W0.heap.size:=by rw [←hW0];simp
 have r0:W0.cell? ⟨w.heap.size+1,0,none⟩=some (.slice none 0 0):=by rw [←hW0];simp [go_sem]
 have r1:W0.cell? ⟨w.heap.size+1,1,none⟩=some (.slice none 0 0):=by rw [←hW0];simp [go_sem]
 have r2:W0.cell? ⟨w.heap.size+1,2,none⟩=some (.int .i64 0):=by rw [←hW0];simp [go_sem]
 have r3:W0.cell? ⟨w.heap.size+1,3,none⟩=some (.int .i64 0):=by rw [←hW0];simp [go_sem]
 have r4:W0.cell? ⟨w.heap.size+1,4,none⟩=some (.bool false):=by rw [←hW0];simp [go_sem]
 have fr0:W0.frozen? ⟨w.heap.size+1,0,none⟩=false:=by rw [←hW0];simp [go_sem]
 have fr1:W0.frozen? ⟨w.heap.size+1,1,none⟩=false:=by rw [←hW0];simp [go_sem]
 have fr2:W0.frozen? ⟨w.heap.size+1,2,none⟩=false:=by rw [←hW0];simp [go_sem]
 have fr3:W0.frozen? ⟨w.heap.size+1,3,none⟩=false:=by rw [←hW0];simp [go_sem]
 have fr4:W0.frozen? ⟨w.heap.size+1,4,none⟩=false:=by rw [←hW0];simp [go_sem]
 have hz00:w.heap.size+1 < W0.heap.size:=zr
 have h1:=Q3R oc cc m.c W0 ((rc.kept HB.out (Kaq _)).le HB.out.size) (by omega)
 have h2:=fun W (h:Below w.heap.size w W)=> Q3R ot ct m.t W ((rt.kept h (Kaq _)).le h.size) (by omega)
 have H2:=Q00 h2
 have hbk:=fun W=> Q5X m.id W
 have hli:=fun W=> Qa7 m.lim W
 have HE:=Q00 (Q7X m)
 clear h2 rc rt
 generalize (decide (0≤m.id) && decide (m.id < 6))=bk at *
 generalize (decide (0≤m.lim) && decide (m.lim≤16))=bl at *
 generalize Q0j m.c=t1 at *
 generalize Q0j m.t=t2 at *
 by_cases hall:(bk && bl && (t1 && t2))=true
 ·obtain ⟨rfl,rfl,rfl,rfl⟩:bk=true∧bl=true∧t1=true∧t2=true:=by cases bk <;> cases bl <;> cases t1 <;> cases t2 <;> simp_all
  go_enter Tryz.func161,Tryz.ntmps161
  go_wp2_with fail
  refine (h1).mono ?_
  rintro e v1 ⟨o1,n1,c1,rfl,hv1,hb⟩
  obtain ⟨g,rfl,rfl,rfl,hown⟩:=hv1 (by simp)
  have HO:=Q00 hown
  have hg0:=(hown.lt g rfl).1
  have hg1:=(hown.lt g rfl).2
  clear hown hv1
  replace z0:v1.cell? ⟨w.heap.size,0,none⟩=some (.int .i64 m.id):=(hb.cell (p:=⟨w.heap.size,0,none⟩) zz).trans z0
  replace z1:v1.cell? ⟨w.heap.size,1,none⟩=some (.int .i64 m.lim):=(hb.cell (p:=⟨w.heap.size,1,none⟩) zz).trans z1
  replace z2:v1.cell? ⟨w.heap.size,2,none⟩=some (.bool m.dr):=(hb.cell (p:=⟨w.heap.size,2,none⟩) zz).trans z2
  replace z3:v1.cell? ⟨w.heap.size,3,none⟩=some (.slice oc m.c.length cc):=(hb.cell (p:=⟨w.heap.size,3,none⟩) zz).trans z3
  replace z4:v1.cell? ⟨w.heap.size,4,none⟩=some (.slice ot m.t.length ct):=(hb.cell (p:=⟨w.heap.size,4,none⟩) zz).trans z4
  replace zz:w.heap.size < v1.heap.size:=Kbq zz hb.size
  replace r0:v1.cell? ⟨w.heap.size+1,0,none⟩=some (.slice none 0 0):=(hb.cell (p:=⟨w.heap.size+1,0,none⟩) zr).trans r0
  replace r1:v1.cell? ⟨w.heap.size+1,1,none⟩=some (.slice none 0 0):=(hb.cell (p:=⟨w.heap.size+1,1,none⟩) zr).trans r1
  replace r2:v1.cell? ⟨w.heap.size+1,2,none⟩=some (.int .i64 0):=(hb.cell (p:=⟨w.heap.size+1,2,none⟩) zr).trans r2
  replace r3:v1.cell? ⟨w.heap.size+1,3,none⟩=some (.int .i64 0):=(hb.cell (p:=⟨w.heap.size+1,3,none⟩) zr).trans r3
  replace r4:v1.cell? ⟨w.heap.size+1,4,none⟩=some (.bool false):=(hb.cell (p:=⟨w.heap.size+1,4,none⟩) zr).trans r4
  replace fr0:v1.frozen? ⟨w.heap.size+1,0,none⟩=false:=(hb.frozen (p:=⟨w.heap.size+1,0,none⟩) zr).trans fr0
  replace fr1:v1.frozen? ⟨w.heap.size+1,1,none⟩=false:=(hb.frozen (p:=⟨w.heap.size+1,1,none⟩) zr).trans fr1
  replace fr2:v1.frozen? ⟨w.heap.size+1,2,none⟩=false:=(hb.frozen (p:=⟨w.heap.size+1,2,none⟩) zr).trans fr2
  replace fr3:v1.frozen? ⟨w.heap.size+1,3,none⟩=false:=(hb.frozen (p:=⟨w.heap.size+1,3,none⟩) zr).trans fr3
  replace fr4:v1.frozen? ⟨w.heap.size+1,4,none⟩=false:=(hb.frozen (p:=⟨w.heap.size+1,4,none⟩) zr).trans fr4
  replace zr:w.heap.size+1 < v1.heap.size:=Kbq zr hb.size
  replace HB:=Q00 (HB.out.trans (hb.mono HB.out.size))
  clear hb
  obtain ⟨W2,hW2⟩:∃W,(v1.alloc (.cells #[.slice (some ⟨g,0,none⟩) m.c.length m.c.length] 128))=W:=⟨_,rfl⟩
  have hb_W2:Below v1.heap.size v1 W2:=by rw [←hW2];exact ((Below.refl _ _).alloc (Kaq _) _)
  replace z0:W2.cell? ⟨w.heap.size,0,none⟩=some (.int .i64 m.id):=(hb_W2.cell (p:=⟨w.heap.size,0,none⟩) zz).trans z0
  replace z1:W2.cell? ⟨w.heap.size,1,none⟩=some (.int .i64 m.lim):=(hb_W2.cell (p:=⟨w.heap.size,1,none⟩) zz).trans z1
  replace z2:W2.cell? ⟨w.heap.size,2,none⟩=some (.bool m.dr):=(hb_W2.cell (p:=⟨w.heap.size,2,none⟩) zz).trans z2
  replace z3:W2.cell? ⟨w.heap.size,3,none⟩=some (.slice oc m.c.length cc):=(hb_W2.cell (p:=⟨w.heap.size,3,none⟩) zz).trans z3
  replace z4:W2.cell? ⟨w.heap.size,4,none⟩=some (.slice ot m.t.length ct):=(hb_W2.cell (p:=⟨w.heap.size,4,none⟩) zz).trans z4
  replace zz:w.heap.size < W2.heap.size:=Kbq zz hb_W2.size
  replace r0:W2.cell? ⟨w.heap.size+1,0,none⟩=some (.slice none 0 0):=(hb_W2.cell (p:=⟨w.heap.size+1,0,none⟩) zr).trans r0
  replace r1:W2.cell? ⟨w.heap.size+1,1,none⟩=some (.slice none 0 0):=(hb_W2.cell (p:=⟨w.heap.size+1,1,none⟩) zr).trans r1
  replace r2:W2.cell? ⟨w.heap.size+1,2,none⟩=some (.int .i64 0):=(hb_W2.cell (p:=⟨w.heap.size+1,2,none⟩) zr).trans r2
  replace r3:W2.cell? ⟨w.heap.size+1,3,none⟩=some (.int .i64 0):=(hb_W2.cell (p:=⟨w.heap.size+1,3,none⟩) zr).trans r3
  replace r4:W2.cell? ⟨w.heap.size+1,4,none⟩=some (.bool false):=(hb_W2.cell (p:=⟨w.heap.size+1,4,none⟩) zr).trans r4
  replace fr0:W2.frozen? ⟨w.heap.size+1,0,none⟩=false:=(hb_W2.frozen (p:=⟨w.heap.size+1,0,none⟩) zr).trans fr0
  replace fr1:W2.frozen? ⟨w.heap.size+1,1,none⟩=false:=(hb_W2.frozen (p:=⟨w.heap.size+1,1,none⟩) zr).trans fr1
  replace fr2:W2.frozen? ⟨w.heap.size+1,2,none⟩=false:=(hb_W2.frozen (p:=⟨w.heap.size+1,2,none⟩) zr).trans fr2
  replace fr3:W2.frozen? ⟨w.heap.size+1,3,none⟩=false:=(hb_W2.frozen (p:=⟨w.heap.size+1,3,none⟩) zr).trans fr3
  replace fr4:W2.frozen? ⟨w.heap.size+1,4,none⟩=false:=(hb_W2.frozen (p:=⟨w.heap.size+1,4,none⟩) zr).trans fr4
  replace zr:w.heap.size+1 < W2.heap.size:=Kbq zr hb_W2.size
  replace HO:=Q00 (Q0b HO.out hb_W2)
  replace HB:=Q00 (HB.out.trans (hb_W2.mono HB.out.size))
  clear hb_W2
  have zx:v1.heap.size < W2.heap.size:=by rw [←hW2];simp
  have x0:W2.cell? ⟨v1.heap.size,0,none⟩=some (.slice (some ⟨g,0,none⟩) m.c.length m.c.length):=by rw [←hW2];simp [go_sem]
  go_wp2_with fail
  refine (H2.out W2 HB.out).mono ?_
  rintro e v2 ⟨o2,n2,c2,rfl,hv2,hb⟩
  obtain ⟨h,rfl,rfl,rfl,hown⟩:=hv2 (by simp)
  have HP:=Q00 hown
  have hh0:=(hown.lt h rfl).1
  clear hown hv2
  have hgm:g < W2.heap.size:=by have h:=hg1;rw [←hW2];simp;omega
  replace z0:v2.cell? ⟨w.heap.size,0,none⟩=some (.int .i64 m.id):=(hb.cell (p:=⟨w.heap.size,0,none⟩) zz).trans z0
  replace z1:v2.cell? ⟨w.heap.size,1,none⟩=some (.int .i64 m.lim):=(hb.cell (p:=⟨w.heap.size,1,none⟩) zz).trans z1
  replace z2:v2.cell? ⟨w.heap.size,2,none⟩=some (.bool m.dr):=(hb.cell (p:=⟨w.heap.size,2,none⟩) zz).trans z2
  replace z3:v2.cell? ⟨w.heap.size,3,none⟩=some (.slice oc m.c.length cc):=(hb.cell (p:=⟨w.heap.size,3,none⟩) zz).trans z3
  replace z4:v2.cell? ⟨w.heap.size,4,none⟩=some (.slice ot m.t.length ct):=(hb.cell (p:=⟨w.heap.size,4,none⟩) zz).trans z4
  replace zz:w.heap.size < v2.heap.size:=Kbq zz hb.size
  replace r0:v2.cell? ⟨w.heap.size+1,0,none⟩=some (.slice none 0 0):=(hb.cell (p:=⟨w.heap.size+1,0,none⟩) zr).trans r0
  replace r1:v2.cell? ⟨w.heap.size+1,1,none⟩=some (.slice none 0 0):=(hb.cell (p:=⟨w.heap.size+1,1,none⟩) zr).trans r1
  replace r2:v2.cell? ⟨w.heap.size+1,2,none⟩=some (.int .i64 0):=(hb.cell (p:=⟨w.heap.size+1,2,none⟩) zr).trans r2
  replace r3:v2.cell? ⟨w.heap.size+1,3,none⟩=some (.int .i64 0):=(hb.cell (p:=⟨w.heap.size+1,3,none⟩) zr).trans r3
  replace r4:v2.cell? ⟨w.heap.size+1,4,none⟩=some (.bool false):=(hb.cell (p:=⟨w.heap.size+1,4,none⟩) zr).trans r4
  replace fr0:v2.frozen? ⟨w.heap.size+1,0,none⟩=false:=(hb.frozen (p:=⟨w.heap.size+1,0,none⟩) zr).trans fr0
  replace fr1:v2.frozen? ⟨w.heap.size+1,1,none⟩=false:=(hb.frozen (p:=⟨w.heap.size+1,1,none⟩) zr).trans fr1
  replace fr2:v2.frozen? ⟨w.heap.size+1,2,none⟩=false:=(hb.frozen (p:=⟨w.heap.size+1,2,none⟩) zr).trans fr2
  replace fr3:v2.frozen? ⟨w.heap.size+1,3,none⟩=false:=(hb.frozen (p:=⟨w.heap.size+1,3,none⟩) zr).trans fr3
  replace fr4:v2.frozen? ⟨w.heap.size+1,4,none⟩=false:=(hb.frozen (p:=⟨w.heap.size+1,4,none⟩) zr).trans fr4
  replace zr:w.heap.size+1 < v2.heap.size:=Kbq zr hb.size
  replace x0:v2.cell? ⟨v1.heap.size,0,none⟩=some (.slice (some ⟨g,0,none⟩) m.c.length m.c.length):=(hb.cell (p:=⟨v1.heap.size,0,none⟩) zx).trans x0
  replace zx:v1.heap.size < v2.heap.size:=Kbq zx hb.size
  replace HO:=Q00 (Q0b HO.out hb)
  replace HB:=Q00 (HB.out.trans (hb.mono HB.out.size))
  clear hb
  obtain ⟨W4,hW4⟩:∃W,(v2.alloc (.cells #[.slice (some ⟨h,0,none⟩) m.t.length m.t.length] 128))=W:=⟨_,rfl⟩
  have hb_W4:Below v2.heap.size v2 W4:=by rw [←hW4];exact ((Below.refl _ _).alloc (Kaq _) _)
  replace z0:W4.cell? ⟨w.heap.size,0,none⟩=some (.int .i64 m.id):=(hb_W4.cell (p:=⟨w.heap.size,0,none⟩) zz).trans z0
  replace z1:W4.cell? ⟨w.heap.size,1,none⟩=some (.int .i64 m.lim):=(hb_W4.cell (p:=⟨w.heap.size,1,none⟩) zz).trans z1
  replace z2:W4.cell? ⟨w.heap.size,2,none⟩=some (.bool m.dr):=(hb_W4.cell (p:=⟨w.heap.size,2,none⟩) zz).trans z2
  replace z3:W4.cell? ⟨w.heap.size,3,none⟩=some (.slice oc m.c.length cc):=(hb_W4.cell (p:=⟨w.heap.size,3,none⟩) zz).trans z3
  replace z4:W4.cell? ⟨w.heap.size,4,none⟩=some (.slice ot m.t.length ct):=(hb_W4.cell (p:=⟨w.heap.size,4,none⟩) zz).trans z4
  replace zz:w.heap.size < W4.heap.size:=Kbq zz hb_W4.size
  replace r0:W4.cell? ⟨w.heap.size+1,0,none⟩=some (.slice none 0 0):=(hb_W4.cell (p:=⟨w.heap.size+1,0,none⟩) zr).trans r0
  replace r1:W4.cell? ⟨w.heap.size+1,1,none⟩=some (.slice none 0 0):=(hb_W4.cell (p:=⟨w.heap.size+1,1,none⟩) zr).trans r1
  replace r2:W4.cell? ⟨w.heap.size+1,2,none⟩=some (.int .i64 0):=(hb_W4.cell (p:=⟨w.heap.size+1,2,none⟩) zr).trans r2
  replace r3:W4.cell? ⟨w.heap.size+1,3,none⟩=some (.int .i64 0):=(hb_W4.cell (p:=⟨w.heap.size+1,3,none⟩) zr).trans r3
  replace r4:W4.cell? ⟨w.heap.size+1,4,none⟩=some (.bool false):=(hb_W4.cell (p:=⟨w.heap.size+1,4,none⟩) zr).trans r4
  replace fr0:W4.frozen? ⟨w.heap.size+1,0,none⟩=false:=(hb_W4.frozen (p:=⟨w.heap.size+1,0,none⟩) zr).trans fr0
  replace fr1:W4.frozen? ⟨w.heap.size+1,1,none⟩=false:=(hb_W4.frozen (p:=⟨w.heap.size+1,1,none⟩) zr).trans fr1
  replace fr2:W4.frozen? ⟨w.heap.size+1,2,none⟩=false:=(hb_W4.frozen (p:=⟨w.heap.size+1,2,none⟩) zr).trans fr2
  replace fr3:W4.frozen? ⟨w.heap.size+1,3,none⟩=false:=(hb_W4.frozen (p:=⟨w.heap.size+1,3,none⟩) zr).trans fr3
  replace fr4:W4.frozen? ⟨w.heap.size+1,4,none⟩=false:=(hb_W4.frozen (p:=⟨w.heap.size+1,4,none⟩) zr).trans fr4
  replace zr:w.heap.size+1 < W4.heap.size:=Kbq zr hb_W4.size
  replace x0:W4.cell? ⟨v1.heap.size,0,none⟩=some (.slice (some ⟨g,0,none⟩) m.c.length m.c.length):=(hb_W4.cell (p:=⟨v1.heap.size,0,none⟩) zx).trans x0
  replace zx:v1.heap.size < W4.heap.size:=Kbq zx hb_W4.size
  replace HO:=Q00 (Q0b HO.out hb_W4)
  replace HP:=Q00 (Q0b HP.out hb_W4)
  replace HB:=Q00 (HB.out.trans (hb_W4.mono HB.out.size))
  clear hb_W4
  have zy:v2.heap.size < W4.heap.size:=by rw [←hW4];simp
  have y0:W4.cell? ⟨v2.heap.size,0,none⟩=some (.slice (some ⟨h,0,none⟩) m.t.length m.t.length):=by rw [←hW4];simp [go_sem]
  have hW2s:W0.heap.size≤W2.heap.size:=by omega
  have hW4s:=(HP.out.lt h rfl).2
  go_wp2_with (first|(go_at_call 74;refine (hbk _).mono ?_;rintro e w9 ⟨rfl,rfl⟩)|(go_at_call 75;refine (hli _).mono ?_;rintro e w9 ⟨rfl,rfl⟩))
  refine bodyPost_ret (v:=.tuple #[agi (.slice (some ⟨g,0,none⟩) m.c.length m.c.length) (.slice (some ⟨h,0,none⟩) m.t.length m.t.length) m.id m.lim m.dr,.bool true]) (by simp [results,Tryz.results161,go_sem,r0,r1,r2,r3,r4]) rfl ⟨_,_,_,_,_,_,_,_,_,by rw [HE.out];rfl,fun _=> ?_, ?_⟩
  ·refine ⟨g,h,W2.heap.size,rfl,InRow.mono (InRow.step (a:=W0.heap.size) (b:=W2.heap.size) ⟨HO.out,fun b e=> by simp [Value.ownBlock] at e;omega⟩ (Q3Z W4 (w.heap.size+1) _ _ _ _ _) (.inl (by omega))) (by omega) (Kaq _),InRow.mono (InRow.step (a:=W2.heap.size) (b:=W4.heap.size) ⟨HP.out,fun b e=> by simp [Value.ownBlock] at e;omega⟩ (Q3Z W4 (w.heap.size+1) _ _ _ _ _) (.inl (by omega))) (Kaq _) (by rw [Q71];exact Kaq _),by omega,by rw [Q71];omega⟩
  ·exact Q3G HB.out (by omega) _ _ _ _ _
 ·have HN:Hid (Q0O m=false):=by unfold Hid;rw [HE.out];simpa using hall
  go_enter Tryz.func161,Tryz.ntmps161
  go_wp2_with fail
  refine (h1).mono ?_
  rintro e v1 ⟨o1,n1,c1,rfl,hv1,hb⟩
  clear hv1
  replace z0:v1.cell? ⟨w.heap.size,0,none⟩=some (.int .i64 m.id):=(hb.cell (p:=⟨w.heap.size,0,none⟩) zz).trans z0
  replace z1:v1.cell? ⟨w.heap.size,1,none⟩=some (.int .i64 m.lim):=(hb.cell (p:=⟨w.heap.size,1,none⟩) zz).trans z1
  replace z2:v1.cell? ⟨w.heap.size,2,none⟩=some (.bool m.dr):=(hb.cell (p:=⟨w.heap.size,2,none⟩) zz).trans z2
  replace z3:v1.cell? ⟨w.heap.size,3,none⟩=some (.slice oc m.c.length cc):=(hb.cell (p:=⟨w.heap.size,3,none⟩) zz).trans z3
  replace z4:v1.cell? ⟨w.heap.size,4,none⟩=some (.slice ot m.t.length ct):=(hb.cell (p:=⟨w.heap.size,4,none⟩) zz).trans z4
  replace zz:w.heap.size < v1.heap.size:=Kbq zz hb.size
  replace r0:v1.cell? ⟨w.heap.size+1,0,none⟩=some (.slice none 0 0):=(hb.cell (p:=⟨w.heap.size+1,0,none⟩) zr).trans r0
  replace r1:v1.cell? ⟨w.heap.size+1,1,none⟩=some (.slice none 0 0):=(hb.cell (p:=⟨w.heap.size+1,1,none⟩) zr).trans r1
  replace r2:v1.cell? ⟨w.heap.size+1,2,none⟩=some (.int .i64 0):=(hb.cell (p:=⟨w.heap.size+1,2,none⟩) zr).trans r2
  replace r3:v1.cell? ⟨w.heap.size+1,3,none⟩=some (.int .i64 0):=(hb.cell (p:=⟨w.heap.size+1,3,none⟩) zr).trans r3
  replace r4:v1.cell? ⟨w.heap.size+1,4,none⟩=some (.bool false):=(hb.cell (p:=⟨w.heap.size+1,4,none⟩) zr).trans r4
  replace fr0:v1.frozen? ⟨w.heap.size+1,0,none⟩=false:=(hb.frozen (p:=⟨w.heap.size+1,0,none⟩) zr).trans fr0
  replace fr1:v1.frozen? ⟨w.heap.size+1,1,none⟩=false:=(hb.frozen (p:=⟨w.heap.size+1,1,none⟩) zr).trans fr1
  replace fr2:v1.frozen? ⟨w.heap.size+1,2,none⟩=false:=(hb.frozen (p:=⟨w.heap.size+1,2,none⟩) zr).trans fr2
  replace fr3:v1.frozen? ⟨w.heap.size+1,3,none⟩=false:=(hb.frozen (p:=⟨w.heap.size+1,3,none⟩) zr).trans fr3
  replace fr4:v1.frozen? ⟨w.heap.size+1,4,none⟩=false:=(hb.frozen (p:=⟨w.heap.size+1,4,none⟩) zr).trans fr4
  replace zr:w.heap.size+1 < v1.heap.size:=Kbq zr hb.size
  replace HB:=Q00 (HB.out.trans (hb.mono HB.out.size))
  clear hb
  obtain ⟨W2,hW2⟩:∃W,(v1.alloc (.cells #[.slice o1 n1 c1] 128))=W:=⟨_,rfl⟩
  have hb_W2:Below v1.heap.size v1 W2:=by rw [←hW2];exact ((Below.refl _ _).alloc (Kaq _) _)
  replace z0:W2.cell? ⟨w.heap.size,0,none⟩=some (.int .i64 m.id):=(hb_W2.cell (p:=⟨w.heap.size,0,none⟩) zz).trans z0
  replace z1:W2.cell? ⟨w.heap.size,1,none⟩=some (.int .i64 m.lim):=(hb_W2.cell (p:=⟨w.heap.size,1,none⟩) zz).trans z1
  replace z2:W2.cell? ⟨w.heap.size,2,none⟩=some (.bool m.dr):=(hb_W2.cell (p:=⟨w.heap.size,2,none⟩) zz).trans z2
  replace z3:W2.cell? ⟨w.heap.size,3,none⟩=some (.slice oc m.c.length cc):=(hb_W2.cell (p:=⟨w.heap.size,3,none⟩) zz).trans z3
  replace z4:W2.cell? ⟨w.heap.size,4,none⟩=some (.slice ot m.t.length ct):=(hb_W2.cell (p:=⟨w.heap.size,4,none⟩) zz).trans z4
  replace zz:w.heap.size < W2.heap.size:=Kbq zz hb_W2.size
  replace r0:W2.cell? ⟨w.heap.size+1,0,none⟩=some (.slice none 0 0):=(hb_W2.cell (p:=⟨w.heap.size+1,0,none⟩) zr).trans r0
  replace r1:W2.cell? ⟨w.heap.size+1,1,none⟩=some (.slice none 0 0):=(hb_W2.cell (p:=⟨w.heap.size+1,1,none⟩) zr).trans r1
  replace r2:W2.cell? ⟨w.heap.size+1,2,none⟩=some (.int .i64 0):=(hb_W2.cell (p:=⟨w.heap.size+1,2,none⟩) zr).trans r2
  replace r3:W2.cell? ⟨w.heap.size+1,3,none⟩=some (.int .i64 0):=(hb_W2.cell (p:=⟨w.heap.size+1,3,none⟩) zr).trans r3
  replace r4:W2.cell? ⟨w.heap.size+1,4,none⟩=some (.bool false):=(hb_W2.cell (p:=⟨w.heap.size+1,4,none⟩) zr).trans r4
  replace fr0:W2.frozen? ⟨w.heap.size+1,0,none⟩=false:=(hb_W2.frozen (p:=⟨w.heap.size+1,0,none⟩) zr).trans fr0
  replace fr1:W2.frozen? ⟨w.heap.size+1,1,none⟩=false:=(hb_W2.frozen (p:=⟨w.heap.size+1,1,none⟩) zr).trans fr1
  replace fr2:W2.frozen? ⟨w.heap.size+1,2,none⟩=false:=(hb_W2.frozen (p:=⟨w.heap.size+1,2,none⟩) zr).trans fr2
  replace fr3:W2.frozen? ⟨w.heap.size+1,3,none⟩=false:=(hb_W2.frozen (p:=⟨w.heap.size+1,3,none⟩) zr).trans fr3
  replace fr4:W2.frozen? ⟨w.heap.size+1,4,none⟩=false:=(hb_W2.frozen (p:=⟨w.heap.size+1,4,none⟩) zr).trans fr4
  replace zr:w.heap.size+1 < W2.heap.size:=Kbq zr hb_W2.size
  replace HB:=Q00 (HB.out.trans (hb_W2.mono HB.out.size))
  clear hb_W2
  have zx:v1.heap.size < W2.heap.size:=by rw [←hW2];simp
  have x0:W2.cell? ⟨v1.heap.size,0,none⟩=some (.slice o1 n1 c1):=by rw [←hW2];simp [go_sem]
  go_wp2_with fail
  refine (H2.out W2 HB.out).mono ?_
  rintro e v2 ⟨o2,n2,c2,rfl,hv2,hb⟩
  clear hv2
  replace z0:v2.cell? ⟨w.heap.size,0,none⟩=some (.int .i64 m.id):=(hb.cell (p:=⟨w.heap.size,0,none⟩) zz).trans z0
  replace z1:v2.cell? ⟨w.heap.size,1,none⟩=some (.int .i64 m.lim):=(hb.cell (p:=⟨w.heap.size,1,none⟩) zz).trans z1
  replace z2:v2.cell? ⟨w.heap.size,2,none⟩=some (.bool m.dr):=(hb.cell (p:=⟨w.heap.size,2,none⟩) zz).trans z2
  replace z3:v2.cell? ⟨w.heap.size,3,none⟩=some (.slice oc m.c.length cc):=(hb.cell (p:=⟨w.heap.size,3,none⟩) zz).trans z3
  replace z4:v2.cell? ⟨w.heap.size,4,none⟩=some (.slice ot m.t.length ct):=(hb.cell (p:=⟨w.heap.size,4,none⟩) zz).trans z4
  replace zz:w.heap.size < v2.heap.size:=Kbq zz hb.size
  replace r0:v2.cell? ⟨w.heap.size+1,0,none⟩=some (.slice none 0 0):=(hb.cell (p:=⟨w.heap.size+1,0,none⟩) zr).trans r0
  replace r1:v2.cell? ⟨w.heap.size+1,1,none⟩=some (.slice none 0 0):=(hb.cell (p:=⟨w.heap.size+1,1,none⟩) zr).trans r1
  replace r2:v2.cell? ⟨w.heap.size+1,2,none⟩=some (.int .i64 0):=(hb.cell (p:=⟨w.heap.size+1,2,none⟩) zr).trans r2
  replace r3:v2.cell? ⟨w.heap.size+1,3,none⟩=some (.int .i64 0):=(hb.cell (p:=⟨w.heap.size+1,3,none⟩) zr).trans r3
  replace r4:v2.cell? ⟨w.heap.size+1,4,none⟩=some (.bool false):=(hb.cell (p:=⟨w.heap.size+1,4,none⟩) zr).trans r4
  replace fr0:v2.frozen? ⟨w.heap.size+1,0,none⟩=false:=(hb.frozen (p:=⟨w.heap.size+1,0,none⟩) zr).trans fr0
  replace fr1:v2.frozen? ⟨w.heap.size+1,1,none⟩=false:=(hb.frozen (p:=⟨w.heap.size+1,1,none⟩) zr).trans fr1
  replace fr2:v2.frozen? ⟨w.heap.size+1,2,none⟩=false:=(hb.frozen (p:=⟨w.heap.size+1,2,none⟩) zr).trans fr2
  replace fr3:v2.frozen? ⟨w.heap.size+1,3,none⟩=false:=(hb.frozen (p:=⟨w.heap.size+1,3,none⟩) zr).trans fr3
  replace fr4:v2.frozen? ⟨w.heap.size+1,4,none⟩=false:=(hb.frozen (p:=⟨w.heap.size+1,4,none⟩) zr).trans fr4
  replace zr:w.heap.size+1 < v2.heap.size:=Kbq zr hb.size
  replace x0:v2.cell? ⟨v1.heap.size,0,none⟩=some (.slice o1 n1 c1):=(hb.cell (p:=⟨v1.heap.size,0,none⟩) zx).trans x0
  replace zx:v1.heap.size < v2.heap.size:=Kbq zx hb.size
  replace HB:=Q00 (HB.out.trans (hb.mono HB.out.size))
  clear hb
  obtain ⟨W4,hW4⟩:∃W,(v2.alloc (.cells #[.slice o2 n2 c2] 128))=W:=⟨_,rfl⟩
  have hb_W4:Below v2.heap.size v2 W4:=by rw [←hW4];exact ((Below.refl _ _).alloc (Kaq _) _)
  replace z0:W4.cell? ⟨w.heap.size,0,none⟩=some (.int .i64 m.id):=(hb_W4.cell (p:=⟨w.heap.size,0,none⟩) zz).trans z0
  replace z1:W4.cell? ⟨w.heap.size,1,none⟩=some (.int .i64 m.lim):=(hb_W4.cell (p:=⟨w.heap.size,1,none⟩) zz).trans z1
  replace z2:W4.cell? ⟨w.heap.size,2,none⟩=some (.bool m.dr):=(hb_W4.cell (p:=⟨w.heap.size,2,none⟩) zz).trans z2
  replace z3:W4.cell? ⟨w.heap.size,3,none⟩=some (.slice oc m.c.length cc):=(hb_W4.cell (p:=⟨w.heap.size,3,none⟩) zz).trans z3
  replace z4:W4.cell? ⟨w.heap.size,4,none⟩=some (.slice ot m.t.length ct):=(hb_W4.cell (p:=⟨w.heap.size,4,none⟩) zz).trans z4
  replace zz:w.heap.size < W4.heap.size:=Kbq zz hb_W4.size
  replace r0:W4.cell? ⟨w.heap.size+1,0,none⟩=some (.slice none 0 0):=(hb_W4.cell (p:=⟨w.heap.size+1,0,none⟩) zr).trans r0
  replace r1:W4.cell? ⟨w.heap.size+1,1,none⟩=some (.slice none 0 0):=(hb_W4.cell (p:=⟨w.heap.size+1,1,none⟩) zr).trans r1
  replace r2:W4.cell? ⟨w.heap.size+1,2,none⟩=some (.int .i64 0):=(hb_W4.cell (p:=⟨w.heap.size+1,2,none⟩) zr).trans r2
  replace r3:W4.cell? ⟨w.heap.size+1,3,none⟩=some (.int .i64 0):=(hb_W4.cell (p:=⟨w.heap.size+1,3,none⟩) zr).trans r3
  replace r4:W4.cell? ⟨w.heap.size+1,4,none⟩=some (.bool false):=(hb_W4.cell (p:=⟨w.heap.size+1,4,none⟩) zr).trans r4
  replace fr0:W4.frozen? ⟨w.heap.size+1,0,none⟩=false:=(hb_W4.frozen (p:=⟨w.heap.size+1,0,none⟩) zr).trans fr0
  replace fr1:W4.frozen? ⟨w.heap.size+1,1,none⟩=false:=(hb_W4.frozen (p:=⟨w.heap.size+1,1,none⟩) zr).trans fr1
  replace fr2:W4.frozen? ⟨w.heap.size+1,2,none⟩=false:=(hb_W4.frozen (p:=⟨w.heap.size+1,2,none⟩) zr).trans fr2
  replace fr3:W4.frozen? ⟨w.heap.size+1,3,none⟩=false:=(hb_W4.frozen (p:=⟨w.heap.size+1,3,none⟩) zr).trans fr3
  replace fr4:W4.frozen? ⟨w.heap.size+1,4,none⟩=false:=(hb_W4.frozen (p:=⟨w.heap.size+1,4,none⟩) zr).trans fr4
  replace zr:w.heap.size+1 < W4.heap.size:=Kbq zr hb_W4.size
  replace x0:W4.cell? ⟨v1.heap.size,0,none⟩=some (.slice o1 n1 c1):=(hb_W4.cell (p:=⟨v1.heap.size,0,none⟩) zx).trans x0
  replace zx:v1.heap.size < W4.heap.size:=Kbq zx hb_W4.size
  replace HB:=Q00 (HB.out.trans (hb_W4.mono HB.out.size))
  clear hb_W4
  have zy:v2.heap.size < W4.heap.size:=by rw [←hW4];simp
  have y0:W4.cell? ⟨v2.heap.size,0,none⟩=some (.slice o2 n2 c2):=by rw [←hW4];simp [go_sem]
  clear HE
  cases t1 <;> cases t2 <;> cases bk <;> cases bl <;> first|(exfalso;simp at hall;done)|skip
  all_goals (
   clear hall
   go_wp2_with (first|(go_at_call 74;refine (hbk _).mono ?_;rintro e w9 ⟨rfl,rfl⟩)|(go_at_call 75;refine (hli _).mono ?_;rintro e w9 ⟨rfl,rfl⟩))
   refine bodyPost_ret (v:=.tuple #[agi (.slice none 0 0) (.slice none 0 0) 0 0 false,.bool false]) (by simp [results,Tryz.results161,go_sem,r0,r1,r2,r3,r4]) rfl ⟨_,_,_,_,_,_,_,_,_,by rw [HN.out],fun h=> absurd (h.symm.trans HN.out) (by decide),Q3G HB.out (by omega) _ _ _ _ _⟩)
theorem Q8f {l:List Sl} {a p:Int} (h:(Q2w l a p).2=false):Qfo l a p=sl0:=by unfold Qfo;rw [h];rfl
theorem Qb0 {l:List Sl} {a p:Int} {k:Nat} (h:Q2w l a p=((k:Int),true)):Qfo l a p=l.getD k sl0:=by unfold Qfo;rw [h];simp
theorem Qdo (b off c:Nat) (l:List Sl) (a p:Int) (w:World) (hn:0 < l.length) (hl:l.length≤1048576) (hf:Q0h a p=true) (hbl:b < w.heap.size) (hc:∀i,i < l.length→∀j,j < Q0w.k→w.cell? ⟨b,off+i * Q0w.k+j,none⟩=(Q0w.cs (l.getD i Q0w.d))[j]?):
  Calls Tryz.prog 135 #[tab (.slice (some ⟨b,off,none⟩) l.length c),Q6O a p] w fun e w'=> e=.returned (.tuple #[slot (Qfo l a p),.bool (Q2w l a p).2])∧Below w.heap.size w w':=by
 have HC:=Q00 hc
 clear hc
 obtain ⟨W0,hW0⟩:∃W,(((w.alloc (.cells #[.slice (some ⟨b,off,none⟩) l.length c] 49)).alloc (.cells #[.int .i64 a,.int .i64 p] 75)).alloc (.cells #[.bool false,.int .i64 0,.int .i64 0,.int .i64 0,.int .i64 0] 165))=W:=⟨_,rfl⟩
 have hb_W0:Below w.heap.size w W0:=by rw [←hW0];exact ((((Below.refl _ _).alloc (Kaq _) _).alloc (by simp <;> omega) _).alloc (by simp <;> omega) _)
 have HB:=Q00 hb_W0
 clear hb_W0
 have zct:w.heap.size < W0.heap.size:=by rw [←hW0];simp <;> omega
 have ct0:W0.cell? ⟨w.heap.size,0,none⟩=some (.slice (some ⟨b,off,none⟩) l.length c):=by rw [←hW0];simp [go_sem]
 have zcf:w.heap.size+1 < W0.heap.size:=by rw [←hW0];simp <;> omega
 have cf0:W0.cell? ⟨w.heap.size+1,0,none⟩=some (.int .i64 a):=by rw [←hW0];simp [go_sem]
 have cf1:W0.cell? ⟨w.heap.size+1,1,none⟩=some (.int .i64 p):=by rw [←hW0];simp [go_sem]
 have zcr:w.heap.size+1+1 < W0.heap.size:=by rw [←hW0];simp
 have cr0:W0.cell? ⟨w.heap.size+1+1,0,none⟩=some (.bool false):=by rw [←hW0];simp [go_sem]
 have cr1:W0.cell? ⟨w.heap.size+1+1,1,none⟩=some (.int .i64 0):=by rw [←hW0];simp [go_sem]
 have cr2:W0.cell? ⟨w.heap.size+1+1,2,none⟩=some (.int .i64 0):=by rw [←hW0];simp [go_sem]
 have cr3:W0.cell? ⟨w.heap.size+1+1,3,none⟩=some (.int .i64 0):=by rw [←hW0];simp [go_sem]
 have cr4:W0.cell? ⟨w.heap.size+1+1,4,none⟩=some (.int .i64 0):=by rw [←hW0];simp [go_sem]
 have fcr0:W0.frozen? ⟨w.heap.size+1+1,0,none⟩=false:=by rw [←hW0];simp [go_sem]
 have fcr1:W0.frozen? ⟨w.heap.size+1+1,1,none⟩=false:=by rw [←hW0];simp [go_sem]
 have fcr2:W0.frozen? ⟨w.heap.size+1+1,2,none⟩=false:=by rw [←hW0];simp [go_sem]
 have fcr3:W0.frozen? ⟨w.heap.size+1+1,3,none⟩=false:=by rw [←hW0];simp [go_sem]
 have fcr4:W0.frozen? ⟨w.heap.size+1+1,4,none⟩=false:=by rw [←hW0];simp [go_sem]
 have hat:=Qb9 (some ⟨b,off,none⟩) c l a p W0 (.inr ⟨b,off,rfl,Kbq hbl HB.out.size,(fun i hi j hj=> (HB.out.cell (p:=⟨b,off+i * Q0w.k+j,none⟩) hbl).trans (HC.out i hi j hj))⟩) hn hl hf
 rcases Q4O l hn a p with hE|⟨k,hk,⟨hE,_⟩|⟨hE,_⟩⟩
 ·skip
  have HM:=Q00 (Q8f (l:=l) (a:=a) (p:=p) (by rw [hE]))
  have HE:=Q00 hE
  rw [hE] at hat
  clear hE
  go_enter Tryz.func135,Tryz.ntmps135
  go_wp2_with fail
  refine (hat).mono ?_
  rintro e v1 ⟨rfl,hb⟩
  replace ct0:v1.cell? ⟨w.heap.size,0,none⟩=some (.slice (some ⟨b,off,none⟩) l.length c):=(hb.cell (p:=⟨w.heap.size,0,none⟩) zct).trans ct0
  replace zct:w.heap.size < v1.heap.size:=Kbq zct hb.size
  replace cf0:v1.cell? ⟨w.heap.size+1,0,none⟩=some (.int .i64 a):=(hb.cell (p:=⟨w.heap.size+1,0,none⟩) zcf).trans cf0
  replace cf1:v1.cell? ⟨w.heap.size+1,1,none⟩=some (.int .i64 p):=(hb.cell (p:=⟨w.heap.size+1,1,none⟩) zcf).trans cf1
  replace zcf:w.heap.size+1 < v1.heap.size:=Kbq zcf hb.size
  replace cr0:v1.cell? ⟨w.heap.size+1+1,0,none⟩=some (.bool false):=(hb.cell (p:=⟨w.heap.size+1+1,0,none⟩) zcr).trans cr0
  replace cr1:v1.cell? ⟨w.heap.size+1+1,1,none⟩=some (.int .i64 0):=(hb.cell (p:=⟨w.heap.size+1+1,1,none⟩) zcr).trans cr1
  replace cr2:v1.cell? ⟨w.heap.size+1+1,2,none⟩=some (.int .i64 0):=(hb.cell (p:=⟨w.heap.size+1+1,2,none⟩) zcr).trans cr2
  replace cr3:v1.cell? ⟨w.heap.size+1+1,3,none⟩=some (.int .i64 0):=(hb.cell (p:=⟨w.heap.size+1+1,3,none⟩) zcr).trans cr3
  replace cr4:v1.cell? ⟨w.heap.size+1+1,4,none⟩=some (.int .i64 0):=(hb.cell (p:=⟨w.heap.size+1+1,4,none⟩) zcr).trans cr4
  replace fcr0:v1.frozen? ⟨w.heap.size+1+1,0,none⟩=false:=(hb.frozen (p:=⟨w.heap.size+1+1,0,none⟩) zcr).trans fcr0
  replace fcr1:v1.frozen? ⟨w.heap.size+1+1,1,none⟩=false:=(hb.frozen (p:=⟨w.heap.size+1+1,1,none⟩) zcr).trans fcr1
  replace fcr2:v1.frozen? ⟨w.heap.size+1+1,2,none⟩=false:=(hb.frozen (p:=⟨w.heap.size+1+1,2,none⟩) zcr).trans fcr2
  replace fcr3:v1.frozen? ⟨w.heap.size+1+1,3,none⟩=false:=(hb.frozen (p:=⟨w.heap.size+1+1,3,none⟩) zcr).trans fcr3
  replace fcr4:v1.frozen? ⟨w.heap.size+1+1,4,none⟩=false:=(hb.frozen (p:=⟨w.heap.size+1+1,4,none⟩) zcr).trans fcr4
  replace zcr:w.heap.size+1+1 < v1.heap.size:=Kbq zcr hb.size
  replace HB:=Q00 (HB.out.trans (hb.mono HB.out.size))
  clear hb
  clear hat
  go_wp2
  refine bodyPost_ret (v:=.tuple #[slot sl0,.bool false]) (by simp [results,Tryz.results135,go_sem,cr0,cr1,cr2,cr3,cr4]) rfl ⟨by rw [HM.out,HE.out],Q1T (s:=sl0) HB.out (by omega)⟩
 ·skip
  have HM:=Q00 (Q8f (l:=l) (a:=a) (p:=p) (by rw [hE]))
  have HE:=Q00 hE
  rw [hE] at hat
  clear hE
  go_enter Tryz.func135,Tryz.ntmps135
  go_wp2_with fail
  refine (hat).mono ?_
  rintro e v1 ⟨rfl,hb⟩
  replace ct0:v1.cell? ⟨w.heap.size,0,none⟩=some (.slice (some ⟨b,off,none⟩) l.length c):=(hb.cell (p:=⟨w.heap.size,0,none⟩) zct).trans ct0
  replace zct:w.heap.size < v1.heap.size:=Kbq zct hb.size
  replace cf0:v1.cell? ⟨w.heap.size+1,0,none⟩=some (.int .i64 a):=(hb.cell (p:=⟨w.heap.size+1,0,none⟩) zcf).trans cf0
  replace cf1:v1.cell? ⟨w.heap.size+1,1,none⟩=some (.int .i64 p):=(hb.cell (p:=⟨w.heap.size+1,1,none⟩) zcf).trans cf1
  replace zcf:w.heap.size+1 < v1.heap.size:=Kbq zcf hb.size
  replace cr0:v1.cell? ⟨w.heap.size+1+1,0,none⟩=some (.bool false):=(hb.cell (p:=⟨w.heap.size+1+1,0,none⟩) zcr).trans cr0
  replace cr1:v1.cell? ⟨w.heap.size+1+1,1,none⟩=some (.int .i64 0):=(hb.cell (p:=⟨w.heap.size+1+1,1,none⟩) zcr).trans cr1
  replace cr2:v1.cell? ⟨w.heap.size+1+1,2,none⟩=some (.int .i64 0):=(hb.cell (p:=⟨w.heap.size+1+1,2,none⟩) zcr).trans cr2
  replace cr3:v1.cell? ⟨w.heap.size+1+1,3,none⟩=some (.int .i64 0):=(hb.cell (p:=⟨w.heap.size+1+1,3,none⟩) zcr).trans cr3
  replace cr4:v1.cell? ⟨w.heap.size+1+1,4,none⟩=some (.int .i64 0):=(hb.cell (p:=⟨w.heap.size+1+1,4,none⟩) zcr).trans cr4
  replace fcr0:v1.frozen? ⟨w.heap.size+1+1,0,none⟩=false:=(hb.frozen (p:=⟨w.heap.size+1+1,0,none⟩) zcr).trans fcr0
  replace fcr1:v1.frozen? ⟨w.heap.size+1+1,1,none⟩=false:=(hb.frozen (p:=⟨w.heap.size+1+1,1,none⟩) zcr).trans fcr1
  replace fcr2:v1.frozen? ⟨w.heap.size+1+1,2,none⟩=false:=(hb.frozen (p:=⟨w.heap.size+1+1,2,none⟩) zcr).trans fcr2
  replace fcr3:v1.frozen? ⟨w.heap.size+1+1,3,none⟩=false:=(hb.frozen (p:=⟨w.heap.size+1+1,3,none⟩) zcr).trans fcr3
  replace fcr4:v1.frozen? ⟨w.heap.size+1+1,4,none⟩=false:=(hb.frozen (p:=⟨w.heap.size+1+1,4,none⟩) zcr).trans fcr4
  replace zcr:w.heap.size+1+1 < v1.heap.size:=Kbq zcr hb.size
  replace HB:=Q00 (HB.out.trans (hb.mono HB.out.size))
  clear hb
  clear hat
  go_wp2
  refine bodyPost_ret (v:=.tuple #[slot sl0,.bool false]) (by simp [results,Tryz.results135,go_sem,cr0,cr1,cr2,cr3,cr4]) rfl ⟨by rw [HM.out,HE.out],Q1T (s:=sl0) HB.out (by omega)⟩
 ·skip
  have HM:=Q00 (Qb0 hE)
  have HE:=Q00 hE
  rw [hE] at hat
  clear hE
  have hcx:=RdL.slot (C:=w.heap.size) HC.out k hk
  obtain ⟨s,hxy⟩:∃s,l.getD k sl0=s:=⟨_,rfl⟩
  rw [hxy] at hcx HM
  clear hxy
  have hk':(k:Int) < (l.length:Int):=by omega
  go_enter Tryz.func135,Tryz.ntmps135
  go_wp2_with fail
  refine (hat).mono ?_
  rintro e v1 ⟨rfl,hb⟩
  replace ct0:v1.cell? ⟨w.heap.size,0,none⟩=some (.slice (some ⟨b,off,none⟩) l.length c):=(hb.cell (p:=⟨w.heap.size,0,none⟩) zct).trans ct0
  replace zct:w.heap.size < v1.heap.size:=Kbq zct hb.size
  replace cf0:v1.cell? ⟨w.heap.size+1,0,none⟩=some (.int .i64 a):=(hb.cell (p:=⟨w.heap.size+1,0,none⟩) zcf).trans cf0
  replace cf1:v1.cell? ⟨w.heap.size+1,1,none⟩=some (.int .i64 p):=(hb.cell (p:=⟨w.heap.size+1,1,none⟩) zcf).trans cf1
  replace zcf:w.heap.size+1 < v1.heap.size:=Kbq zcf hb.size
  replace cr0:v1.cell? ⟨w.heap.size+1+1,0,none⟩=some (.bool false):=(hb.cell (p:=⟨w.heap.size+1+1,0,none⟩) zcr).trans cr0
  replace cr1:v1.cell? ⟨w.heap.size+1+1,1,none⟩=some (.int .i64 0):=(hb.cell (p:=⟨w.heap.size+1+1,1,none⟩) zcr).trans cr1
  replace cr2:v1.cell? ⟨w.heap.size+1+1,2,none⟩=some (.int .i64 0):=(hb.cell (p:=⟨w.heap.size+1+1,2,none⟩) zcr).trans cr2
  replace cr3:v1.cell? ⟨w.heap.size+1+1,3,none⟩=some (.int .i64 0):=(hb.cell (p:=⟨w.heap.size+1+1,3,none⟩) zcr).trans cr3
  replace cr4:v1.cell? ⟨w.heap.size+1+1,4,none⟩=some (.int .i64 0):=(hb.cell (p:=⟨w.heap.size+1+1,4,none⟩) zcr).trans cr4
  replace fcr0:v1.frozen? ⟨w.heap.size+1+1,0,none⟩=false:=(hb.frozen (p:=⟨w.heap.size+1+1,0,none⟩) zcr).trans fcr0
  replace fcr1:v1.frozen? ⟨w.heap.size+1+1,1,none⟩=false:=(hb.frozen (p:=⟨w.heap.size+1+1,1,none⟩) zcr).trans fcr1
  replace fcr2:v1.frozen? ⟨w.heap.size+1+1,2,none⟩=false:=(hb.frozen (p:=⟨w.heap.size+1+1,2,none⟩) zcr).trans fcr2
  replace fcr3:v1.frozen? ⟨w.heap.size+1+1,3,none⟩=false:=(hb.frozen (p:=⟨w.heap.size+1+1,3,none⟩) zcr).trans fcr3
  replace fcr4:v1.frozen? ⟨w.heap.size+1+1,4,none⟩=false:=(hb.frozen (p:=⟨w.heap.size+1+1,4,none⟩) zcr).trans fcr4
  replace zcr:w.heap.size+1+1 < v1.heap.size:=Kbq zcr hb.size
  replace HB:=Q00 (HB.out.trans (hb.mono HB.out.size))
  clear hb
  have e0:=(HB.out.cell (p:=⟨b,off+k * 5,none⟩) hbl).trans hcx.1
  have e1:=(HB.out.cell (p:=⟨b,off+k * 5+1,none⟩) hbl).trans hcx.2.1
  have e2:=(HB.out.cell (p:=⟨b,off+k * 5+2,none⟩) hbl).trans hcx.2.2.1
  have e3:=(HB.out.cell (p:=⟨b,off+k * 5+3,none⟩) hbl).trans hcx.2.2.2.1
  have e4:=(HB.out.cell (p:=⟨b,off+k * 5+4,none⟩) hbl).trans hcx.2.2.2.2
  clear hat hcx
  go_wp2
  refine bodyPost_ret (v:=.tuple #[slot s,.bool true]) (by simp [results,Tryz.results135,go_sem,cr0,cr1,cr2,cr3,cr4]) rfl ⟨by rw [HM.out,HE.out],Q1T (s:=s) HB.out (by omega)⟩
theorem QfN (b off c:Nat) (l:List Sl) (a p:Int) (w:World) (hn:0 < l.length) (hl:l.length≤1048576) (hf:Q0h a p=true) (hbl:b < w.heap.size) (hc:∀i,i < l.length→∀j,j < Q0w.k→w.cell? ⟨b,off+i * Q0w.k+j,none⟩=(Q0w.cs (l.getD i Q0w.d))[j]?):
  Calls Tryz.prog 184 #[tab (.slice (some ⟨b,off,none⟩) l.length c),Q6O a p] w fun e w'=> e=.returned (.tuple #[slot (Qfo l a p),.bool (Q2w l a p).2])∧Below w.heap.size w w':=by
 have HC:=Q00 hc
 clear hc
 obtain ⟨W0,hW0⟩:∃W,(((w.alloc (.cells #[.slice (some ⟨b,off,none⟩) l.length c] 128)).alloc (.cells #[.int .i64 a,.int .i64 p] 75)).alloc (.cells #[.bool false,.int .i64 0,.int .i64 0,.int .i64 0,.int .i64 0] 262))=W:=⟨_,rfl⟩
 have hb_W0:Below w.heap.size w W0:=by rw [←hW0];exact ((((Below.refl _ _).alloc (Kaq _) _).alloc (by simp <;> omega) _).alloc (by simp <;> omega) _)
 have HB:=Q00 hb_W0
 clear hb_W0
 have zct:w.heap.size < W0.heap.size:=by rw [←hW0];simp <;> omega
 have ct0:W0.cell? ⟨w.heap.size,0,none⟩=some (.slice (some ⟨b,off,none⟩) l.length c):=by rw [←hW0];simp [go_sem]
 have zcf:w.heap.size+1 < W0.heap.size:=by rw [←hW0];simp <;> omega
 have cf0:W0.cell? ⟨w.heap.size+1,0,none⟩=some (.int .i64 a):=by rw [←hW0];simp [go_sem]
 have cf1:W0.cell? ⟨w.heap.size+1,1,none⟩=some (.int .i64 p):=by rw [←hW0];simp [go_sem]
 have zcr:w.heap.size+1+1 < W0.heap.size:=by rw [←hW0];simp
 have cr0:W0.cell? ⟨w.heap.size+1+1,0,none⟩=some (.bool false):=by rw [←hW0];simp [go_sem]
 have cr1:W0.cell? ⟨w.heap.size+1+1,1,none⟩=some (.int .i64 0):=by rw [←hW0];simp [go_sem]
 have cr2:W0.cell? ⟨w.heap.size+1+1,2,none⟩=some (.int .i64 0):=by rw [←hW0];simp [go_sem]
 have cr3:W0.cell? ⟨w.heap.size+1+1,3,none⟩=some (.int .i64 0):=by rw [←hW0];simp [go_sem]
 have cr4:W0.cell? ⟨w.heap.size+1+1,4,none⟩=some (.int .i64 0):=by rw [←hW0];simp [go_sem]
 have fcr0:W0.frozen? ⟨w.heap.size+1+1,0,none⟩=false:=by rw [←hW0];simp [go_sem]
 have fcr1:W0.frozen? ⟨w.heap.size+1+1,1,none⟩=false:=by rw [←hW0];simp [go_sem]
 have fcr2:W0.frozen? ⟨w.heap.size+1+1,2,none⟩=false:=by rw [←hW0];simp [go_sem]
 have fcr3:W0.frozen? ⟨w.heap.size+1+1,3,none⟩=false:=by rw [←hW0];simp [go_sem]
 have fcr4:W0.frozen? ⟨w.heap.size+1+1,4,none⟩=false:=by rw [←hW0];simp [go_sem]
 have hat:=Q52 b off c l a p W0 hn hl hf (Kbq hbl HB.out.size) (fun i hi j hj=> (HB.out.cell (p:=⟨b,off+i * Q0w.k+j,none⟩) hbl).trans (HC.out i hi j hj))
 rcases Q4O l hn a p with hE|⟨k,hk,⟨hE,_⟩|⟨hE,_⟩⟩
 ·skip
  have HM:=Q00 (Q8f (l:=l) (a:=a) (p:=p) (by rw [hE]))
  have HE:=Q00 hE
  rw [hE] at hat
  clear hE
  go_enter Tryz.func184,Tryz.ntmps184
  go_wp2_with fail
  refine (hat).mono ?_
  rintro e v1 ⟨rfl,hb⟩
  replace ct0:v1.cell? ⟨w.heap.size,0,none⟩=some (.slice (some ⟨b,off,none⟩) l.length c):=(hb.cell (p:=⟨w.heap.size,0,none⟩) zct).trans ct0
  replace zct:w.heap.size < v1.heap.size:=Kbq zct hb.size
  replace cf0:v1.cell? ⟨w.heap.size+1,0,none⟩=some (.int .i64 a):=(hb.cell (p:=⟨w.heap.size+1,0,none⟩) zcf).trans cf0
  replace cf1:v1.cell? ⟨w.heap.size+1,1,none⟩=some (.int .i64 p):=(hb.cell (p:=⟨w.heap.size+1,1,none⟩) zcf).trans cf1
  replace zcf:w.heap.size+1 < v1.heap.size:=Kbq zcf hb.size
  replace cr0:v1.cell? ⟨w.heap.size+1+1,0,none⟩=some (.bool false):=(hb.cell (p:=⟨w.heap.size+1+1,0,none⟩) zcr).trans cr0
  replace cr1:v1.cell? ⟨w.heap.size+1+1,1,none⟩=some (.int .i64 0):=(hb.cell (p:=⟨w.heap.size+1+1,1,none⟩) zcr).trans cr1
  replace cr2:v1.cell? ⟨w.heap.size+1+1,2,none⟩=some (.int .i64 0):=(hb.cell (p:=⟨w.heap.size+1+1,2,none⟩) zcr).trans cr2
  replace cr3:v1.cell? ⟨w.heap.size+1+1,3,none⟩=some (.int .i64 0):=(hb.cell (p:=⟨w.heap.size+1+1,3,none⟩) zcr).trans cr3
  replace cr4:v1.cell? ⟨w.heap.size+1+1,4,none⟩=some (.int .i64 0):=(hb.cell (p:=⟨w.heap.size+1+1,4,none⟩) zcr).trans cr4
  replace fcr0:v1.frozen? ⟨w.heap.size+1+1,0,none⟩=false:=(hb.frozen (p:=⟨w.heap.size+1+1,0,none⟩) zcr).trans fcr0
  replace fcr1:v1.frozen? ⟨w.heap.size+1+1,1,none⟩=false:=(hb.frozen (p:=⟨w.heap.size+1+1,1,none⟩) zcr).trans fcr1
  replace fcr2:v1.frozen? ⟨w.heap.size+1+1,2,none⟩=false:=(hb.frozen (p:=⟨w.heap.size+1+1,2,none⟩) zcr).trans fcr2
  replace fcr3:v1.frozen? ⟨w.heap.size+1+1,3,none⟩=false:=(hb.frozen (p:=⟨w.heap.size+1+1,3,none⟩) zcr).trans fcr3
  replace fcr4:v1.frozen? ⟨w.heap.size+1+1,4,none⟩=false:=(hb.frozen (p:=⟨w.heap.size+1+1,4,none⟩) zcr).trans fcr4
  replace zcr:w.heap.size+1+1 < v1.heap.size:=Kbq zcr hb.size
  replace HB:=Q00 (HB.out.trans (hb.mono HB.out.size))
  clear hb
  clear hat
  go_wp2
  refine bodyPost_ret (v:=.tuple #[slot sl0,.bool false]) (by simp [results,Tryz.results184,go_sem,cr0,cr1,cr2,cr3,cr4]) rfl ⟨by rw [HM.out,HE.out],Q1T (s:=sl0) HB.out (by omega)⟩
 ·skip
  have HM:=Q00 (Q8f (l:=l) (a:=a) (p:=p) (by rw [hE]))
  have HE:=Q00 hE
  rw [hE] at hat
  clear hE
  go_enter Tryz.func184,Tryz.ntmps184
  go_wp2_with fail
  refine (hat).mono ?_
  rintro e v1 ⟨rfl,hb⟩
  replace ct0:v1.cell? ⟨w.heap.size,0,none⟩=some (.slice (some ⟨b,off,none⟩) l.length c):=(hb.cell (p:=⟨w.heap.size,0,none⟩) zct).trans ct0
  replace zct:w.heap.size < v1.heap.size:=Kbq zct hb.size
  replace cf0:v1.cell? ⟨w.heap.size+1,0,none⟩=some (.int .i64 a):=(hb.cell (p:=⟨w.heap.size+1,0,none⟩) zcf).trans cf0
  replace cf1:v1.cell? ⟨w.heap.size+1,1,none⟩=some (.int .i64 p):=(hb.cell (p:=⟨w.heap.size+1,1,none⟩) zcf).trans cf1
  replace zcf:w.heap.size+1 < v1.heap.size:=Kbq zcf hb.size
  replace cr0:v1.cell? ⟨w.heap.size+1+1,0,none⟩=some (.bool false):=(hb.cell (p:=⟨w.heap.size+1+1,0,none⟩) zcr).trans cr0
  replace cr1:v1.cell? ⟨w.heap.size+1+1,1,none⟩=some (.int .i64 0):=(hb.cell (p:=⟨w.heap.size+1+1,1,none⟩) zcr).trans cr1
  replace cr2:v1.cell? ⟨w.heap.size+1+1,2,none⟩=some (.int .i64 0):=(hb.cell (p:=⟨w.heap.size+1+1,2,none⟩) zcr).trans cr2
  replace cr3:v1.cell? ⟨w.heap.size+1+1,3,none⟩=some (.int .i64 0):=(hb.cell (p:=⟨w.heap.size+1+1,3,none⟩) zcr).trans cr3
  replace cr4:v1.cell? ⟨w.heap.size+1+1,4,none⟩=some (.int .i64 0):=(hb.cell (p:=⟨w.heap.size+1+1,4,none⟩) zcr).trans cr4
  replace fcr0:v1.frozen? ⟨w.heap.size+1+1,0,none⟩=false:=(hb.frozen (p:=⟨w.heap.size+1+1,0,none⟩) zcr).trans fcr0
  replace fcr1:v1.frozen? ⟨w.heap.size+1+1,1,none⟩=false:=(hb.frozen (p:=⟨w.heap.size+1+1,1,none⟩) zcr).trans fcr1
  replace fcr2:v1.frozen? ⟨w.heap.size+1+1,2,none⟩=false:=(hb.frozen (p:=⟨w.heap.size+1+1,2,none⟩) zcr).trans fcr2
  replace fcr3:v1.frozen? ⟨w.heap.size+1+1,3,none⟩=false:=(hb.frozen (p:=⟨w.heap.size+1+1,3,none⟩) zcr).trans fcr3
  replace fcr4:v1.frozen? ⟨w.heap.size+1+1,4,none⟩=false:=(hb.frozen (p:=⟨w.heap.size+1+1,4,none⟩) zcr).trans fcr4
  replace zcr:w.heap.size+1+1 < v1.heap.size:=Kbq zcr hb.size
  replace HB:=Q00 (HB.out.trans (hb.mono HB.out.size))
  clear hb
  clear hat
  go_wp2
  refine bodyPost_ret (v:=.tuple #[slot sl0,.bool false]) (by simp [results,Tryz.results184,go_sem,cr0,cr1,cr2,cr3,cr4]) rfl ⟨by rw [HM.out,HE.out],Q1T (s:=sl0) HB.out (by omega)⟩
 ·skip
  have HM:=Q00 (Qb0 hE)
  have HE:=Q00 hE
  rw [hE] at hat
  clear hE
  have hcx:=RdL.slot (C:=w.heap.size) HC.out k hk
  obtain ⟨s,hxy⟩:∃s,l.getD k sl0=s:=⟨_,rfl⟩
  rw [hxy] at hcx HM
  clear hxy
  have hk':(k:Int) < (l.length:Int):=by omega
  go_enter Tryz.func184,Tryz.ntmps184
  go_wp2_with fail
  refine (hat).mono ?_
  rintro e v1 ⟨rfl,hb⟩
  replace ct0:v1.cell? ⟨w.heap.size,0,none⟩=some (.slice (some ⟨b,off,none⟩) l.length c):=(hb.cell (p:=⟨w.heap.size,0,none⟩) zct).trans ct0
  replace zct:w.heap.size < v1.heap.size:=Kbq zct hb.size
  replace cf0:v1.cell? ⟨w.heap.size+1,0,none⟩=some (.int .i64 a):=(hb.cell (p:=⟨w.heap.size+1,0,none⟩) zcf).trans cf0
  replace cf1:v1.cell? ⟨w.heap.size+1,1,none⟩=some (.int .i64 p):=(hb.cell (p:=⟨w.heap.size+1,1,none⟩) zcf).trans cf1
  replace zcf:w.heap.size+1 < v1.heap.size:=Kbq zcf hb.size
  replace cr0:v1.cell? ⟨w.heap.size+1+1,0,none⟩=some (.bool false):=(hb.cell (p:=⟨w.heap.size+1+1,0,none⟩) zcr).trans cr0
  replace cr1:v1.cell? ⟨w.heap.size+1+1,1,none⟩=some (.int .i64 0):=(hb.cell (p:=⟨w.heap.size+1+1,1,none⟩) zcr).trans cr1
  replace cr2:v1.cell? ⟨w.heap.size+1+1,2,none⟩=some (.int .i64 0):=(hb.cell (p:=⟨w.heap.size+1+1,2,none⟩) zcr).trans cr2
  replace cr3:v1.cell? ⟨w.heap.size+1+1,3,none⟩=some (.int .i64 0):=(hb.cell (p:=⟨w.heap.size+1+1,3,none⟩) zcr).trans cr3
  replace cr4:v1.cell? ⟨w.heap.size+1+1,4,none⟩=some (.int .i64 0):=(hb.cell (p:=⟨w.heap.size+1+1,4,none⟩) zcr).trans cr4
  replace fcr0:v1.frozen? ⟨w.heap.size+1+1,0,none⟩=false:=(hb.frozen (p:=⟨w.heap.size+1+1,0,none⟩) zcr).trans fcr0
  replace fcr1:v1.frozen? ⟨w.heap.size+1+1,1,none⟩=false:=(hb.frozen (p:=⟨w.heap.size+1+1,1,none⟩) zcr).trans fcr1
  replace fcr2:v1.frozen? ⟨w.heap.size+1+1,2,none⟩=false:=(hb.frozen (p:=⟨w.heap.size+1+1,2,none⟩) zcr).trans fcr2
  replace fcr3:v1.frozen? ⟨w.heap.size+1+1,3,none⟩=false:=(hb.frozen (p:=⟨w.heap.size+1+1,3,none⟩) zcr).trans fcr3
  replace fcr4:v1.frozen? ⟨w.heap.size+1+1,4,none⟩=false:=(hb.frozen (p:=⟨w.heap.size+1+1,4,none⟩) zcr).trans fcr4
  replace zcr:w.heap.size+1+1 < v1.heap.size:=Kbq zcr hb.size
  replace HB:=Q00 (HB.out.trans (hb.mono HB.out.size))
  clear hb
  have e0:=(HB.out.cell (p:=⟨b,off+k * 5,none⟩) hbl).trans hcx.1
  have e1:=(HB.out.cell (p:=⟨b,off+k * 5+1,none⟩) hbl).trans hcx.2.1
  have e2:=(HB.out.cell (p:=⟨b,off+k * 5+2,none⟩) hbl).trans hcx.2.2.1
  have e3:=(HB.out.cell (p:=⟨b,off+k * 5+3,none⟩) hbl).trans hcx.2.2.2.1
  have e4:=(HB.out.cell (p:=⟨b,off+k * 5+4,none⟩) hbl).trans hcx.2.2.2.2
  clear hat hcx
  go_wp2
  refine bodyPost_ret (v:=.tuple #[slot s,.bool true]) (by simp [results,Tryz.results184,go_sem,cr0,cr1,cr2,cr3,cr4]) rfl ⟨by rw [HM.out,HE.out],Q1T (s:=s) HB.out (by omega)⟩
theorem Qac (v:Value) (m:Am) (a p:Int) (w:World) (hR:RdA w.heap.size w v m) (hpos:0 < m.c.length) (hfl:Q0h a p=true) (hf:m.c.length+m.t.length≤1048576):
  Calls Tryz.prog 76 #[v,Q6O a p] w fun e w'=> e=.returned (.bool (Q2w m.c a p).2)∧Below w.heap.size w w':=by
 obtain ⟨vc,vt,rfl,⟨oc,cc,rfl,rc⟩,⟨ot,ct,rfl,rt⟩⟩:=hR
 rcases rc with hr|⟨b,off,rfl,hbl,hcell⟩
 ·rw [hr] at hpos;simp at hpos
 have HC:=Q00 hcell
 clear hcell
 obtain ⟨W0,hW0⟩:∃W,((w.alloc (.cells #[.int .i64 m.id,.int .i64 m.lim,.bool m.dr,.slice (some ⟨b,off,none⟩) m.c.length cc,.slice ot m.t.length ct] 87)).alloc (.cells #[.int .i64 a,.int .i64 p] 75))=W:=⟨_,rfl⟩
 have hb_W0:Below w.heap.size w W0:=by rw [←hW0];exact (((Below.refl _ _).alloc (Kaq _) _).alloc (by simp <;> omega) _)
 have HB:=Q00 hb_W0
 clear hb_W0
 have zz:w.heap.size < W0.heap.size:=by rw [←hW0];simp <;> omega
 have z0:W0.cell? ⟨w.heap.size,0,none⟩=some (.int .i64 m.id):=by rw [←hW0];simp [go_sem]
 have z1:W0.cell? ⟨w.heap.size,1,none⟩=some (.int .i64 m.lim):=by rw [←hW0];simp [go_sem]
 have z2:W0.cell? ⟨w.heap.size,2,none⟩=some (.bool m.dr):=by rw [←hW0];simp [go_sem]
 have z3:W0.cell? ⟨w.heap.size,3,none⟩=some (.slice (some ⟨b,off,none⟩) m.c.length cc):=by rw [←hW0];simp [go_sem]
 have z4:W0.cell? ⟨w.heap.size,4,none⟩=some (.slice ot m.t.length ct):=by rw [←hW0];simp [go_sem]
 have zf:w.heap.size+1 < W0.heap.size:=by rw [←hW0];simp
 have f0:W0.cell? ⟨w.heap.size+1,0,none⟩=some (.int .i64 a):=by rw [←hW0];simp [go_sem]
 have f1:W0.cell? ⟨w.heap.size+1,1,none⟩=some (.int .i64 p):=by rw [←hW0];simp [go_sem]
 have H1:=Q00 (fun W (hb:Below w.heap.size w W)=> Qdo b off cc m.c a p W hpos (by omega) hfl (Kbq hbl hb.size) (fun i hi j hj=> (hb.cell (p:=⟨b,off+i * Q0w.k+j,none⟩) hbl).trans (HC.out i hi j hj)))
 clear rt HC
 generalize Qfo m.c a p=q at *
 generalize (Q2w m.c a p).2=tt at *
 go_enter Tryz.func76,Tryz.ntmps76
 go_wp2_with fail
 refine (H1.out W0 HB.out).mono ?_
 rintro e v1 ⟨rfl,hb⟩
 replace z0:v1.cell? ⟨w.heap.size,0,none⟩=some (.int .i64 m.id):=(hb.cell (p:=⟨w.heap.size,0,none⟩) zz).trans z0
 replace z1:v1.cell? ⟨w.heap.size,1,none⟩=some (.int .i64 m.lim):=(hb.cell (p:=⟨w.heap.size,1,none⟩) zz).trans z1
 replace z2:v1.cell? ⟨w.heap.size,2,none⟩=some (.bool m.dr):=(hb.cell (p:=⟨w.heap.size,2,none⟩) zz).trans z2
 replace z3:v1.cell? ⟨w.heap.size,3,none⟩=some (.slice (some ⟨b,off,none⟩) m.c.length cc):=(hb.cell (p:=⟨w.heap.size,3,none⟩) zz).trans z3
 replace z4:v1.cell? ⟨w.heap.size,4,none⟩=some (.slice ot m.t.length ct):=(hb.cell (p:=⟨w.heap.size,4,none⟩) zz).trans z4
 replace zz:w.heap.size < v1.heap.size:=Kbq zz hb.size
 replace f0:v1.cell? ⟨w.heap.size+1,0,none⟩=some (.int .i64 a):=(hb.cell (p:=⟨w.heap.size+1,0,none⟩) zf).trans f0
 replace f1:v1.cell? ⟨w.heap.size+1,1,none⟩=some (.int .i64 p):=(hb.cell (p:=⟨w.heap.size+1,1,none⟩) zf).trans f1
 replace zf:w.heap.size+1 < v1.heap.size:=Kbq zf hb.size
 replace HB:=Q00 (HB.out.trans (hb.mono HB.out.size))
 clear hb
 obtain ⟨W2,hW2⟩:∃W,(v1.alloc (.cells #[.bool q.u,.int .i64 q.a,.int .i64 q.p,.int .i64 q.v,.int .i64 q.t] 165))=W:=⟨_,rfl⟩
 have hb_W2:Below v1.heap.size v1 W2:=by rw [←hW2];exact ((Below.refl _ _).alloc (Kaq _) _)
 replace z0:W2.cell? ⟨w.heap.size,0,none⟩=some (.int .i64 m.id):=(hb_W2.cell (p:=⟨w.heap.size,0,none⟩) zz).trans z0
 replace z1:W2.cell? ⟨w.heap.size,1,none⟩=some (.int .i64 m.lim):=(hb_W2.cell (p:=⟨w.heap.size,1,none⟩) zz).trans z1
 replace z2:W2.cell? ⟨w.heap.size,2,none⟩=some (.bool m.dr):=(hb_W2.cell (p:=⟨w.heap.size,2,none⟩) zz).trans z2
 replace z3:W2.cell? ⟨w.heap.size,3,none⟩=some (.slice (some ⟨b,off,none⟩) m.c.length cc):=(hb_W2.cell (p:=⟨w.heap.size,3,none⟩) zz).trans z3
 replace z4:W2.cell? ⟨w.heap.size,4,none⟩=some (.slice ot m.t.length ct):=(hb_W2.cell (p:=⟨w.heap.size,4,none⟩) zz).trans z4
 replace zz:w.heap.size < W2.heap.size:=Kbq zz hb_W2.size
 replace f0:W2.cell? ⟨w.heap.size+1,0,none⟩=some (.int .i64 a):=(hb_W2.cell (p:=⟨w.heap.size+1,0,none⟩) zf).trans f0
 replace f1:W2.cell? ⟨w.heap.size+1,1,none⟩=some (.int .i64 p):=(hb_W2.cell (p:=⟨w.heap.size+1,1,none⟩) zf).trans f1
 replace zf:w.heap.size+1 < W2.heap.size:=Kbq zf hb_W2.size
 replace HB:=Q00 (HB.out.trans (hb_W2.mono HB.out.size))
 clear hb_W2
 have zs:v1.heap.size < W2.heap.size:=by rw [←hW2];simp
 have s0:W2.cell? ⟨v1.heap.size,0,none⟩=some (.bool q.u):=by rw [←hW2];simp [go_sem]
 have s1:W2.cell? ⟨v1.heap.size,1,none⟩=some (.int .i64 q.a):=by rw [←hW2];simp [go_sem]
 have s2:W2.cell? ⟨v1.heap.size,2,none⟩=some (.int .i64 q.p):=by rw [←hW2];simp [go_sem]
 have s3:W2.cell? ⟨v1.heap.size,3,none⟩=some (.int .i64 q.v):=by rw [←hW2];simp [go_sem]
 have s4:W2.cell? ⟨v1.heap.size,4,none⟩=some (.int .i64 q.t):=by rw [←hW2];simp [go_sem]
 go_wp2
 go_ret
 exact ⟨rfl,HB.out⟩
theorem QeM (b off c:Nat) (l:List Sl) (a p:Int) (w:World) (hpos:0 < l.length) (hl:l.length≤1048576) (hfl:Q0h a p=true) (hbl:b < w.heap.size) (hcell:∀i,i < l.length→∀j,j < Q0w.k→w.cell? ⟨b,off+i * Q0w.k+j,none⟩=(Q0w.cs (l.getD i Q0w.d))[j]?):
  Calls Tryz.prog 137 #[.agg #[.slice (some ⟨b,off,none⟩) l.length c],Q6O a p] w fun e w'=> e=.returned (.bool (Q2w l a p).2)∧Below w.heap.size w w':=by
 have HC:=Q00 hcell
 clear hcell
 obtain ⟨W0,hW0⟩:∃W,((w.alloc (.cells #[.slice (some ⟨b,off,none⟩) l.length c] 137)).alloc (.cells #[.int .i64 a,.int .i64 p] 75))=W:=⟨_,rfl⟩
 have hb_W0:Below w.heap.size w W0:=by rw [←hW0];exact (((Below.refl _ _).alloc (Kaq _) _).alloc (by simp <;> omega) _)
 have HB:=Q00 hb_W0
 clear hb_W0
 have zz:w.heap.size < W0.heap.size:=by rw [←hW0];simp <;> omega
 have z0:W0.cell? ⟨w.heap.size,0,none⟩=some (.slice (some ⟨b,off,none⟩) l.length c):=by rw [←hW0];simp [go_sem]
 have zf:w.heap.size+1 < W0.heap.size:=by rw [←hW0];simp
 have f0:W0.cell? ⟨w.heap.size+1,0,none⟩=some (.int .i64 a):=by rw [←hW0];simp [go_sem]
 have f1:W0.cell? ⟨w.heap.size+1,1,none⟩=some (.int .i64 p):=by rw [←hW0];simp [go_sem]
 have H1:=Q00 (fun W (hb:Below w.heap.size w W)=> QfN b off c l a p W hpos hl hfl (Kbq hbl hb.size) (fun i hi j hj=> (hb.cell (p:=⟨b,off+i * Q0w.k+j,none⟩) hbl).trans (HC.out i hi j hj)))
 clear HC
 generalize Qfo l a p=q at *
 generalize (Q2w l a p).2=tt at *
 go_enter Tryz.func137,Tryz.ntmps137
 go_wp2_with fail
 refine (H1.out W0 HB.out).mono ?_
 rintro e v1 ⟨rfl,hb⟩
 replace z0:v1.cell? ⟨w.heap.size,0,none⟩=some (.slice (some ⟨b,off,none⟩) l.length c):=(hb.cell (p:=⟨w.heap.size,0,none⟩) zz).trans z0
 replace zz:w.heap.size < v1.heap.size:=Kbq zz hb.size
 replace f0:v1.cell? ⟨w.heap.size+1,0,none⟩=some (.int .i64 a):=(hb.cell (p:=⟨w.heap.size+1,0,none⟩) zf).trans f0
 replace f1:v1.cell? ⟨w.heap.size+1,1,none⟩=some (.int .i64 p):=(hb.cell (p:=⟨w.heap.size+1,1,none⟩) zf).trans f1
 replace zf:w.heap.size+1 < v1.heap.size:=Kbq zf hb.size
 replace HB:=Q00 (HB.out.trans (hb.mono HB.out.size))
 clear hb
 obtain ⟨W2,hW2⟩:∃W,(v1.alloc (.cells #[.bool q.u,.int .i64 q.a,.int .i64 q.p,.int .i64 q.v,.int .i64 q.t] 262))=W:=⟨_,rfl⟩
 have hb_W2:Below v1.heap.size v1 W2:=by rw [←hW2];exact ((Below.refl _ _).alloc (Kaq _) _)
 replace z0:W2.cell? ⟨w.heap.size,0,none⟩=some (.slice (some ⟨b,off,none⟩) l.length c):=(hb_W2.cell (p:=⟨w.heap.size,0,none⟩) zz).trans z0
 replace zz:w.heap.size < W2.heap.size:=Kbq zz hb_W2.size
 replace f0:W2.cell? ⟨w.heap.size+1,0,none⟩=some (.int .i64 a):=(hb_W2.cell (p:=⟨w.heap.size+1,0,none⟩) zf).trans f0
 replace f1:W2.cell? ⟨w.heap.size+1,1,none⟩=some (.int .i64 p):=(hb_W2.cell (p:=⟨w.heap.size+1,1,none⟩) zf).trans f1
 replace zf:w.heap.size+1 < W2.heap.size:=Kbq zf hb_W2.size
 replace HB:=Q00 (HB.out.trans (hb_W2.mono HB.out.size))
 clear hb_W2
 have zs:v1.heap.size < W2.heap.size:=by rw [←hW2];simp
 have s0:W2.cell? ⟨v1.heap.size,0,none⟩=some (.bool q.u):=by rw [←hW2];simp [go_sem]
 have s1:W2.cell? ⟨v1.heap.size,1,none⟩=some (.int .i64 q.a):=by rw [←hW2];simp [go_sem]
 have s2:W2.cell? ⟨v1.heap.size,2,none⟩=some (.int .i64 q.p):=by rw [←hW2];simp [go_sem]
 have s3:W2.cell? ⟨v1.heap.size,3,none⟩=some (.int .i64 q.v):=by rw [←hW2];simp [go_sem]
 have s4:W2.cell? ⟨v1.heap.size,4,none⟩=some (.int .i64 q.t):=by rw [←hW2];simp [go_sem]
 go_wp2
 go_ret
 exact ⟨rfl,HB.out⟩
end Go.Proofs.YtgplppfbinfelaaGreat
