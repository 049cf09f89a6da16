/- AgentNew, on both sides. -/
import Derived.Laws.MakeOwn
import Derived.Test.YtljogkoaaidlcaaQHandL12
namespace Go.Proofs.Ytljogkoaaidlcaa
open Go.ChangeShapes Go.WideShapes Go.ChangeAt Go.RowKit Go.Joins
set_option linter.unusedVariables false
set_option linter.unusedSimpArgs false
set_option maxRecDepth 100000
set_option maxHeartbeats 40000000
theorem Q8t:∃cs:Array Value,(∀W:World,(Instr.makeSlice 23 (.int .i64 16) (.int .i64 16)).run Try.prog W=.ok (.slice (some ⟨W.heap.size,0,none⟩) 16 16) (W.alloc (.cells cs 84)))∧∀W:World,(W.alloc (.cells cs 84)).ownsRow W.heap.size 84 5 (.slice (some ⟨W.heap.size,0,none⟩) 16 16) 16 ((List.replicate 16 sl0).flatMap Q0e.cs):=by
 obtain ⟨i0,hi,hz0,hz1,hz2⟩:=info_parts Q3f
 have h1:∀W:World,(Instr.makeSlice 23 (.int .i64 16) (.int .i64 16)).run Try.prog W=.ok (.slice (some ⟨W.heap.size,0,none⟩) 16 16) (W.alloc (.cells (madeCells (slot sl0).cells (16 * i0.size)) 84)):=
  fun W=> run_make W 23 84 i0 (slot sl0) Try.underlying23 hi hz0 .i64 .i64 16 16 (by decide) (by decide) (by rw [hz2];decide) (by decide)
 refine ⟨_,h1,fun W=> ?_⟩
 obtain ⟨w',hrun,r1,r2⟩:=run_make_full (P:=Try.prog) W W.heap.size 23 84 i0 (slot sl0) 5 Try.underlying23 hi hz0 hz1 .i64 .i64 16 (by rw [hz2];decide) (by decide) (Kaq _)
 have h2:=(h1 W).symm.trans hrun
 injection h2 with _ h2
 rw [h2]
 have h3:=Q2Q Q0e (slot sl0) rfl 16
 have h4:(madeCells (slot sl0).cells (16 * Q0e.k)).toList=(madeCells (slot sl0).cells (16 * 5)).toList:=rfl
 rw [←h4,h3] at r1
 exact r1
def InA2 (lo hi:Nat) (w:World) (v:Value) (m:Am):Prop:=∃vc vt,v=agt m.id m.lim m.dr vc vt∧InS lo hi w vc m.c∧InS lo hi w vt m.t
abbrev Q1k:List Sl:=List.replicate 16 sl0
theorem Q8p {cs c0:Array Value} {T:TypeId} (hown:∀W:World,(W.alloc (.cells cs 84)).ownsRow W.heap.size 84 5 (.slice (some ⟨W.heap.size,0,none⟩) 16 16) 16 (Q1k.flatMap Q0e.cs)) (w X:World)
  (hX:X=(((w.alloc (.cells c0 T)).alloc (.cells cs 84)).alloc (.cells cs 84)).drew):
  InS w.heap.size X.heap.size X (.slice (some ⟨w.heap.size+1,0,none⟩) 16 16) Q1k∧InS w.heap.size X.heap.size X (.slice (some ⟨w.heap.size+1+1,0,none⟩) 16 16) Q1k∧Below w.heap.size w X:=by
 have h1:=hown (w.alloc (.cells c0 T))
 have h2:=hown ((w.alloc (.cells c0 T)).alloc (.cells cs 84))
 simp only [World.size_alloc] at h1 h2
 have b1:Below ((w.alloc (.cells c0 T)).alloc (.cells cs 84)).heap.size ((w.alloc (.cells c0 T)).alloc (.cells cs 84)) X:=by
  rw [hX];exact Below.drew ((Below.refl _ _).alloc (Kaq _) _)
 have b2:Below (((w.alloc (.cells c0 T)).alloc (.cells cs 84)).alloc (.cells cs 84)).heap.size (((w.alloc (.cells c0 T)).alloc (.cells cs 84)).alloc (.cells cs 84)) X:=by
  rw [hX];exact Below.drew (Below.refl _ _)
 have o1:=Q0a h1 b1
 have o2:=Q0a h2 b2
 refine ⟨InRow.of (Q0x o1 (by omega)),InRow.of (Q0x o2 (by omega)), ?_⟩
 rw [hX]
 exact Below.drew ((((Below.refl _ _).alloc (Kaq _) _).alloc (by simp) _).alloc (by simp <;> omega) _)
theorem Q6z (i l:Int) (w:World):
  Calls Try.prog 67 #[.int .i64 i,.int .i64 l] w fun e w'=> ∃o1 o2,e=.returned (agt i l false (.slice o1 16 16) (.slice o2 16 16))∧InA2 w.heap.size w'.heap.size w' (agt i l false (.slice o1 16 16) (.slice o2 16 16)) ⟨i,l,false,Q1k,Q1k⟩∧Below w.heap.size w w':=by
 obtain ⟨cs,hmk,hown⟩:=Q8t
 have HO:=Q00 hown
 clear hown
 go_enter Try.func67,Try.ntmps67
 go_wp2
 go_region
 all_goals go_wp2
 all_goals clear hmk
 ·refine bodyPost_ret (v:=agt i l false (.slice (some ⟨w.heap.size+1,0,none⟩) 16 16) (.slice (some ⟨w.heap.size+1+1,0,none⟩) 16 16)) (by simp [results,Try.results67,go_sem]) rfl ?_
  obtain ⟨r1,r2,hb⟩:=Q8p HO.out w _ rfl
  exact ⟨_,_,rfl,⟨_,_,rfl,r1,r2⟩,hb⟩
 ·refine bodyPost_ret (v:=agt i l false (.slice (some ⟨w.heap.size+1+1,0,none⟩) 16 16) (.slice (some ⟨w.heap.size+1,0,none⟩) 16 16)) (by simp [results,Try.results67,go_sem]) rfl ?_
  obtain ⟨r1,r2,hb⟩:=Q8p HO.out w _ rfl
  exact ⟨_,_,rfl,⟨_,_,rfl,r2,r1⟩,hb⟩
def Q6h (i l:Int):Bool:=(decide (0≤i) && decide (i < 6)) && (decide (0≤l) && decide (l≤16))
def Q7O (i l:Int):Am:=if Q6h i l=true then ⟨i,l,false,Q1k,Q1k⟩ else am0
theorem Q5E:Q0b Q1k=true:=by decide+kernel
theorem Q3a (i l:Int) (w:World):
  Calls Try.prog 31 #[.int .i64 i,.int .i64 l] w fun e w'=> ∃v',e=.returned (.tuple #[v',.bool (Q6h i l)])∧InA w.heap.size w'.heap.size w' v' (Q7O i l)∧Below w.heap.size w w':=by
 obtain ⟨W0,hW0⟩:∃W,(w.alloc (.cells #[.int .i64 0,.int .i64 0,.bool false,.slice none 0 0,.slice none 0 0] 27))=W:=⟨_,rfl⟩
 have hb_W0:Below w.heap.size w W0:=by rw [←hW0];exact ((Below.refl _ _).alloc (Kaq _) _)
 have HB:=Q00 hb_W0
 clear hb_W0
 have zr:w.heap.size < W0.heap.size:=by rw [←hW0];simp
 have r0:W0.cell? ⟨w.heap.size,0,none⟩=some (.int .i64 0):=by rw [←hW0];simp [go_sem]
 have r1:W0.cell? ⟨w.heap.size,1,none⟩=some (.int .i64 0):=by rw [←hW0];simp [go_sem]
 have r2:W0.cell? ⟨w.heap.size,2,none⟩=some (.bool false):=by rw [←hW0];simp [go_sem]
 have r3:W0.cell? ⟨w.heap.size,3,none⟩=some (.slice none 0 0):=by rw [←hW0];simp [go_sem]
 have r4:W0.cell? ⟨w.heap.size,4,none⟩=some (.slice none 0 0):=by rw [←hW0];simp [go_sem]
 have fr0:W0.frozen? ⟨w.heap.size,0,none⟩=false:=by rw [←hW0];simp [go_sem]
 have fr1:W0.frozen? ⟨w.heap.size,1,none⟩=false:=by rw [←hW0];simp [go_sem]
 have fr2:W0.frozen? ⟨w.heap.size,2,none⟩=false:=by rw [←hW0];simp [go_sem]
 have fr3:W0.frozen? ⟨w.heap.size,3,none⟩=false:=by rw [←hW0];simp [go_sem]
 have fr4:W0.frozen? ⟨w.heap.size,4,none⟩=false:=by rw [←hW0];simp [go_sem]
 have hz0:=zr
 have HM:=Q00 (show Q7O i l=if Q6h i l=true then ⟨i,l,false,Q1k,Q1k⟩ else am0 from rfl)
 have HB0:=Q00 (show Q6h i l=((decide (0≤i) && decide (i < 6)) && (decide (0≤l) && decide (l≤16))) from rfl)
 rw [HB0.out] at HM
 have hbk:=fun W=> Q3z i W
 have hli:=fun W=> Q3t l W
 generalize (decide (0≤i) && decide (i < 6))=bk at *
 generalize (decide (0≤l) && decide (l≤16))=bl at *
 by_cases hall:(bk && bl)=true
 ·obtain ⟨rfl,rfl⟩:bk=true∧bl=true:=by cases bk <;> cases bl <;> simp_all
  clear hall
  go_enter Try.func31,Try.ntmps31
  go_wp2_with fail
  refine (hbk _).mono ?_
  rintro e w9 ⟨rfl,rfl⟩
  go_wp2_with fail
  refine (hli _).mono ?_
  rintro e w9 ⟨rfl,rfl⟩
  obtain ⟨W1,hW1⟩:∃W,(W0.alloc (.cells #[.slice none 0 0,.slice none 0 0,.int .i64 i,.int .i64 l,.bool false] 68))=W:=⟨_,rfl⟩
  have hb_W1:Below W0.heap.size W0 W1:=by rw [←hW1];exact ((Below.refl _ _).alloc (Kaq _) _)
  replace r0:W1.cell? ⟨w.heap.size,0,none⟩=some (.int .i64 0):=(hb_W1.cell (p:=⟨w.heap.size,0,none⟩) zr).trans r0
  replace r1:W1.cell? ⟨w.heap.size,1,none⟩=some (.int .i64 0):=(hb_W1.cell (p:=⟨w.heap.size,1,none⟩) zr).trans r1
  replace r2:W1.cell? ⟨w.heap.size,2,none⟩=some (.bool false):=(hb_W1.cell (p:=⟨w.heap.size,2,none⟩) zr).trans r2
  replace r3:W1.cell? ⟨w.heap.size,3,none⟩=some (.slice none 0 0):=(hb_W1.cell (p:=⟨w.heap.size,3,none⟩) zr).trans r3
  replace r4:W1.cell? ⟨w.heap.size,4,none⟩=some (.slice none 0 0):=(hb_W1.cell (p:=⟨w.heap.size,4,none⟩) zr).trans r4
  replace fr0:W1.frozen? ⟨w.heap.size,0,none⟩=false:=(hb_W1.frozen (p:=⟨w.heap.size,0,none⟩) zr).trans fr0
  replace fr1:W1.frozen? ⟨w.heap.size,1,none⟩=false:=(hb_W1.frozen (p:=⟨w.heap.size,1,none⟩) zr).trans fr1
  replace fr2:W1.frozen? ⟨w.heap.size,2,none⟩=false:=(hb_W1.frozen (p:=⟨w.heap.size,2,none⟩) zr).trans fr2
  replace fr3:W1.frozen? ⟨w.heap.size,3,none⟩=false:=(hb_W1.frozen (p:=⟨w.heap.size,3,none⟩) zr).trans fr3
  replace fr4:W1.frozen? ⟨w.heap.size,4,none⟩=false:=(hb_W1.frozen (p:=⟨w.heap.size,4,none⟩) zr).trans fr4
  replace zr:w.heap.size < W1.heap.size:=Kbq zr hb_W1.size
  replace HB:=Q00 (HB.out.trans (hb_W1.mono HB.out.size))
  clear hb_W1
  have zo:W0.heap.size < W1.heap.size:=by rw [←hW1];simp
  have o0:W1.cell? ⟨W0.heap.size,0,none⟩=some (.slice none 0 0):=by rw [←hW1];simp [go_sem]
  have o1:W1.cell? ⟨W0.heap.size,1,none⟩=some (.slice none 0 0):=by rw [←hW1];simp [go_sem]
  have o2:W1.cell? ⟨W0.heap.size,2,none⟩=some (.int .i64 i):=by rw [←hW1];simp [go_sem]
  have o3:W1.cell? ⟨W0.heap.size,3,none⟩=some (.int .i64 l):=by rw [←hW1];simp [go_sem]
  have o4:W1.cell? ⟨W0.heap.size,4,none⟩=some (.bool false):=by rw [←hW1];simp [go_sem]
  have fo0:W1.frozen? ⟨W0.heap.size,0,none⟩=false:=by rw [←hW1];simp [go_sem]
  have fo1:W1.frozen? ⟨W0.heap.size,1,none⟩=false:=by rw [←hW1];simp [go_sem]
  have fo2:W1.frozen? ⟨W0.heap.size,2,none⟩=false:=by rw [←hW1];simp [go_sem]
  have fo3:W1.frozen? ⟨W0.heap.size,3,none⟩=false:=by rw [←hW1];simp [go_sem]
  have fo4:W1.frozen? ⟨W0.heap.size,4,none⟩=false:=by rw [←hW1];simp [go_sem]
  have hz1:=zo
  have hsame:W1.setCell ⟨W0.heap.size,4,none⟩ (.bool false)=W1:=by rw [←hW1];simp [go_sem]
  go_wp2_with fail
  refine (Q1h 16 W1 (by decide)).mono ?_
  rintro e v1 ⟨g,rfl,hown,hb⟩
  have HI:Hid (Q8w W1.heap.size v1.heap.size v1 (.slice (some ⟨g,0,none⟩) 16 16) Q1k):=InRow.of hown
  have hs1:=hb.size
  clear hown
  replace r0:v1.cell? ⟨w.heap.size,0,none⟩=some (.int .i64 0):=(hb.cell (p:=⟨w.heap.size,0,none⟩) zr).trans r0
  replace r1:v1.cell? ⟨w.heap.size,1,none⟩=some (.int .i64 0):=(hb.cell (p:=⟨w.heap.size,1,none⟩) zr).trans r1
  replace r2:v1.cell? ⟨w.heap.size,2,none⟩=some (.bool false):=(hb.cell (p:=⟨w.heap.size,2,none⟩) zr).trans r2
  replace r3:v1.cell? ⟨w.heap.size,3,none⟩=some (.slice none 0 0):=(hb.cell (p:=⟨w.heap.size,3,none⟩) zr).trans r3
  replace r4:v1.cell? ⟨w.heap.size,4,none⟩=some (.slice none 0 0):=(hb.cell (p:=⟨w.heap.size,4,none⟩) zr).trans r4
  replace fr0:v1.frozen? ⟨w.heap.size,0,none⟩=false:=(hb.frozen (p:=⟨w.heap.size,0,none⟩) zr).trans fr0
  replace fr1:v1.frozen? ⟨w.heap.size,1,none⟩=false:=(hb.frozen (p:=⟨w.heap.size,1,none⟩) zr).trans fr1
  replace fr2:v1.frozen? ⟨w.heap.size,2,none⟩=false:=(hb.frozen (p:=⟨w.heap.size,2,none⟩) zr).trans fr2
  replace fr3:v1.frozen? ⟨w.heap.size,3,none⟩=false:=(hb.frozen (p:=⟨w.heap.size,3,none⟩) zr).trans fr3
  replace fr4:v1.frozen? ⟨w.heap.size,4,none⟩=false:=(hb.frozen (p:=⟨w.heap.size,4,none⟩) zr).trans fr4
  replace zr:w.heap.size < v1.heap.size:=Kbq zr hb.size
  replace o0:v1.cell? ⟨W0.heap.size,0,none⟩=some (.slice none 0 0):=(hb.cell (p:=⟨W0.heap.size,0,none⟩) zo).trans o0
  replace o1:v1.cell? ⟨W0.heap.size,1,none⟩=some (.slice none 0 0):=(hb.cell (p:=⟨W0.heap.size,1,none⟩) zo).trans o1
  replace o2:v1.cell? ⟨W0.heap.size,2,none⟩=some (.int .i64 i):=(hb.cell (p:=⟨W0.heap.size,2,none⟩) zo).trans o2
  replace o3:v1.cell? ⟨W0.heap.size,3,none⟩=some (.int .i64 l):=(hb.cell (p:=⟨W0.heap.size,3,none⟩) zo).trans o3
  replace o4:v1.cell? ⟨W0.heap.size,4,none⟩=some (.bool false):=(hb.cell (p:=⟨W0.heap.size,4,none⟩) zo).trans o4
  replace fo0:v1.frozen? ⟨W0.heap.size,0,none⟩=false:=(hb.frozen (p:=⟨W0.heap.size,0,none⟩) zo).trans fo0
  replace fo1:v1.frozen? ⟨W0.heap.size,1,none⟩=false:=(hb.frozen (p:=⟨W0.heap.size,1,none⟩) zo).trans fo1
  replace fo2:v1.frozen? ⟨W0.heap.size,2,none⟩=false:=(hb.frozen (p:=⟨W0.heap.size,2,none⟩) zo).trans fo2
  replace fo3:v1.frozen? ⟨W0.heap.size,3,none⟩=false:=(hb.frozen (p:=⟨W0.heap.size,3,none⟩) zo).trans fo3
  replace fo4:v1.frozen? ⟨W0.heap.size,4,none⟩=false:=(hb.frozen (p:=⟨W0.heap.size,4,none⟩) zo).trans fo4
  replace zo:W0.heap.size < v1.heap.size:=Kbq zo hb.size
  replace HB:=Q00 (HB.out.trans (hb.mono HB.out.size))
  clear hb
  go_wp2_with fail
  obtain ⟨W3,hW3⟩:∃W,(v1.setCell ⟨W0.heap.size,0,none⟩ (.slice (some ⟨g,0,none⟩) 16 16))=W:=⟨_,rfl⟩
  have hst:Stp (W0.heap.size) (W0.heap.size+1) v1 W3:=by rw [←hW3];exact Q0s v1 (W0.heap.size) 0 _
  rw [hW3]
  have o0':W3.cell? ⟨W0.heap.size,0,none⟩=some (.slice (some ⟨g,0,none⟩) 16 16):=by rw [←hW3];simp [go_sem,o0,o1,o2,o3,o4]
  have fo0':W3.frozen? ⟨W0.heap.size,0,none⟩=false:=by rw [←hW3];simp [go_sem,fo0,fo1,fo2,fo3,fo4]
  have o1':W3.cell? ⟨W0.heap.size,1,none⟩=some (.slice none 0 0):=by rw [←hW3];simp [go_sem,o0,o1,o2,o3,o4]
  have fo1':W3.frozen? ⟨W0.heap.size,1,none⟩=false:=by rw [←hW3];simp [go_sem,fo0,fo1,fo2,fo3,fo4]
  have o2':W3.cell? ⟨W0.heap.size,2,none⟩=some (.int .i64 i):=by rw [←hW3];simp [go_sem,o0,o1,o2,o3,o4]
  have fo2':W3.frozen? ⟨W0.heap.size,2,none⟩=false:=by rw [←hW3];simp [go_sem,fo0,fo1,fo2,fo3,fo4]
  have o3':W3.cell? ⟨W0.heap.size,3,none⟩=some (.int .i64 l):=by rw [←hW3];simp [go_sem,o0,o1,o2,o3,o4]
  have fo3':W3.frozen? ⟨W0.heap.size,3,none⟩=false:=by rw [←hW3];simp [go_sem,fo0,fo1,fo2,fo3,fo4]
  have o4':W3.cell? ⟨W0.heap.size,4,none⟩=some (.bool false):=by rw [←hW3];simp [go_sem,o0,o1,o2,o3,o4]
  have fo4':W3.frozen? ⟨W0.heap.size,4,none⟩=false:=by rw [←hW3];simp [go_sem,fo0,fo1,fo2,fo3,fo4]
  replace o0:=o0'
  replace fo0:=fo0'
  replace o1:=o1'
  replace fo1:=fo1'
  replace o2:=o2'
  replace fo2:=fo2'
  replace o3:=o3'
  replace fo3:=fo3'
  replace o4:=o4'
  replace fo4:=fo4'
  replace zo:W0.heap.size < W3.heap.size:=Kbq zo hst.size
  replace r0:W3.cell? ⟨w.heap.size,0,none⟩=some (.int .i64 0):=hst.cell r0 zr (by omega)
  replace r1:W3.cell? ⟨w.heap.size,1,none⟩=some (.int .i64 0):=hst.cell r1 zr (by omega)
  replace r2:W3.cell? ⟨w.heap.size,2,none⟩=some (.bool false):=hst.cell r2 zr (by omega)
  replace r3:W3.cell? ⟨w.heap.size,3,none⟩=some (.slice none 0 0):=hst.cell r3 zr (by omega)
  replace r4:W3.cell? ⟨w.heap.size,4,none⟩=some (.slice none 0 0):=hst.cell r4 zr (by omega)
  replace fr0:W3.frozen? ⟨w.heap.size,0,none⟩=false:=hst.frozen fr0 zr (by omega)
  replace fr1:W3.frozen? ⟨w.heap.size,1,none⟩=false:=hst.frozen fr1 zr (by omega)
  replace fr2:W3.frozen? ⟨w.heap.size,2,none⟩=false:=hst.frozen fr2 zr (by omega)
  replace fr3:W3.frozen? ⟨w.heap.size,3,none⟩=false:=hst.frozen fr3 zr (by omega)
  replace fr4:W3.frozen? ⟨w.heap.size,4,none⟩=false:=hst.frozen fr4 zr (by omega)
  replace zr:w.heap.size < W3.heap.size:=Kbq zr hst.size
  replace HI:=Q00 (InRow.step HI.out hst (.inl (by omega)))
  have hs3:=hst.size
  replace HB:=Q00 (HB.out.trans (hst.below (by omega) HB.out.size))
  clear hst
  clear hW1 hsame
  refine (Q1h 16 W3 (by decide)).mono ?_
  rintro e v2 ⟨h,rfl,hown,hb⟩
  have HJ:Hid (Q8w W3.heap.size v2.heap.size v2 (.slice (some ⟨h,0,none⟩) 16 16) Q1k):=InRow.of hown
  replace HI:=Q00 (InRow.step HI.out (Stp.of (lo:=0) (hi:=0) hb) (.inl (Kcq _)))
  have hs4:=hb.size
  clear hown
  replace r0:v2.cell? ⟨w.heap.size,0,none⟩=some (.int .i64 0):=(hb.cell (p:=⟨w.heap.size,0,none⟩) zr).trans r0
  replace r1:v2.cell? ⟨w.heap.size,1,none⟩=some (.int .i64 0):=(hb.cell (p:=⟨w.heap.size,1,none⟩) zr).trans r1
  replace r2:v2.cell? ⟨w.heap.size,2,none⟩=some (.bool false):=(hb.cell (p:=⟨w.heap.size,2,none⟩) zr).trans r2
  replace r3:v2.cell? ⟨w.heap.size,3,none⟩=some (.slice none 0 0):=(hb.cell (p:=⟨w.heap.size,3,none⟩) zr).trans r3
  replace r4:v2.cell? ⟨w.heap.size,4,none⟩=some (.slice none 0 0):=(hb.cell (p:=⟨w.heap.size,4,none⟩) zr).trans r4
  replace fr0:v2.frozen? ⟨w.heap.size,0,none⟩=false:=(hb.frozen (p:=⟨w.heap.size,0,none⟩) zr).trans fr0
  replace fr1:v2.frozen? ⟨w.heap.size,1,none⟩=false:=(hb.frozen (p:=⟨w.heap.size,1,none⟩) zr).trans fr1
  replace fr2:v2.frozen? ⟨w.heap.size,2,none⟩=false:=(hb.frozen (p:=⟨w.heap.size,2,none⟩) zr).trans fr2
  replace fr3:v2.frozen? ⟨w.heap.size,3,none⟩=false:=(hb.frozen (p:=⟨w.heap.size,3,none⟩) zr).trans fr3
  replace fr4:v2.frozen? ⟨w.heap.size,4,none⟩=false:=(hb.frozen (p:=⟨w.heap.size,4,none⟩) zr).trans fr4
  replace zr:w.heap.size < v2.heap.size:=Kbq zr hb.size
  replace o0:v2.cell? ⟨W0.heap.size,0,none⟩=some (.slice (some ⟨g,0,none⟩) 16 16):=(hb.cell (p:=⟨W0.heap.size,0,none⟩) zo).trans o0
  replace o1:v2.cell? ⟨W0.heap.size,1,none⟩=some (.slice none 0 0):=(hb.cell (p:=⟨W0.heap.size,1,none⟩) zo).trans o1
  replace o2:v2.cell? ⟨W0.heap.size,2,none⟩=some (.int .i64 i):=(hb.cell (p:=⟨W0.heap.size,2,none⟩) zo).trans o2
  replace o3:v2.cell? ⟨W0.heap.size,3,none⟩=some (.int .i64 l):=(hb.cell (p:=⟨W0.heap.size,3,none⟩) zo).trans o3
  replace o4:v2.cell? ⟨W0.heap.size,4,none⟩=some (.bool false):=(hb.cell (p:=⟨W0.heap.size,4,none⟩) zo).trans o4
  replace fo0:v2.frozen? ⟨W0.heap.size,0,none⟩=false:=(hb.frozen (p:=⟨W0.heap.size,0,none⟩) zo).trans fo0
  replace fo1:v2.frozen? ⟨W0.heap.size,1,none⟩=false:=(hb.frozen (p:=⟨W0.heap.size,1,none⟩) zo).trans fo1
  replace fo2:v2.frozen? ⟨W0.heap.size,2,none⟩=false:=(hb.frozen (p:=⟨W0.heap.size,2,none⟩) zo).trans fo2
  replace fo3:v2.frozen? ⟨W0.heap.size,3,none⟩=false:=(hb.frozen (p:=⟨W0.heap.size,3,none⟩) zo).trans fo3
  replace fo4:v2.frozen? ⟨W0.heap.size,4,none⟩=false:=(hb.frozen (p:=⟨W0.heap.size,4,none⟩) zo).trans fo4
  replace zo:W0.heap.size < v2.heap.size:=Kbq zo hb.size
  replace HB:=Q00 (HB.out.trans (hb.mono HB.out.size))
  clear hb
  clear hW3
  go_wp2_with fail
  obtain ⟨W5,hW5⟩:∃W,(v2.setCell ⟨W0.heap.size,1,none⟩ (.slice (some ⟨h,0,none⟩) 16 16))=W:=⟨_,rfl⟩
  have hst:Stp (W0.heap.size) (W0.heap.size+1) v2 W5:=by rw [←hW5];exact Q0s v2 (W0.heap.size) 1 _
  rw [hW5]
  have o0':W5.cell? ⟨W0.heap.size,0,none⟩=some (.slice (some ⟨g,0,none⟩) 16 16):=by rw [←hW5];simp [go_sem,o0,o1,o2,o3,o4]
  have fo0':W5.frozen? ⟨W0.heap.size,0,none⟩=false:=by rw [←hW5];simp [go_sem,fo0,fo1,fo2,fo3,fo4]
  have o1':W5.cell? ⟨W0.heap.size,1,none⟩=some (.slice (some ⟨h,0,none⟩) 16 16):=by rw [←hW5];simp [go_sem,o0,o1,o2,o3,o4]
  have fo1':W5.frozen? ⟨W0.heap.size,1,none⟩=false:=by rw [←hW5];simp [go_sem,fo0,fo1,fo2,fo3,fo4]
  have o2':W5.cell? ⟨W0.heap.size,2,none⟩=some (.int .i64 i):=by rw [←hW5];simp [go_sem,o0,o1,o2,o3,o4]
  have fo2':W5.frozen? ⟨W0.heap.size,2,none⟩=false:=by rw [←hW5];simp [go_sem,fo0,fo1,fo2,fo3,fo4]
  have o3':W5.cell? ⟨W0.heap.size,3,none⟩=some (.int .i64 l):=by rw [←hW5];simp [go_sem,o0,o1,o2,o3,o4]
  have fo3':W5.frozen? ⟨W0.heap.size,3,none⟩=false:=by rw [←hW5];simp [go_sem,fo0,fo1,fo2,fo3,fo4]
  have o4':W5.cell? ⟨W0.heap.size,4,none⟩=some (.bool false):=by rw [←hW5];simp [go_sem,o0,o1,o2,o3,o4]
  have fo4':W5.frozen? ⟨W0.heap.size,4,none⟩=false:=by rw [←hW5];simp [go_sem,fo0,fo1,fo2,fo3,fo4]
  replace o0:=o0'
  replace fo0:=fo0'
  replace o1:=o1'
  replace fo1:=fo1'
  replace o2:=o2'
  replace fo2:=fo2'
  replace o3:=o3'
  replace fo3:=fo3'
  replace o4:=o4'
  replace fo4:=fo4'
  replace zo:W0.heap.size < W5.heap.size:=Kbq zo hst.size
  replace r0:W5.cell? ⟨w.heap.size,0,none⟩=some (.int .i64 0):=hst.cell r0 zr (by omega)
  replace r1:W5.cell? ⟨w.heap.size,1,none⟩=some (.int .i64 0):=hst.cell r1 zr (by omega)
  replace r2:W5.cell? ⟨w.heap.size,2,none⟩=some (.bool false):=hst.cell r2 zr (by omega)
  replace r3:W5.cell? ⟨w.heap.size,3,none⟩=some (.slice none 0 0):=hst.cell r3 zr (by omega)
  replace r4:W5.cell? ⟨w.heap.size,4,none⟩=some (.slice none 0 0):=hst.cell r4 zr (by omega)
  replace fr0:W5.frozen? ⟨w.heap.size,0,none⟩=false:=hst.frozen fr0 zr (by omega)
  replace fr1:W5.frozen? ⟨w.heap.size,1,none⟩=false:=hst.frozen fr1 zr (by omega)
  replace fr2:W5.frozen? ⟨w.heap.size,2,none⟩=false:=hst.frozen fr2 zr (by omega)
  replace fr3:W5.frozen? ⟨w.heap.size,3,none⟩=false:=hst.frozen fr3 zr (by omega)
  replace fr4:W5.frozen? ⟨w.heap.size,4,none⟩=false:=hst.frozen fr4 zr (by omega)
  replace zr:w.heap.size < W5.heap.size:=Kbq zr hst.size
  replace HI:=Q00 (InRow.step HI.out hst (.inl (by omega)))
  replace HJ:=Q00 (InRow.step HJ.out hst (.inl (by omega)))
  have hs5:=hst.size
  replace HB:=Q00 (HB.out.trans (hst.below (by omega) HB.out.size))
  clear hst
  have HO:Hid (OwnG W1.heap.size W5.heap.size W5 (agi (.slice (some ⟨g,0,none⟩) 16 16) (.slice (some ⟨h,0,none⟩) 16 16) i l false) ⟨i,l,false,Q1k,Q1k⟩):=⟨g,h,W3.heap.size,rfl,InRow.mono HI.out (Kaq _) (by omega),InRow.mono HJ.out (Kaq _) (by omega),by omega,by omega⟩
  refine (Q4g _ ⟨i,l,false,Q1k,Q1k⟩ _ _ W5 HO.out (show 16+16≤1048576 by decide)).mono ?_
  rintro e v3 ⟨x1,rfl,hin,hb⟩
  obtain ⟨y1,y2,rfl,⟨p1,c1,rfl,_⟩,⟨p2,c2,rfl,_⟩⟩:=hin.rd
  have HK:=Q00 hin
  have hs6:=hb.size
  clear hin
  replace r0:v3.cell? ⟨w.heap.size,0,none⟩=some (.int .i64 0):=(hb.cell (p:=⟨w.heap.size,0,none⟩) zr).trans r0
  replace r1:v3.cell? ⟨w.heap.size,1,none⟩=some (.int .i64 0):=(hb.cell (p:=⟨w.heap.size,1,none⟩) zr).trans r1
  replace r2:v3.cell? ⟨w.heap.size,2,none⟩=some (.bool false):=(hb.cell (p:=⟨w.heap.size,2,none⟩) zr).trans r2
  replace r3:v3.cell? ⟨w.heap.size,3,none⟩=some (.slice none 0 0):=(hb.cell (p:=⟨w.heap.size,3,none⟩) zr).trans r3
  replace r4:v3.cell? ⟨w.heap.size,4,none⟩=some (.slice none 0 0):=(hb.cell (p:=⟨w.heap.size,4,none⟩) zr).trans r4
  replace fr0:v3.frozen? ⟨w.heap.size,0,none⟩=false:=(hb.frozen (p:=⟨w.heap.size,0,none⟩) zr).trans fr0
  replace fr1:v3.frozen? ⟨w.heap.size,1,none⟩=false:=(hb.frozen (p:=⟨w.heap.size,1,none⟩) zr).trans fr1
  replace fr2:v3.frozen? ⟨w.heap.size,2,none⟩=false:=(hb.frozen (p:=⟨w.heap.size,2,none⟩) zr).trans fr2
  replace fr3:v3.frozen? ⟨w.heap.size,3,none⟩=false:=(hb.frozen (p:=⟨w.heap.size,3,none⟩) zr).trans fr3
  replace fr4:v3.frozen? ⟨w.heap.size,4,none⟩=false:=(hb.frozen (p:=⟨w.heap.size,4,none⟩) zr).trans fr4
  replace zr:w.heap.size < v3.heap.size:=Kbq zr hb.size
  replace o0:v3.cell? ⟨W0.heap.size,0,none⟩=some (.slice (some ⟨g,0,none⟩) 16 16):=(hb.cell (p:=⟨W0.heap.size,0,none⟩) zo).trans o0
  replace o1:v3.cell? ⟨W0.heap.size,1,none⟩=some (.slice (some ⟨h,0,none⟩) 16 16):=(hb.cell (p:=⟨W0.heap.size,1,none⟩) zo).trans o1
  replace o2:v3.cell? ⟨W0.heap.size,2,none⟩=some (.int .i64 i):=(hb.cell (p:=⟨W0.heap.size,2,none⟩) zo).trans o2
  replace o3:v3.cell? ⟨W0.heap.size,3,none⟩=some (.int .i64 l):=(hb.cell (p:=⟨W0.heap.size,3,none⟩) zo).trans o3
  replace o4:v3.cell? ⟨W0.heap.size,4,none⟩=some (.bool false):=(hb.cell (p:=⟨W0.heap.size,4,none⟩) zo).trans o4
  replace fo0:v3.frozen? ⟨W0.heap.size,0,none⟩=false:=(hb.frozen (p:=⟨W0.heap.size,0,none⟩) zo).trans fo0
  replace fo1:v3.frozen? ⟨W0.heap.size,1,none⟩=false:=(hb.frozen (p:=⟨W0.heap.size,1,none⟩) zo).trans fo1
  replace fo2:v3.frozen? ⟨W0.heap.size,2,none⟩=false:=(hb.frozen (p:=⟨W0.heap.size,2,none⟩) zo).trans fo2
  replace fo3:v3.frozen? ⟨W0.heap.size,3,none⟩=false:=(hb.frozen (p:=⟨W0.heap.size,3,none⟩) zo).trans fo3
  replace fo4:v3.frozen? ⟨W0.heap.size,4,none⟩=false:=(hb.frozen (p:=⟨W0.heap.size,4,none⟩) zo).trans fo4
  replace zo:W0.heap.size < v3.heap.size:=Kbq zo hb.size
  replace HB:=Q00 (HB.out.trans (hb.mono HB.out.size))
  clear hb
  clear hW5
  go_wp2
  refine bodyPost_ret (v:=.tuple #[agt i l false (.slice p1 16 c1) (.slice p2 16 c2),.bool true]) (by simp [results,Try.results31,go_sem,r0,r1,r2,r3,r4]) rfl ⟨_,by rw [HB0.out];rfl, ?_,Q07 HB.out (Kaq _) _ _ _ _ _⟩
  rw [HM.out]
  exact (HK.out.step (Q04 _ w.heap.size (.int .i64 i) (.int .i64 l) (.bool false) (.slice p1 16 c1) (.slice p2 16 c2)) (.inl (by omega))).mono (by omega) (by simp)
 ·cases bk <;> cases bl <;> first|(exfalso;simp at hall;done)|skip
  all_goals (
   clear hall
   go_enter Try.func31,Try.ntmps31
   go_wp2_with (first|(go_at_call 50;refine (hbk _).mono ?_;rintro e w9 ⟨rfl,rfl⟩)|(go_at_call 40;refine (hli _).mono ?_;rintro e w9 ⟨rfl,rfl⟩))
   refine bodyPost_ret (v:=.tuple #[agt 0 0 false (.slice none 0 0) (.slice none 0 0),.bool false]) (by simp [results,Try.results31,go_sem,r0,r1,r2,r3,r4]) rfl ⟨_,by rw [HB0.out];rfl, ?_,Q07 HB.out (Kaq _) _ _ _ _ _⟩
   rw [HM.out]
   exact Q58 (by simp;omega))
end Go.Proofs.Ytljogkoaaidlcaa
