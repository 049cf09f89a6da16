/- The laws' 'agents': the last one takes what is hunted. -/
import Derived.Deep.DeepCutAuto
import Derived.Test.YtljogkoaaidlcaaQHandL38
import Derived.Test.YtljogkoaaidlcaaQHandL33
namespace Go.Proofs.Ytljogkoaaidlcaa
open Go.ChangeShapes Go.WideShapes Go.ChangeAt Go.RowKit Go.Joins
set_option linter.unusedVariables false
set_option linter.unusedSimpArgs false
set_option maxRecDepth 100000
set_option maxHeartbeats 40000000
theorem Q28 (a p:Int) (w:World):Calls Try.prog 32 #[Q2S a p] w fun e w'=> e=.returned (pkt a p 1 0 (.slice none 0 0))∧Below w.heap.size w w':=by
 obtain ⟨W0,hW0⟩:∃W,((w.alloc (.cells #[.int .i64 a,.int .i64 p] 29)).alloc (.cells #[.int .i64 0,.int .i64 0,.int .i64 0,.int .i64 0,.slice none 0 0] 31))=W:=⟨_,rfl⟩
 have hb0:Below w.heap.size w W0:=by rw [←hW0];exact ((Below.refl _ _).alloc (Kaq _) _).alloc (by simp) _
 have f0:W0.cell? ⟨w.heap.size,0,none⟩=some (.int .i64 a):=by rw [←hW0];simp [go_sem]
 have f1:W0.cell? ⟨w.heap.size,1,none⟩=some (.int .i64 p):=by rw [←hW0];simp [go_sem]
 have hp:W0.heap[w.heap.size+1]? =some (.cells #[.int .i64 0,.int .i64 0,.int .i64 0,.int .i64 0,.slice none 0 0] 31 (0,0)):=by
  have h:=World.alloc_heap_new (w.alloc (.cells #[.int .i64 a,.int .i64 p] 29)) (.cells #[.int .i64 0,.int .i64 0,.int .i64 0,.int .i64 0,.slice none 0 0] 31)
  rw [World.size_alloc] at h
  rw [←hW0];exact h
 have p0:=Q02 hp 0 _ rfl
 have p1:=Q02 hp 1 _ rfl
 have p2:=Q02 hp 2 _ rfl
 have p3:=Q02 hp 3 _ rfl
 have p4:=Q02 hp 4 _ rfl
 have q0:=Q0f hp 0
 have q1:=Q0f hp 1
 have q2:=Q0f hp 2
 have q3:=Q0f hp 3
 have q4:=Q0f hp 4
 have HB:=Q00 (Q07 hb0 (show w.heap.size≤w.heap.size+1 by omega) (.int .i64 a) (.int .i64 p) (.int .i64 1) (.int .i64 0) (.slice none 0 0))
 clear hb0 hp
 go_enter Try.func32,Try.ntmps32
 go_wp2
 refine bodyPost_ret (v:=pkt a p 1 0 (.slice none 0 0)) (by simp [results,Try.results32,go_sem,p0,p1,p2,p3,p4]) rfl ⟨rfl,HB.out⟩
def Q6i:Am:=⟨2,0,false,Q1k,Q1k⟩
def Q85:Am:=Q5W Q6i 0 1 80 1 0 0 [(2,1)] 0 0
theorem Q5D:Q6h 2 0=true∧Q7O 2 0=Q6i:=⟨by decide+kernel,by unfold Q7O;rw [if_pos (by decide+kernel)];rfl⟩
theorem Q7X:Q7Y Q6i 0 1 80 1 0 0 [(2,1)] 0 0=1:=by decide+kernel
theorem ag21_holds:Q14 Q85 1 80=true:=by decide+kernel
theorem Q83:Q0o Q85=true:=by decide+kernel
theorem Q3i:Q85.c.length=16∧Q85.t.length=16:=by decide+kernel
theorem Q5H (w:World):Calls Try.prog 31 #[.int .i64 2,.int .i64 0] w fun e w'=> ∃oc cc ot ct,e=.returned (.tuple #[(agt 2 0 false (.slice oc 16 cc) (.slice ot 16 ct)),.bool true])∧RdA w'.heap.size w' (agt 2 0 false (.slice oc 16 cc) (.slice ot 16 ct)) Q6i∧Below w.heap.size w w':=by
 have hN:=Q3a 2 0 w
 rw [Q5D.1,Q5D.2] at hN
 refine hN.mono ?_
 rintro e w' ⟨v,rfl,hin,hb⟩
 have hr:=hin.rd
 obtain ⟨vc,vt,rfl,⟨oc,cc,rfl,rc⟩,⟨ot,ct,rfl,rt⟩⟩:=hr
 exact ⟨oc,cc,ot,ct,rfl,⟨_,_,rfl,⟨oc,cc,rfl,rc⟩,⟨ot,ct,rfl,rt⟩⟩,hb⟩
theorem Q4d (x0:World) (s:Obj) (zs:Array Value) (T:TypeId):((x0.alloc s).alloc (.cells zs T)).heap[x0.heap.size+1]? =some (.cells zs T (0,0)):=by
 have h:=World.alloc_heap_new (x0.alloc s) (.cells zs T)
 rw [World.size_alloc] at h;exact h
theorem Q3O (x0:World) (s:Obj) (zs:Array Value) (T:TypeId):((x0.alloc (.cells zs T)).alloc s).heap[x0.heap.size]? =some (.cells zs T (0,0)):=by
 have h:=World.alloc_heap_new x0 (.cells zs T)
 exact (((Below.refl _ (x0.alloc (.cells zs T))).alloc (Kaq _) s).block x0.heap.size (by rw [World.size_alloc];exact Nat.lt_succ_self _)).trans h
theorem Q54 (W:World) (zs:Array Value) (T:TypeId):(W.alloc (.cells zs T)).drew.heap[W.heap.size]? =some (.cells zs T (0,0)):=World.alloc_heap_new W (.cells zs T)
theorem Q52 (W:World) (s:Obj) (zs:Array Value) (T:TypeId):((W.alloc s).alloc (.cells zs T)).drew.heap[W.heap.size+1]? =some (.cells zs T (0,0)):=Q4d W s zs T
theorem Q50 (W:World) (s:Obj) (zs:Array Value) (T:TypeId):((W.alloc (.cells zs T)).alloc s).drew.heap[W.heap.size]? =some (.cells zs T (0,0)):=Q3O W s zs T
theorem Q5c (W:World) (s:Obj) (B:Nat) (o:Obj) (h:W.heap[B]? =some o):(W.alloc s).heap[B]? =some o:=
 (((Below.refl W.heap.size W).alloc (Kaq _) s).block B (Array.getElem?_eq_some_iff.1 h).1).trans h
theorem Q4q (M:Am) (hM:Q85=M) (oc:Option Addr) (cc:Nat) (ot:Option Addr) (ct g B:Nat) (z0 z1 z2 z3 z4:Value) (T:TypeId) (w:World) (hR:RdA w.heap.size w (agt 2 0 false (.slice oc 16 cc) (.slice ot 16 ct)) Q6i) (hg:g < w.heap.size) (h0:w.cell? ⟨g,0,none⟩=some (.int .i64 2)) (h1:w.cell? ⟨g,1,none⟩=some (.int .i64 1)) (hz:w.heap[B]? =some (.cells #[z0,z1,z2,z3,z4] T (0,0))):
  Calls Try.prog 6 #[.agg #[.int .i64 2,.int .i64 0,.bool false,.slice oc 16 cc,.slice ot 16 ct],.int .i64 0,.agg #[.int .i64 1,.int .i64 80,.int .i64 1,.int .i64 0,.slice none 0 0,.slice (some ⟨g,0,none⟩) 1 1,.int .i64 0,.int .i64 0]] w fun e w'=> ∃oc2 cc2 ot2 ct2,e=.returned (.tuple #[.agg #[.int .i64 M.id,.int .i64 M.lim,.bool M.dr,.slice oc2 16 cc2,.slice ot2 16 ct2],.int .i64 1])∧Hid (w'.heap[B]? =some (.cells #[z0,z1,z2,z3,z4] T (0,0)))∧Hid (RdA w'.heap.size ((((((w'.setCell ⟨B,0,none⟩ (.int .i64 M.id)).setCell ⟨B,1,none⟩ (.int .i64 M.lim)).setCell ⟨B,2,none⟩ (.bool M.dr)).setCell ⟨B,3,none⟩ (.slice oc2 16 cc2)).setCell ⟨B,4,none⟩ (.slice ot2 16 ct2))) (agt M.id M.lim M.dr (.slice oc2 16 cc2) (.slice ot2 16 ct2)) M)∧Hid (Below w.heap.size w w'):=by
 have hH:=Q1H (agt 2 0 false (.slice oc 16 cc) (.slice ot 16 ct)) Q6i 0 1 80 1 0 none (some ⟨g,0,none⟩) 0 0 1 [(2,1)] 0 0 w hR (by decide) (by unfold maxLen;decide) (by unfold maxLen;decide) (.inr ⟨g,0,rfl,hg,fun i hi=> by
  have hi0:i=0:=by simpa using hi
  subst hi0
  exact ⟨by simpa using h0,by simpa using h1⟩⟩)
 rw [Q7X,show Q5W Q6i 0 1 80 1 0 0 [(2,1)] 0 0=M from hM] at hH
 refine hH.mono ?_
 rintro e w' ⟨v,rfl,hin,hb⟩
 have hl:M.c.length=16∧M.t.length=16:=hM ▸ Q3i
 have hr:=hin.rd
 obtain ⟨vc,vt,rfl,⟨oc2,cc2,rfl,rc⟩,⟨ot2,ct2,rfl,rt⟩⟩:=hr
 have hB:B < w.heap.size:=(Array.getElem?_eq_some_iff.1 hz).1
 rw [hl.1,hl.2] at hin ⊢
 exact ⟨oc2,cc2,ot2,ct2,rfl,Q00 ((hb.block B hB).trans hz),Q00 (InA.rd (InA.step hin (Q04 w' B _ _ _ _ _) (.inl hB))),Q00 hb⟩
theorem Q3S (M:Am) (hM:Q85=M) (oc:Option Addr) (cc:Nat) (ot:Option Addr) (ct g:Nat) (w:World) (hR:RdA w.heap.size w (agt 2 0 false (.slice oc 16 cc) (.slice ot 16 ct)) Q6i) (hg:g < w.heap.size) (h0:w.cell? ⟨g,0,none⟩=some (.int .i64 2)) (h1:w.cell? ⟨g,1,none⟩=some (.int .i64 1)):
  Calls Try.prog 6 #[.agg #[.int .i64 2,.int .i64 0,.bool false,.slice oc 16 cc,.slice ot 16 ct],.int .i64 0,.agg #[.int .i64 1,.int .i64 80,.int .i64 1,.int .i64 0,.slice none 0 0,.slice (some ⟨g,0,none⟩) 1 1,.int .i64 0,.int .i64 0]] w fun e w'=> ∃oc2 cc2 ot2 ct2,e=.returned (.tuple #[.agg #[.int .i64 M.id,.int .i64 M.lim,.bool M.dr,.slice oc2 16 cc2,.slice ot2 16 ct2],.int .i64 1])∧Hid (RdA w'.heap.size w' (agt M.id M.lim M.dr (.slice oc2 16 cc2) (.slice ot2 16 ct2)) M)∧Hid (Below w.heap.size w w'):=by
 have hH:=Q1H (agt 2 0 false (.slice oc 16 cc) (.slice ot 16 ct)) Q6i 0 1 80 1 0 none (some ⟨g,0,none⟩) 0 0 1 [(2,1)] 0 0 w hR (by decide) (by unfold maxLen;decide) (by unfold maxLen;decide) (.inr ⟨g,0,rfl,hg,fun i hi=> by
  have hi0:i=0:=by simpa using hi
  subst hi0
  exact ⟨by simpa using h0,by simpa using h1⟩⟩)
 rw [Q7X,show Q5W Q6i 0 1 80 1 0 0 [(2,1)] 0 0=M from hM] at hH
 refine hH.mono ?_
 rintro e w' ⟨v,rfl,hin,hb⟩
 have hl:M.c.length=16∧M.t.length=16:=hM ▸ Q3i
 have hr:=hin.rd
 obtain ⟨vc,vt,rfl,⟨oc2,cc2,rfl,rc⟩,⟨ot2,ct2,rfl,rt⟩⟩:=hr
 rw [hl.1,hl.2] at hin ⊢
 exact ⟨oc2,cc2,ot2,ct2,rfl,Q00 hin.rd,Q00 hb⟩
theorem Q5v {W:World} {B:Nat} {T:TypeId} {z0 z1 z2 z3 z4:Value} (hZ:W.heap[B]? =some (.cells #[z0,z1,z2,z3,z4] T (0,0))) (a b c d e:Value):
  (((((W.setCell ⟨B,0,none⟩ a).setCell ⟨B,1,none⟩ b).setCell ⟨B,2,none⟩ c).setCell ⟨B,3,none⟩ d).setCell ⟨B,4,none⟩ e).heap[B]? =some (.cells #[a,b,c,d,e] T (0,0)):=by
 simp [World.setCell,Array.getElem?_modify,hZ]
theorem Q2o {M:Am} {cur W:World} {B:Nat} {T:TypeId} {oc2 ot2:Option Addr} {cc2 ct2:Nat} {z0 z1 z2 z3 z4:Value} (hZ:Hid (W.heap[B]? =some (.cells #[z0,z1,z2,z3,z4] T (0,0)))) (hR:Hid (RdA W.heap.size ((((((W.setCell ⟨B,0,none⟩ (.int .i64 M.id)).setCell ⟨B,1,none⟩ (.int .i64 M.lim)).setCell ⟨B,2,none⟩ (.bool M.dr)).setCell ⟨B,3,none⟩ (.slice oc2 16 cc2)).setCell ⟨B,4,none⟩ (.slice ot2 16 ct2))) (agt M.id M.lim M.dr (.slice oc2 16 cc2) (.slice ot2 16 ct2)) M)) (hx:Hid (Below cur.heap.size cur W)) (hB:cur.heap.size≤B):
  ∃B' oc' cc' ot' ct',Value.pointer (some ⟨B,0,none⟩)=.pointer (some ⟨B',0,none⟩)∧Value.int .i64 1=.int .i64 1∧Hid (((((((W.setCell ⟨B,0,none⟩ (.int .i64 M.id)).setCell ⟨B,1,none⟩ (.int .i64 M.lim)).setCell ⟨B,2,none⟩ (.bool M.dr)).setCell ⟨B,3,none⟩ (.slice oc2 16 cc2)).setCell ⟨B,4,none⟩ (.slice ot2 16 ct2))).heap[B']? =some (.cells #[.int .i64 M.id,.int .i64 M.lim,.bool M.dr,.slice oc' 16 cc',.slice ot' 16 ct'] T (0,0)))∧Hid (Below cur.heap.size cur ((((((W.setCell ⟨B,0,none⟩ (.int .i64 M.id)).setCell ⟨B,1,none⟩ (.int .i64 M.lim)).setCell ⟨B,2,none⟩ (.bool M.dr)).setCell ⟨B,3,none⟩ (.slice oc2 16 cc2)).setCell ⟨B,4,none⟩ (.slice ot2 16 ct2))))∧B' < ((((((W.setCell ⟨B,0,none⟩ (.int .i64 M.id)).setCell ⟨B,1,none⟩ (.int .i64 M.lim)).setCell ⟨B,2,none⟩ (.bool M.dr)).setCell ⟨B,3,none⟩ (.slice oc2 16 cc2)).setCell ⟨B,4,none⟩ (.slice ot2 16 ct2))).heap.size∧Hid (RdA ((((((W.setCell ⟨B,0,none⟩ (.int .i64 M.id)).setCell ⟨B,1,none⟩ (.int .i64 M.lim)).setCell ⟨B,2,none⟩ (.bool M.dr)).setCell ⟨B,3,none⟩ (.slice oc2 16 cc2)).setCell ⟨B,4,none⟩ (.slice ot2 16 ct2))).heap.size ((((((W.setCell ⟨B,0,none⟩ (.int .i64 M.id)).setCell ⟨B,1,none⟩ (.int .i64 M.lim)).setCell ⟨B,2,none⟩ (.bool M.dr)).setCell ⟨B,3,none⟩ (.slice oc2 16 cc2)).setCell ⟨B,4,none⟩ (.slice ot2 16 ct2))) (agt M.id M.lim M.dr (.slice oc' 16 cc') (.slice ot' 16 ct')) M):=by
 refine ⟨B,oc2,cc2,ot2,ct2,rfl,rfl,Q00 (Q5v hZ.out _ _ _ _ _),Q00 (Q07 hx.out hB _ _ _ _ _), ?_,Q00 ?_⟩
 ·rw [Q18];exact (Array.getElem?_eq_some_iff.1 hZ.out).1
 ·rw [Q18];exact hR.out
theorem Q5g {M:Am} {cur W:World} {T:TypeId} {oc2 ot2:Option Addr} {cc2 ct2:Nat} (hR:Hid (RdA W.heap.size W (agt M.id M.lim M.dr (.slice oc2 16 cc2) (.slice ot2 16 ct2)) M)) (hx:Hid (Below cur.heap.size cur W)):
  ∃B' oc' cc' ot' ct',Value.pointer (some ⟨W.heap.size,0,none⟩)=.pointer (some ⟨B',0,none⟩)∧Value.int .i64 1=.int .i64 1∧Hid ((W.alloc (.cells #[.int .i64 M.id,.int .i64 M.lim,.bool M.dr,.slice oc2 16 cc2,.slice ot2 16 ct2] T)).heap[B']? =some (.cells #[.int .i64 M.id,.int .i64 M.lim,.bool M.dr,.slice oc' 16 cc',.slice ot' 16 ct'] T (0,0)))∧Hid (Below cur.heap.size cur (W.alloc (.cells #[.int .i64 M.id,.int .i64 M.lim,.bool M.dr,.slice oc2 16 cc2,.slice ot2 16 ct2] T)))∧B' < (W.alloc (.cells #[.int .i64 M.id,.int .i64 M.lim,.bool M.dr,.slice oc2 16 cc2,.slice ot2 16 ct2] T)).heap.size∧Hid (RdA (W.alloc (.cells #[.int .i64 M.id,.int .i64 M.lim,.bool M.dr,.slice oc2 16 cc2,.slice ot2 16 ct2] T)).heap.size (W.alloc (.cells #[.int .i64 M.id,.int .i64 M.lim,.bool M.dr,.slice oc2 16 cc2,.slice ot2 16 ct2] T)) (agt M.id M.lim M.dr (.slice oc' 16 cc') (.slice ot' 16 ct')) M):=
 have hb:=(Below.refl W.heap.size W).alloc (Kaq _) (.cells #[.int .i64 M.id,.int .i64 M.lim,.bool M.dr,.slice oc2 16 cc2,.slice ot2 16 ct2] T)
 ⟨W.heap.size,oc2,cc2,ot2,ct2,rfl,rfl,Q00 (World.alloc_heap_new W _),Q00 (hx.out.alloc hx.out.size _),by simp,Q00 ((hR.out.kept hb (Kaq _)).le hb.size)⟩
theorem Q0T (w:World):Calls Try.prog 7 #[] w fun e w'=> e=.returned (.bool true)∧Below w.heap.size w w':=by
 obtain ⟨M,hM⟩:∃M,Q85=M:=⟨_,rfl⟩
 have HH:=Q00 (fun oc cc ot ct g B z0 z1 z2 z3 z4 T W hR hg h0 h1 hz=> Q4q M hM oc cc ot ct g B z0 z1 z2 z3 z4 T W hR hg h0 h1 hz)
 have HG:=Q00 (fun oc cc ot ct g W hR hg h0 h1=> Q3S M hM oc cc ot ct g W hR hg h0 h1)
 have HL:Hid (M.c.length+M.t.length≤1048576):=by unfold Hid;rw [←hM,Q3i.1,Q3i.2];decide
 have HQ:Hid (Q14 M 1 80=true∧Q0o M=true):=by unfold Hid;rw [←hM];exact ⟨ag21_holds,Q83⟩
 clear hM
 go_enter Try.func7,Try.ntmps7
 go_wp2_with fail
 refine (Q5H w).mono ?_
 rintro e v1 ⟨oc,cc,ot,ct,rfl,hr,hb1⟩
 obtain ⟨W3,hW3⟩:∃W,((v1.alloc (.cells #[.int .i64 2,.int .i64 0,.bool false,.slice oc 16 cc,.slice ot 16 ct] 27)).alloc (.cells #[.int .i64 1,.int .i64 80] 29))=W:=⟨_,rfl⟩
 have hb3:Below v1.heap.size v1 W3:=by rw [←hW3];exact ((Below.refl _ _).alloc (Kaq _) _).alloc (by simp) _
 have hz3:v1.heap.size+1 < W3.heap.size:=by rw [←hW3];simp
 have a0:W3.cell? ⟨v1.heap.size,0,none⟩=some (.int .i64 2):=by rw [←hW3];simp [go_sem]
 have a1:W3.cell? ⟨v1.heap.size,1,none⟩=some (.int .i64 0):=by rw [←hW3];simp [go_sem]
 have a2:W3.cell? ⟨v1.heap.size,2,none⟩=some (.bool false):=by rw [←hW3];simp [go_sem]
 have a3:W3.cell? ⟨v1.heap.size,3,none⟩=some (.slice oc 16 cc):=by rw [←hW3];simp [go_sem]
 have a4:W3.cell? ⟨v1.heap.size,4,none⟩=some (.slice ot 16 ct):=by rw [←hW3];simp [go_sem]
 have q0:W3.cell? ⟨v1.heap.size+1,0,none⟩=some (.int .i64 1):=by rw [←hW3];simp [go_sem]
 have q1:W3.cell? ⟨v1.heap.size+1,1,none⟩=some (.int .i64 80):=by rw [←hW3];simp [go_sem]
 have HR3:=Q00 (fun W (hb:Below W3.heap.size W3 W)=> ((hr.kept (hb3.trans (hb.mono hb3.size)) (Kaq _)).le (Kdq hb3.size hb.size):RdA W.heap.size W (agt 2 0 false (.slice oc 16 cc) (.slice ot 16 ct)) Q6i))
 have HB3:=Q00 (hb1.trans (hb3.mono hb1.size))
 have s1:=hb1.size
 have ne1:v1.heap.size < W3.heap.size:=by omega
 have ne2:v1.heap.size < W3.heap.size+1:=by omega
 clear hr hb1 hb3
 go_upto_region 3 with fail
 go_cut [4,5] (fun s4 s5 wx=> ∃B oc2 cc2 ot2 ct2,s4=.pointer (some ⟨B,0,none⟩)∧s5=.int .i64 1∧Hid (wx.heap[B]? =some (.cells #[.int .i64 M.id,.int .i64 M.lim,.bool M.dr,.slice oc2 16 cc2,.slice ot2 16 ct2] 27 (0,0)))∧Hid (Below W3.heap.size W3 wx)∧B < wx.heap.size∧Hid (RdA wx.heap.size wx (agt M.id M.lim M.dr (.slice oc2 16 cc2) (.slice ot2 16 ct2)) M))
 case first=>
  go_region_with (first|(go_at_call 32;have hc_:=Q28 1 80 W3.drew;with_reducible refine hc_.mono ?_;clear hc_;rintro e x0 ⟨rfl,hb⟩;have hx0:Below W3.heap.size W3 x0:=(Below.drew (Below.refl _ _)).trans (hb.mono (by simp));have a0x:=(hx0.cell (p:=⟨v1.heap.size,0,none⟩) (show v1.heap.size < W3.heap.size by omega)).trans a0;have a1x:=(hx0.cell (p:=⟨v1.heap.size,1,none⟩) (show v1.heap.size < W3.heap.size by omega)).trans a1;have a2x:=(hx0.cell (p:=⟨v1.heap.size,2,none⟩) (show v1.heap.size < W3.heap.size by omega)).trans a2;have a3x:=(hx0.cell (p:=⟨v1.heap.size,3,none⟩) (show v1.heap.size < W3.heap.size by omega)).trans a3;have a4x:=(hx0.cell (p:=⟨v1.heap.size,4,none⟩) (show v1.heap.size < W3.heap.size by omega)).trans a4;have q0x:=(hx0.cell (p:=⟨v1.heap.size+1,0,none⟩) (show v1.heap.size+1 < W3.heap.size by omega)).trans q0;have q1x:=(hx0.cell (p:=⟨v1.heap.size+1,1,none⟩) (show v1.heap.size+1 < W3.heap.size by omega)).trans q1;have nx0:=hx0.size;have nx1:v1.heap.size < x0.heap.size:=(by omega);have nx2:v1.heap.size < x0.heap.size+1:=(by omega);have nx3:v1.heap.size+1 < x0.heap.size:=(by omega);clear nx0;clear hb)|(go_at_call 32;have hc_:=Q28 1 80 (W3.alloc (.cells #[.int .i64 2,.int .i64 1] 41)).drew;with_reducible refine hc_.mono ?_;clear hc_;rintro e x0 ⟨rfl,hb⟩;have hx0:Below W3.heap.size W3 x0:=(Below.drew ((Below.refl W3.heap.size W3).alloc (Kaq _) (.cells #[.int .i64 2,.int .i64 1] 41))).trans (hb.mono (by simp));have a0x:=(hx0.cell (p:=⟨v1.heap.size,0,none⟩) (show v1.heap.size < W3.heap.size by omega)).trans a0;have a1x:=(hx0.cell (p:=⟨v1.heap.size,1,none⟩) (show v1.heap.size < W3.heap.size by omega)).trans a1;have a2x:=(hx0.cell (p:=⟨v1.heap.size,2,none⟩) (show v1.heap.size < W3.heap.size by omega)).trans a2;have a3x:=(hx0.cell (p:=⟨v1.heap.size,3,none⟩) (show v1.heap.size < W3.heap.size by omega)).trans a3;have a4x:=(hx0.cell (p:=⟨v1.heap.size,4,none⟩) (show v1.heap.size < W3.heap.size by omega)).trans a4;have q0x:=(hx0.cell (p:=⟨v1.heap.size+1,0,none⟩) (show v1.heap.size+1 < W3.heap.size by omega)).trans q0;have q1x:=(hx0.cell (p:=⟨v1.heap.size+1,1,none⟩) (show v1.heap.size+1 < W3.heap.size by omega)).trans q1;have sg0:W3.heap.size < x0.heap.size:=Kbq (by simp) hb.size;have sg1:x0.cell? ⟨W3.heap.size,0,none⟩=some (.int .i64 2):=(hb.cell (p:=⟨W3.heap.size,0,none⟩) (by simp)).trans (by simp [go_sem]);have sg2:x0.cell? ⟨W3.heap.size,1,none⟩=some (.int .i64 1):=(hb.cell (p:=⟨W3.heap.size,1,none⟩) (by simp)).trans (by simp [go_sem]);have nx0:=hx0.size;have nx1:v1.heap.size < x0.heap.size:=(by omega);have nx2:v1.heap.size < x0.heap.size+1:=(by omega);have nx3:v1.heap.size+1 < x0.heap.size:=(by omega);clear nx0;clear hb)|(go_at_call 32;have hc_:=Q28 1 80 (W3.alloc (.cells #[.int .i64 0,.int .i64 0,.bool false,.slice none 0 0,.slice none 0 0] 27)).drew;with_reducible refine hc_.mono ?_;clear hc_;rintro e x0 ⟨rfl,hb⟩;have hx0:Below W3.heap.size W3 x0:=(Below.drew ((Below.refl W3.heap.size W3).alloc (Kaq _) (.cells #[.int .i64 0,.int .i64 0,.bool false,.slice none 0 0,.slice none 0 0] 27))).trans (hb.mono (by simp));have a0x:=(hx0.cell (p:=⟨v1.heap.size,0,none⟩) (show v1.heap.size < W3.heap.size by omega)).trans a0;have a1x:=(hx0.cell (p:=⟨v1.heap.size,1,none⟩) (show v1.heap.size < W3.heap.size by omega)).trans a1;have a2x:=(hx0.cell (p:=⟨v1.heap.size,2,none⟩) (show v1.heap.size < W3.heap.size by omega)).trans a2;have a3x:=(hx0.cell (p:=⟨v1.heap.size,3,none⟩) (show v1.heap.size < W3.heap.size by omega)).trans a3;have a4x:=(hx0.cell (p:=⟨v1.heap.size,4,none⟩) (show v1.heap.size < W3.heap.size by omega)).trans a4;have q0x:=(hx0.cell (p:=⟨v1.heap.size+1,0,none⟩) (show v1.heap.size+1 < W3.heap.size by omega)).trans q0;have q1x:=(hx0.cell (p:=⟨v1.heap.size+1,1,none⟩) (show v1.heap.size+1 < W3.heap.size by omega)).trans q1;have zsb:x0.heap[W3.heap.size]? =some (.cells #[.int .i64 0,.int .i64 0,.bool false,.slice none 0 0,.slice none 0 0] 27 (0,0)):=(hb.block (W3.heap.size) (by simp)).trans (Q54 W3 _ _);have nx0:=hx0.size;have nx1:v1.heap.size < x0.heap.size:=(by omega);have nx2:v1.heap.size < x0.heap.size+1:=(by omega);have nx3:v1.heap.size+1 < x0.heap.size:=(by omega);clear nx0;clear hb)|(go_at_call 32;have hc_:=Q28 1 80 ((W3.alloc (.cells #[.int .i64 2,.int .i64 1] 41)).alloc (.cells #[.int .i64 0,.int .i64 0,.bool false,.slice none 0 0,.slice none 0 0] 27)).drew;with_reducible refine hc_.mono ?_;clear hc_;rintro e x0 ⟨rfl,hb⟩;have hx0:Below W3.heap.size W3 x0:=(Below.drew (((Below.refl W3.heap.size W3).alloc (Kaq _) (.cells #[.int .i64 2,.int .i64 1] 41)).alloc (by simp) (.cells #[.int .i64 0,.int .i64 0,.bool false,.slice none 0 0,.slice none 0 0] 27))).trans (hb.mono (by simp <;> omega));have a0x:=(hx0.cell (p:=⟨v1.heap.size,0,none⟩) (show v1.heap.size < W3.heap.size by omega)).trans a0;have a1x:=(hx0.cell (p:=⟨v1.heap.size,1,none⟩) (show v1.heap.size < W3.heap.size by omega)).trans a1;have a2x:=(hx0.cell (p:=⟨v1.heap.size,2,none⟩) (show v1.heap.size < W3.heap.size by omega)).trans a2;have a3x:=(hx0.cell (p:=⟨v1.heap.size,3,none⟩) (show v1.heap.size < W3.heap.size by omega)).trans a3;have a4x:=(hx0.cell (p:=⟨v1.heap.size,4,none⟩) (show v1.heap.size < W3.heap.size by omega)).trans a4;have q0x:=(hx0.cell (p:=⟨v1.heap.size+1,0,none⟩) (show v1.heap.size+1 < W3.heap.size by omega)).trans q0;have q1x:=(hx0.cell (p:=⟨v1.heap.size+1,1,none⟩) (show v1.heap.size+1 < W3.heap.size by omega)).trans q1;have sc0:W3.heap.size < x0.heap.size:=Kbq (by simp <;> omega) hb.size;have sc1:x0.cell? ⟨W3.heap.size,0,none⟩=some (.int .i64 2):=(hb.cell (p:=⟨W3.heap.size,0,none⟩) (by simp <;> omega)).trans (by simp [go_sem]);have sc2:x0.cell? ⟨W3.heap.size,1,none⟩=some (.int .i64 1):=(hb.cell (p:=⟨W3.heap.size,1,none⟩) (by simp <;> omega)).trans (by simp [go_sem]);have zsc:x0.heap[W3.heap.size+1]? =some (.cells #[.int .i64 0,.int .i64 0,.bool false,.slice none 0 0,.slice none 0 0] 27 (0,0)):=(hb.block (W3.heap.size+1) (by simp <;> omega)).trans (Q52 W3 (.cells #[.int .i64 2,.int .i64 1] 41) _ _);have nx0:=hx0.size;have nx1:v1.heap.size < x0.heap.size:=(by omega);have nx2:v1.heap.size < x0.heap.size+1:=(by omega);have nx3:v1.heap.size+1 < x0.heap.size:=(by omega);clear nx0;clear hb)|(go_at_call 32;have hc_:=Q28 1 80 ((W3.alloc (.cells #[.int .i64 0,.int .i64 0,.bool false,.slice none 0 0,.slice none 0 0] 27)).alloc (.cells #[.int .i64 2,.int .i64 1] 41)).drew;with_reducible refine hc_.mono ?_;clear hc_;rintro e x0 ⟨rfl,hb⟩;have hx0:Below W3.heap.size W3 x0:=(Below.drew (((Below.refl W3.heap.size W3).alloc (Kaq _) (.cells #[.int .i64 0,.int .i64 0,.bool false,.slice none 0 0,.slice none 0 0] 27)).alloc (by simp) (.cells #[.int .i64 2,.int .i64 1] 41))).trans (hb.mono (by simp <;> omega));have a0x:=(hx0.cell (p:=⟨v1.heap.size,0,none⟩) (show v1.heap.size < W3.heap.size by omega)).trans a0;have a1x:=(hx0.cell (p:=⟨v1.heap.size,1,none⟩) (show v1.heap.size < W3.heap.size by omega)).trans a1;have a2x:=(hx0.cell (p:=⟨v1.heap.size,2,none⟩) (show v1.heap.size < W3.heap.size by omega)).trans a2;have a3x:=(hx0.cell (p:=⟨v1.heap.size,3,none⟩) (show v1.heap.size < W3.heap.size by omega)).trans a3;have a4x:=(hx0.cell (p:=⟨v1.heap.size,4,none⟩) (show v1.heap.size < W3.heap.size by omega)).trans a4;have q0x:=(hx0.cell (p:=⟨v1.heap.size+1,0,none⟩) (show v1.heap.size+1 < W3.heap.size by omega)).trans q0;have q1x:=(hx0.cell (p:=⟨v1.heap.size+1,1,none⟩) (show v1.heap.size+1 < W3.heap.size by omega)).trans q1;have sd0:W3.heap.size+1 < x0.heap.size:=Kbq (by simp <;> omega) hb.size;have sd1:x0.cell? ⟨W3.heap.size+1,0,none⟩=some (.int .i64 2):=(hb.cell (p:=⟨W3.heap.size+1,0,none⟩) (by simp <;> omega)).trans (by simp [go_sem]);have sd2:x0.cell? ⟨W3.heap.size+1,1,none⟩=some (.int .i64 1):=(hb.cell (p:=⟨W3.heap.size+1,1,none⟩) (by simp <;> omega)).trans (by simp [go_sem]);have zsd:x0.heap[W3.heap.size]? =some (.cells #[.int .i64 0,.int .i64 0,.bool false,.slice none 0 0,.slice none 0 0] 27 (0,0)):=(hb.block (W3.heap.size) (by simp <;> omega)).trans (Q50 W3 (.cells #[.int .i64 2,.int .i64 1] 41) _ _);have nx0:=hx0.size;have nx1:v1.heap.size < x0.heap.size:=(by omega);have nx2:v1.heap.size < x0.heap.size+1:=(by omega);have nx3:v1.heap.size+1 < x0.heap.size:=(by omega);clear nx0;clear hb)|(go_at_call 6;have hw_:Below W3.heap.size W3 (x0.alloc (.cells #[.int .i64 2,.int .i64 1] 41)):=(hx0.alloc hx0.size (.cells #[.int .i64 2,.int .i64 1] 41));have hc_:=HH.out oc cc ot ct x0.heap.size W3.heap.size _ _ _ _ _ _ (x0.alloc (.cells #[.int .i64 2,.int .i64 1] 41)) (HR3.out (x0.alloc (.cells #[.int .i64 2,.int .i64 1] 41)) hw_) (by simp) (by simp [go_sem]) (by simp [go_sem]) (Q5c x0 (.cells #[.int .i64 2,.int .i64 1] 41) W3.heap.size _ zsb);with_reducible refine hc_.mono ?_;clear hc_;rintro e x1 ⟨oc2,cc2,ot2,ct2,rfl,HZ,HR2,HX⟩;have HX1:=Q00 (hw_.trans (HX.out.mono hw_.size));clear hw_ HX;have b0:=(HX1.out.cell (p:=⟨v1.heap.size+1,0,none⟩) hz3).trans q0;have b1:=(HX1.out.cell (p:=⟨v1.heap.size+1,1,none⟩) hz3).trans q1;have y0:=Q02 HZ.out 0 _ rfl;have f0:=Q0f HZ.out 0;have y1:=Q02 HZ.out 1 _ rfl;have f1:=Q0f HZ.out 1;have y2:=Q02 HZ.out 2 _ rfl;have f2:=Q0f HZ.out 2;have y3:=Q02 HZ.out 3 _ rfl;have f3:=Q0f HZ.out 3;have y4:=Q02 HZ.out 4 _ rfl;have f4:=Q0f HZ.out 4;have hH:=(Kaq W3.heap.size))|(go_at_call 6;have hw_:Below W3.heap.size W3 x0:=hx0;have hc_:=HH.out oc cc ot ct W3.heap.size (W3.heap.size+1) _ _ _ _ _ _ x0 (HR3.out x0 hw_) sc0 sc1 sc2 zsc;with_reducible refine hc_.mono ?_;clear hc_;rintro e x1 ⟨oc2,cc2,ot2,ct2,rfl,HZ,HR2,HX⟩;have HX1:=Q00 (hw_.trans (HX.out.mono hw_.size));clear hw_ HX;have b0:=(HX1.out.cell (p:=⟨v1.heap.size+1,0,none⟩) hz3).trans q0;have b1:=(HX1.out.cell (p:=⟨v1.heap.size+1,1,none⟩) hz3).trans q1;have y0:=Q02 HZ.out 0 _ rfl;have f0:=Q0f HZ.out 0;have y1:=Q02 HZ.out 1 _ rfl;have f1:=Q0f HZ.out 1;have y2:=Q02 HZ.out 2 _ rfl;have f2:=Q0f HZ.out 2;have y3:=Q02 HZ.out 3 _ rfl;have f3:=Q0f HZ.out 3;have y4:=Q02 HZ.out 4 _ rfl;have f4:=Q0f HZ.out 4;have hK:=(Kaq (W3.heap.size+1)))|(go_at_call 6;have hw_:Below W3.heap.size W3 x0:=hx0;have hc_:=HH.out oc cc ot ct (W3.heap.size+1) W3.heap.size _ _ _ _ _ _ x0 (HR3.out x0 hw_) sd0 sd1 sd2 zsd;with_reducible refine hc_.mono ?_;clear hc_;rintro e x1 ⟨oc2,cc2,ot2,ct2,rfl,HZ,HR2,HX⟩;have HX1:=Q00 (hw_.trans (HX.out.mono hw_.size));clear hw_ HX;have b0:=(HX1.out.cell (p:=⟨v1.heap.size+1,0,none⟩) hz3).trans q0;have b1:=(HX1.out.cell (p:=⟨v1.heap.size+1,1,none⟩) hz3).trans q1;have y0:=Q02 HZ.out 0 _ rfl;have f0:=Q0f HZ.out 0;have y1:=Q02 HZ.out 1 _ rfl;have f1:=Q0f HZ.out 1;have y2:=Q02 HZ.out 2 _ rfl;have f2:=Q0f HZ.out 2;have y3:=Q02 HZ.out 3 _ rfl;have f3:=Q0f HZ.out 3;have y4:=Q02 HZ.out 4 _ rfl;have f4:=Q0f HZ.out 4;have hH:=(Kaq W3.heap.size))|(go_at_call 6;have hw_:Below W3.heap.size W3 ((x0.alloc (.cells #[.int .i64 2,.int .i64 1] 41)).alloc (.cells #[.int .i64 0,.int .i64 0,.bool false,.slice none 0 0,.slice none 0 0] 27)):=((hx0.alloc hx0.size (.cells #[.int .i64 2,.int .i64 1] 41)).alloc (Kdq hx0.size (by simp)) (.cells #[.int .i64 0,.int .i64 0,.bool false,.slice none 0 0,.slice none 0 0] 27));have hc_:=HH.out oc cc ot ct x0.heap.size (x0.heap.size+1) _ _ _ _ _ _ ((x0.alloc (.cells #[.int .i64 2,.int .i64 1] 41)).alloc (.cells #[.int .i64 0,.int .i64 0,.bool false,.slice none 0 0,.slice none 0 0] 27)) (HR3.out ((x0.alloc (.cells #[.int .i64 2,.int .i64 1] 41)).alloc (.cells #[.int .i64 0,.int .i64 0,.bool false,.slice none 0 0,.slice none 0 0] 27)) hw_) (by rw [World.size_alloc,World.size_alloc];exact Nat.lt_succ_of_lt (Nat.lt_succ_self _)) (by simp [go_sem]) (by simp [go_sem]) (Q4d x0 (.cells #[.int .i64 2,.int .i64 1] 41) _ _);with_reducible refine hc_.mono ?_;clear hc_;rintro e x1 ⟨oc2,cc2,ot2,ct2,rfl,HZ,HR2,HX⟩;have HX1:=Q00 (hw_.trans (HX.out.mono hw_.size));clear hw_ HX;have b0:=(HX1.out.cell (p:=⟨v1.heap.size+1,0,none⟩) hz3).trans q0;have b1:=(HX1.out.cell (p:=⟨v1.heap.size+1,1,none⟩) hz3).trans q1;have y0:=Q02 HZ.out 0 _ rfl;have f0:=Q0f HZ.out 0;have y1:=Q02 HZ.out 1 _ rfl;have f1:=Q0f HZ.out 1;have y2:=Q02 HZ.out 2 _ rfl;have f2:=Q0f HZ.out 2;have y3:=Q02 HZ.out 3 _ rfl;have f3:=Q0f HZ.out 3;have y4:=Q02 HZ.out 4 _ rfl;have f4:=Q0f HZ.out 4;have hD:=(Kaq (x0.heap.size+1)))|(go_at_call 6;have hw_:Below W3.heap.size W3 (x0.alloc (.cells #[.int .i64 2,.int .i64 1] 41)):=(hx0.alloc hx0.size (.cells #[.int .i64 2,.int .i64 1] 41));have hc_:=HG.out oc cc ot ct x0.heap.size (x0.alloc (.cells #[.int .i64 2,.int .i64 1] 41)) (HR3.out (x0.alloc (.cells #[.int .i64 2,.int .i64 1] 41)) hw_) (by simp) (by simp [go_sem]) (by simp [go_sem]);with_reducible refine hc_.mono ?_;clear hc_;rintro e x1 ⟨oc2,cc2,ot2,ct2,rfl,HR2,HX⟩;have HX1:=Q00 (hw_.trans (HX.out.mono hw_.size));clear hw_ HX;have b0:=(HX1.out.cell (p:=⟨v1.heap.size+1,0,none⟩) hz3).trans q0;have b1:=(HX1.out.cell (p:=⟨v1.heap.size+1,1,none⟩) hz3).trans q1;have hF:=(Kaq x1.heap.size))|(go_at_call 6;have hw_:Below W3.heap.size W3 ((x0.alloc (.cells #[.int .i64 0,.int .i64 0,.bool false,.slice none 0 0,.slice none 0 0] 27)).alloc (.cells #[.int .i64 2,.int .i64 1] 41)):=((hx0.alloc hx0.size (.cells #[.int .i64 0,.int .i64 0,.bool false,.slice none 0 0,.slice none 0 0] 27)).alloc (Kdq hx0.size (by simp)) (.cells #[.int .i64 2,.int .i64 1] 41));have hc_:=HH.out oc cc ot ct (x0.heap.size+1) x0.heap.size _ _ _ _ _ _ ((x0.alloc (.cells #[.int .i64 0,.int .i64 0,.bool false,.slice none 0 0,.slice none 0 0] 27)).alloc (.cells #[.int .i64 2,.int .i64 1] 41)) (HR3.out ((x0.alloc (.cells #[.int .i64 0,.int .i64 0,.bool false,.slice none 0 0,.slice none 0 0] 27)).alloc (.cells #[.int .i64 2,.int .i64 1] 41)) hw_) (by rw [World.size_alloc,World.size_alloc];exact Nat.lt_succ_self _) (by simp [go_sem]) (by simp [go_sem]) (Q3O x0 (.cells #[.int .i64 2,.int .i64 1] 41) _ _);with_reducible refine hc_.mono ?_;clear hc_;rintro e x1 ⟨oc2,cc2,ot2,ct2,rfl,HZ,HR2,HX⟩;have HX1:=Q00 (hw_.trans (HX.out.mono hw_.size));clear hw_ HX;have b0:=(HX1.out.cell (p:=⟨v1.heap.size+1,0,none⟩) hz3).trans q0;have b1:=(HX1.out.cell (p:=⟨v1.heap.size+1,1,none⟩) hz3).trans q1;have y0:=Q02 HZ.out 0 _ rfl;have f0:=Q0f HZ.out 0;have y1:=Q02 HZ.out 1 _ rfl;have f1:=Q0f HZ.out 1;have y2:=Q02 HZ.out 2 _ rfl;have f2:=Q0f HZ.out 2;have y3:=Q02 HZ.out 3 _ rfl;have f3:=Q0f HZ.out 3;have y4:=Q02 HZ.out 4 _ rfl;have f4:=Q0f HZ.out 4;have hE:=(Kaq x0.heap.size))|(go_at_call 6;have hw_:Below W3.heap.size W3 (x0.alloc (.cells #[.int .i64 0,.int .i64 0,.bool false,.slice none 0 0,.slice none 0 0] 27)):=(hx0.alloc hx0.size (.cells #[.int .i64 0,.int .i64 0,.bool false,.slice none 0 0,.slice none 0 0] 27));have hc_:=HH.out oc cc ot ct W3.heap.size x0.heap.size _ _ _ _ _ _ (x0.alloc (.cells #[.int .i64 0,.int .i64 0,.bool false,.slice none 0 0,.slice none 0 0] 27)) (HR3.out (x0.alloc (.cells #[.int .i64 0,.int .i64 0,.bool false,.slice none 0 0,.slice none 0 0] 27)) hw_) (Kbq sg0 (by simp)) ((((Below.refl x0.heap.size x0).alloc (Kaq _) (.cells #[.int .i64 0,.int .i64 0,.bool false,.slice none 0 0,.slice none 0 0] 27)).cell (p:=⟨W3.heap.size,0,none⟩) sg0).trans sg1) ((((Below.refl x0.heap.size x0).alloc (Kaq _) (.cells #[.int .i64 0,.int .i64 0,.bool false,.slice none 0 0,.slice none 0 0] 27)).cell (p:=⟨W3.heap.size,1,none⟩) sg0).trans sg2) (World.alloc_heap_new x0 _);with_reducible refine hc_.mono ?_;clear hc_;rintro e x1 ⟨oc2,cc2,ot2,ct2,rfl,HZ,HR2,HX⟩;have HX1:=Q00 (hw_.trans (HX.out.mono hw_.size));clear hw_ HX;have b0:=(HX1.out.cell (p:=⟨v1.heap.size+1,0,none⟩) hz3).trans q0;have b1:=(HX1.out.cell (p:=⟨v1.heap.size+1,1,none⟩) hz3).trans q1;have y0:=Q02 HZ.out 0 _ rfl;have f0:=Q0f HZ.out 0;have y1:=Q02 HZ.out 1 _ rfl;have f1:=Q0f HZ.out 1;have y2:=Q02 HZ.out 2 _ rfl;have f2:=Q0f HZ.out 2;have y3:=Q02 HZ.out 3 _ rfl;have f3:=Q0f HZ.out 3;have y4:=Q02 HZ.out 4 _ rfl;have f4:=Q0f HZ.out 4;have hE:=(Kaq x0.heap.size))|(go_at_call 6;have hw_:Below W3.heap.size W3 x0:=hx0;have hc_:=HG.out oc cc ot ct W3.heap.size x0 (HR3.out x0 hw_) sg0 sg1 sg2;with_reducible refine hc_.mono ?_;clear hc_;rintro e x1 ⟨oc2,cc2,ot2,ct2,rfl,HR2,HX⟩;have HX1:=Q00 (hw_.trans (HX.out.mono hw_.size));clear hw_ HX;have b0:=(HX1.out.cell (p:=⟨v1.heap.size+1,0,none⟩) hz3).trans q0;have b1:=(HX1.out.cell (p:=⟨v1.heap.size+1,1,none⟩) hz3).trans q1;have hF:=(Kaq x1.heap.size)))
  all_goals (go_wp2_with fail;go_meet)
  all_goals first
   |with_reducible exact Q2o HZ HR2 HX1 (Kdq hx0.size (Nat.le_succ _))
   |with_reducible exact Q2o HZ HR2 HX1 hx0.size
   |with_reducible exact Q2o HZ HR2 HX1 (Kaq _)
   |with_reducible exact Q2o HZ HR2 HX1 (Nat.le_succ _)
   |with_reducible exact Q5g HR2 HX1
 case rest=>
 obtain ⟨B,oc2,cc2,ot2,ct2,rfl,rfl,HX5,HXB,s5,HR5⟩:=hcut
 obtain ⟨W5,hwc⟩:∃W,W=wc:=⟨_,rfl⟩
 subst hwc
 have c0:=Q02 HX5.out 0 _ rfl
 have c1:=Q02 HX5.out 1 _ rfl
 have c2:=Q02 HX5.out 2 _ rfl
 have c3:=Q02 HX5.out 3 _ rfl
 have c4:=Q02 HX5.out 4 _ rfl
 have d0:=(HXB.out.cell (p:=⟨v1.heap.size+1,0,none⟩) hz3).trans q0
 have d1:=(HXB.out.cell (p:=⟨v1.heap.size+1,1,none⟩) hz3).trans q1
 have HB5:=Q00 (HB3.out.trans (HXB.out.mono HB3.out.size))
 clear a0 a1 a2 a3 a4 q0 q1
 have hh:=Q36 (agt M.id M.lim M.dr (.slice oc2 16 cc2) (.slice ot2 16 ct2)) M 1 80 W5 HR5.out HL.out
 rw [HQ.out.1] at hh
 have HH5:=Q00 hh
 clear hh
 go_wp2_with fail
 refine HH5.out.mono ?_
 rintro e x6 ⟨rfl,hb6⟩
 have hx6:=(hb6.block _ s5).trans HX5.out
 have g0:=Q02 hx6 0 _ rfl
 have g1:=Q02 hx6 1 _ rfl
 have g2:=Q02 hx6 2 _ rfl
 have g3:=Q02 hx6 3 _ rfl
 have g4:=Q02 hx6 4 _ rfl
 have hk:=Q2w (agt M.id M.lim M.dr (.slice oc2 16 cc2) (.slice ot2 16 ct2)) M x6 ((HR5.out.kept hb6 (Kaq _)).le hb6.size) HL.out
 rw [HQ.out.2] at hk
 have HK6:=Q00 hk
 have HB6:=Q00 (HB5.out.trans (hb6.mono HB5.out.size))
 clear hk hb6 hx6 c0 c1 c2 c3 c4 d0 d1
 go_wp2_with fail
 refine HK6.out.mono ?_
 rintro e x7 ⟨rfl,hb7⟩
 have HB7:=Q00 (HB6.out.trans (hb7.mono HB6.out.size))
 clear hb7 g0 g1 g2 g3 g4
 go_wp2
 refine bodyPost_ret (v:=.bool true) (by simp [results,Try.results7,go_sem]) rfl ⟨rfl,HB7.out⟩
end Go.Proofs.Ytljogkoaaidlcaa
