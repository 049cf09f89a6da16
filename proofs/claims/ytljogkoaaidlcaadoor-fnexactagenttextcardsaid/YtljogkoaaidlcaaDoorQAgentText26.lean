/- For every agent the law FnExactAgentText answers true, and the agent reads as it did: impl.AgentText answers as the model's, writes nothing into what it is handed, and its answer owns its memory. The library's table of powers of ten reads as its text lays it, which the card ties. -/
import Derived.Deep.RegionHeld3
import Derived.Test.YtljogkoaaidlcaaDoorQAgentText23
import Derived.Test.YtljogkoaaidlcaaDoorQAgentText24
import Derived.Test.YtljogkoaaidlcaaDoorQAgentText25
namespace Go.Proofs.YtljogkoaaidlcaaDoor
open Go.ChangeShapes Go.WideShapes Go.ChangeAt Go.RowKit Go.Joins
set_option linter.unusedVariables false
set_option linter.unusedSimpArgs false

set_option maxRecDepth 100000 in
set_option maxHeartbeats 8000000 in
theorem lawFnExactAgentText (v : Value) (m : Am) (w : World) (hR : RdA w.heap.size w v m) (hl : m.c.length ≤ maxLen) (hg : m.t.length ≤ maxLen) (hT : PTab w.heap.size w) :
  Calls Tryd.prog 3 #[v] w fun e w' => e = .returned (.bool true) ∧ Below w.heap.size w w' := by
 have hR0 := hR
 by_cases hfit : m.c.length + m.t.length ≤ 1048576
 ·have hf : m.c.length + m.t.length ≤ 1048576 := hfit
  have HS := hide (fun v w h => specAgentText_sh v m w h hf)
  have HI := hide (fun v W h (B : Below w.heap.size w W) => implAgentText_sh v m W h hf ((hT.on B (Nat.le_refl _)).le B.size))
  have hmr := agentT_short m
  generalize agentT m = mr at *
  obtain ⟨vca, vta, rfl, ⟨oca, cca, rfl, _⟩, ⟨ota, cta, rfl, _⟩⟩ := hR0
  have bxa : (w.alloc (.cells #[.int .i64 m.id, .int .i64 m.lim, .bool m.dr, .slice oca m.c.length cca, .slice ota m.t.length cta] 26)).heap[w.heap.size]? = some (.cells #[.int .i64 m.id, .int .i64 m.lim, .bool m.dr, .slice oca m.c.length cca, .slice ota m.t.length cta] 26 (0, 0)) := heap_alloc_new w (.cells #[.int .i64 m.id, .int .i64 m.lim, .bool m.dr, .slice oca m.c.length cca, .slice ota m.t.length cta] 26)
  have hb_w0 : Below w.heap.size w (w.alloc (.cells #[.int .i64 m.id, .int .i64 m.lim, .bool m.dr, .slice oca m.c.length cca, .slice ota m.t.length cta] 26)) := (Below.refl _ _).alloc (Nat.le_refl _) _
  have hz_w0 : w.heap.size < (w.alloc (.cells #[.int .i64 m.id, .int .i64 m.lim, .bool m.dr, .slice oca m.c.length cca, .slice ota m.t.length cta] 26)).heap.size := by simp
  have Hbxa := hide bxa
  have Hb_ := hide hb_w0
  have HR := hide hR
  clear bxa hb_w0 hR
  go_enter Tryd.func3, Tryd.ntmps3
  go_wp2_with fail
  have bxa := Hbxa.out
  have hb_w0 := Hb_.out
  have hR := HR.out
  clear Hbxa Hb_ HR
  generalize w.alloc (.cells #[.int .i64 m.id, .int .i64 m.lim, .bool m.dr, .slice oca m.c.length cca, .slice ota m.t.length cta] 26) = w0 at *
  have B_w0 := hb_w0
  clear hb_w0
  refine (szAgent_sh _ m w.heap.size w0 (hR.kept B_w0 (Nat.le_refl _)) hl hg).mono ?_
  rintro e w1 ⟨⟨nn, rfl, hpos, hneg, hn1, hn2⟩, hb_w1⟩
  have hnn := hpos hfit
  clear hpos hneg
  replace bxa := (hb_w1.block _ (by omega)).trans bxa
  have B_w1 : Below w.heap.size w w1 := B_w0.trans (hb_w1.mono B_w0.size)
  have hs_w1 : w0.heap.size ≤ w1.heap.size := hb_w1.size
  clear hb_w1 B_w0
  have bxac0 : w1.cell? ⟨w.heap.size, 0, none⟩ = some (.int .i64 m.id) := cellT bxa 0 _ rfl
  have bxac1 : w1.cell? ⟨w.heap.size, 1, none⟩ = some (.int .i64 m.lim) := cellT bxa 1 _ rfl
  have bxac2 : w1.cell? ⟨w.heap.size, 2, none⟩ = some (.bool m.dr) := cellT bxa 2 _ rfl
  have bxac3 : w1.cell? ⟨w.heap.size, 3, none⟩ = some (.slice oca m.c.length cca) := cellT bxa 3 _ rfl
  have bxac4 : w1.cell? ⟨w.heap.size, 4, none⟩ = some (.slice ota m.t.length cta) := cellT bxa 4 _ rfl
  have Hbxa := hide bxa
  clear bxa
  have HB_ := hide B_w1
  clear B_w1
  go_wp2_with fail
  clear bxac0 bxac1 bxac2 bxac3 bxac4
  have bxa := Hbxa.out
  clear Hbxa
  have B_w1 := HB_.out
  clear HB_
  refine (toAgent_sh _ m w1 ((hR.kept B_w1 (Nat.le_refl _)).le B_w1.size) hf).mono ?_
  rintro e w2 ⟨v2, rfl, in2, hb_w2⟩
  replace bxa := (hb_w2.block _ (by omega)).trans bxa
  have B_w2 : Below w.heap.size w w2 := B_w1.trans (hb_w2.mono B_w1.size)
  have hs_w2 : w1.heap.size ≤ w2.heap.size := hb_w2.size
  clear hb_w2 B_w1
  have Hbxa := hide bxa
  clear bxa
  have Hin2 := hide in2
  clear in2
  have HB_ := hide B_w2
  clear B_w2
  go_wp2_with fail
  have bxa := Hbxa.out
  clear Hbxa
  have in2 := Hin2.out
  clear Hin2
  have B_w2 := HB_.out
  clear HB_
  refine (HS.out _ w2 (in2.rd.le (by omega))).mono ?_
  rintro e w3 ⟨vw, rfl, inw, hb_w3⟩
  replace bxa := (hb_w3.block _ (by omega)).trans bxa
  replace in2 := in2.step (Stp.of (lo := 0) (hi := 0) hb_w3) (.inl (Nat.zero_le _))
  have B_w3 : Below w.heap.size w w3 := B_w2.trans (hb_w3.mono B_w2.size)
  have hs_w3 : w2.heap.size ≤ w3.heap.size := hb_w3.size
  clear hb_w3 B_w2
  clear in2
  have bxac0 : w3.cell? ⟨w.heap.size, 0, none⟩ = some (.int .i64 m.id) := cellT bxa 0 _ rfl
  have bxac1 : w3.cell? ⟨w.heap.size, 1, none⟩ = some (.int .i64 m.lim) := cellT bxa 1 _ rfl
  have bxac2 : w3.cell? ⟨w.heap.size, 2, none⟩ = some (.bool m.dr) := cellT bxa 2 _ rfl
  have bxac3 : w3.cell? ⟨w.heap.size, 3, none⟩ = some (.slice oca m.c.length cca) := cellT bxa 3 _ rfl
  have bxac4 : w3.cell? ⟨w.heap.size, 4, none⟩ = some (.slice ota m.t.length cta) := cellT bxa 4 _ rfl
  have Hbxa := hide bxa
  clear bxa
  have Hinw := hide inw
  clear inw
  have HB_ := hide B_w3
  clear B_w3
  go_wp2_with fail
  clear bxac0 bxac1 bxac2 bxac3 bxac4
  have bxa := Hbxa.out
  clear Hbxa
  have inw := Hinw.out
  clear Hinw
  have B_w3 := HB_.out
  clear HB_
  refine (toAgent_sh _ m w3 ((hR.kept B_w3 (Nat.le_refl _)).le B_w3.size) hf).mono ?_
  rintro e w4 ⟨vx, rfl, inx, hb_w4⟩
  replace bxa := (hb_w4.block _ (by omega)).trans bxa
  replace inw := inw.step (Stp.of (lo := 0) (hi := 0) hb_w4) (.inl (Nat.zero_le _))
  have B_w4 : Below w.heap.size w w4 := B_w3.trans (hb_w4.mono B_w3.size)
  have hs_w4 : w3.heap.size ≤ w4.heap.size := hb_w4.size
  clear hb_w4 B_w3
  obtain ⟨vcx, vtx, rfl, ⟨ocx, ccx, rfl, _⟩, ⟨otx, ctx, rfl, _⟩⟩ := inx.rd
  have bxx : (w4.alloc (.cells #[.int .i64 m.id, .int .i64 m.lim, .bool m.dr, .slice ocx m.c.length ccx, .slice otx m.t.length ctx] 34)).heap[w4.heap.size]? = some (.cells #[.int .i64 m.id, .int .i64 m.lim, .bool m.dr, .slice ocx m.c.length ccx, .slice otx m.t.length ctx] 34 (0, 0)) := heap_alloc_new w4 (.cells #[.int .i64 m.id, .int .i64 m.lim, .bool m.dr, .slice ocx m.c.length ccx, .slice otx m.t.length ctx] 34)
  have hb_w5 : Below w4.heap.size w4 (w4.alloc (.cells #[.int .i64 m.id, .int .i64 m.lim, .bool m.dr, .slice ocx m.c.length ccx, .slice otx m.t.length ctx] 34)) := (Below.refl _ _).alloc (Nat.le_refl _) _
  have hz_w5 : w4.heap.size < (w4.alloc (.cells #[.int .i64 m.id, .int .i64 m.lim, .bool m.dr, .slice ocx m.c.length ccx, .slice otx m.t.length ctx] 34)).heap.size := by simp
  have bxxc0 : (w4.alloc (.cells #[.int .i64 m.id, .int .i64 m.lim, .bool m.dr, .slice ocx m.c.length ccx, .slice otx m.t.length ctx] 34)).cell? ⟨w4.heap.size, 0, none⟩ = some (.int .i64 m.id) := cellT bxx 0 _ rfl
  have bxxc1 : (w4.alloc (.cells #[.int .i64 m.id, .int .i64 m.lim, .bool m.dr, .slice ocx m.c.length ccx, .slice otx m.t.length ctx] 34)).cell? ⟨w4.heap.size, 1, none⟩ = some (.int .i64 m.lim) := cellT bxx 1 _ rfl
  have bxxc2 : (w4.alloc (.cells #[.int .i64 m.id, .int .i64 m.lim, .bool m.dr, .slice ocx m.c.length ccx, .slice otx m.t.length ctx] 34)).cell? ⟨w4.heap.size, 2, none⟩ = some (.bool m.dr) := cellT bxx 2 _ rfl
  have bxxc3 : (w4.alloc (.cells #[.int .i64 m.id, .int .i64 m.lim, .bool m.dr, .slice ocx m.c.length ccx, .slice otx m.t.length ctx] 34)).cell? ⟨w4.heap.size, 3, none⟩ = some (.slice ocx m.c.length ccx) := cellT bxx 3 _ rfl
  have bxxc4 : (w4.alloc (.cells #[.int .i64 m.id, .int .i64 m.lim, .bool m.dr, .slice ocx m.c.length ccx, .slice otx m.t.length ctx] 34)).cell? ⟨w4.heap.size, 4, none⟩ = some (.slice otx m.t.length ctx) := cellT bxx 4 _ rfl
  have Hbxx := hide bxx
  have Hb_ := hide hb_w5
  clear bxx hb_w5
  have Hbxa := hide bxa
  clear bxa
  have Hinw := hide inw
  clear inw
  have Hinx := hide inx
  clear inx
  have HB_ := hide B_w4
  clear B_w4
  go_wp2_with fail
  clear bxxc0 bxxc1 bxxc2 bxxc3 bxxc4
  have bxa := Hbxa.out
  clear Hbxa
  have inw := Hinw.out
  clear Hinw
  have inx := Hinx.out
  clear Hinx
  have B_w4 := HB_.out
  clear HB_
  have bxx := Hbxx.out
  have hb_w5 := Hb_.out
  clear Hbxx Hb_
  generalize w4.alloc (.cells #[.int .i64 m.id, .int .i64 m.lim, .bool m.dr, .slice ocx m.c.length ccx, .slice otx m.t.length ctx] 34) = w5 at *
  replace bxa := (hb_w5.block _ (by omega)).trans bxa
  replace inw := inw.step (Stp.of (lo := 0) (hi := 0) hb_w5) (.inl (Nat.zero_le _))
  replace inx := inx.step (Stp.of (lo := 0) (hi := 0) hb_w5) (.inl (Nat.zero_le _))
  have B_w5 : Below w.heap.size w w5 := B_w4.trans (hb_w5.mono B_w4.size)
  have hs_w5 : w4.heap.size ≤ w5.heap.size := hb_w5.size
  clear hb_w5 B_w4
  refine (HI.out _ w5 (inx.rd.le (by omega)) B_w5).mono ?_
  rintro e w6 ⟨vg, rfl, ing, hb_w6⟩
  replace bxa := (hb_w6.block _ (by omega)).trans bxa
  replace inw := inw.step (Stp.of (lo := 0) (hi := 0) hb_w6) (.inl (Nat.zero_le _))
  replace inx := inx.step (Stp.of (lo := 0) (hi := 0) hb_w6) (.inl (Nat.zero_le _))
  replace bxx := (hb_w6.block _ (by omega)).trans bxx
  have B_w6 : Below w.heap.size w w6 := B_w5.trans (hb_w6.mono B_w5.size)
  have hs_w6 : w5.heap.size ≤ w6.heap.size := hb_w6.size
  clear hb_w6 B_w5
  have Hbxa := hide bxa
  clear bxa
  have Hinw := hide inw
  clear inw
  have Hinx := hide inx
  clear inx
  have Hbxx := hide bxx
  clear bxx
  have Hing := hide ing
  clear ing
  have HB_ := hide B_w6
  clear B_w6
  go_wp2_with fail
  have bxa := Hbxa.out
  clear Hbxa
  have inw := Hinw.out
  clear Hinw
  have inx := Hinx.out
  clear Hinx
  have bxx := Hbxx.out
  clear Hbxx
  have ing := Hing.out
  clear Hing
  have B_w6 := HB_.out
  clear HB_
  refine (eqByteS_sh _ _ mr w6 ((InL.rd (L := layB) ing).le (by omega)) ((InL.rd (L := layB) inw).le (by omega)) (by omega)).mono ?_
  rintro e w7 ⟨rfl, hb_w7⟩
  replace bxa := (hb_w7.block _ (by omega)).trans bxa
  replace inw := inw.step (Stp.of (lo := 0) (hi := 0) hb_w7) (.inl (Nat.zero_le _))
  replace inx := inx.step (Stp.of (lo := 0) (hi := 0) hb_w7) (.inl (Nat.zero_le _))
  replace bxx := (hb_w7.block _ (by omega)).trans bxx
  replace ing := ing.step (Stp.of (lo := 0) (hi := 0) hb_w7) (.inl (Nat.zero_le _))
  have B_w7 : Below w.heap.size w w7 := B_w6.trans (hb_w7.mono B_w6.size)
  have hs_w7 : w6.heap.size ≤ w7.heap.size := hb_w7.size
  clear hb_w7 B_w6
  have bxac0 : w7.cell? ⟨w.heap.size, 0, none⟩ = some (.int .i64 m.id) := cellT bxa 0 _ rfl
  have bxac1 : w7.cell? ⟨w.heap.size, 1, none⟩ = some (.int .i64 m.lim) := cellT bxa 1 _ rfl
  have bxac2 : w7.cell? ⟨w.heap.size, 2, none⟩ = some (.bool m.dr) := cellT bxa 2 _ rfl
  have bxac3 : w7.cell? ⟨w.heap.size, 3, none⟩ = some (.slice oca m.c.length cca) := cellT bxa 3 _ rfl
  have bxac4 : w7.cell? ⟨w.heap.size, 4, none⟩ = some (.slice ota m.t.length cta) := cellT bxa 4 _ rfl
  have bxxc0 : w7.cell? ⟨w4.heap.size, 0, none⟩ = some (.int .i64 m.id) := cellT bxx 0 _ rfl
  have bxxc1 : w7.cell? ⟨w4.heap.size, 1, none⟩ = some (.int .i64 m.lim) := cellT bxx 1 _ rfl
  have bxxc2 : w7.cell? ⟨w4.heap.size, 2, none⟩ = some (.bool m.dr) := cellT bxx 2 _ rfl
  have bxxc3 : w7.cell? ⟨w4.heap.size, 3, none⟩ = some (.slice ocx m.c.length ccx) := cellT bxx 3 _ rfl
  have bxxc4 : w7.cell? ⟨w4.heap.size, 4, none⟩ = some (.slice otx m.t.length ctx) := cellT bxx 4 _ rfl
  have Hbxa := hide bxa
  clear bxa
  have Hinw := hide inw
  clear inw
  have Hinx := hide inx
  clear inx
  have Hbxx := hide bxx
  clear bxx
  have Hing := hide ing
  clear ing
  have HB_ := hide B_w7
  clear B_w7
  go_wp2
  have hka : w.heap.size < w7.heap.size := by omega
  have hkx : w4.heap.size < w7.heap.size := by omega
  go_region_held3 (fun w' => w'.cell? ⟨w.heap.size, 0, none⟩ = some (.int .i64 m.id) ∧ w'.cell? ⟨w.heap.size, 1, none⟩ = some (.int .i64 m.lim) ∧ w'.cell? ⟨w.heap.size, 2, none⟩ = some (.bool m.dr) ∧ w'.cell? ⟨w.heap.size, 3, none⟩ = some (.slice oca m.c.length cca) ∧ w'.cell? ⟨w.heap.size, 4, none⟩ = some (.slice ota m.t.length cta) ∧ w'.cell? ⟨w4.heap.size, 0, none⟩ = some (.int .i64 m.id) ∧ w'.cell? ⟨w4.heap.size, 1, none⟩ = some (.int .i64 m.lim) ∧ w'.cell? ⟨w4.heap.size, 2, none⟩ = some (.bool m.dr) ∧ w'.cell? ⟨w4.heap.size, 3, none⟩ = some (.slice ocx m.c.length ccx) ∧ w'.cell? ⟨w4.heap.size, 4, none⟩ = some (.slice otx m.t.length ctx)) (first | exact ⟨q0, q1, q2, q3, q4, q5, q6, q7, q8, q9⟩ | exact ⟨p0, p1, p2, p3, p4, p5, p6, p7, p8, p9⟩ | exact ⟨bxac0, bxac1, bxac2, bxac3, bxac4, bxxc0, bxxc1, bxxc2, bxxc3, bxxc4⟩) (first | (go_at_call 6; refine (toAgent_sh _ m w7.drew ((hR.kept (Below.drew HB_.out) (Nat.le_refl _)).le HB_.out.size) hf).mono ?_; rintro e w8 ⟨va, rfl, ina, hba⟩; replace hba : Below w7.heap.size w7 w8 := (Below.drew (Below.refl _ _)).trans hba; have p0 := (hba.cell (p := ⟨w.heap.size, 0, none⟩) hka).trans bxac0; have p1 := (hba.cell (p := ⟨w.heap.size, 1, none⟩) hka).trans bxac1; have p2 := (hba.cell (p := ⟨w.heap.size, 2, none⟩) hka).trans bxac2; have p3 := (hba.cell (p := ⟨w.heap.size, 3, none⟩) hka).trans bxac3; have p4 := (hba.cell (p := ⟨w.heap.size, 4, none⟩) hka).trans bxac4; have p5 := (hba.cell (p := ⟨w4.heap.size, 0, none⟩) hkx).trans bxxc0; have p6 := (hba.cell (p := ⟨w4.heap.size, 1, none⟩) hkx).trans bxxc1; have p7 := (hba.cell (p := ⟨w4.heap.size, 2, none⟩) hkx).trans bxxc2; have p8 := (hba.cell (p := ⟨w4.heap.size, 3, none⟩) hkx).trans bxxc3; have p9 := (hba.cell (p := ⟨w4.heap.size, 4, none⟩) hkx).trans bxxc4) | (go_at_call 9; refine (eqAgent_sh _ _ m w8 ((Hinx.out.rd.kept hba (by omega)).le (by have := hba.size; omega)) (ina.rd.le (Nat.le_refl _)) (by omega)).mono ?_; rintro e w9 ⟨rfl, hbb⟩; replace hbb : Below w7.heap.size w7 w9 := hba.trans (hbb.mono hba.size); have q0 := (hbb.cell (p := ⟨w.heap.size, 0, none⟩) hka).trans bxac0; have q1 := (hbb.cell (p := ⟨w.heap.size, 1, none⟩) hka).trans bxac1; have q2 := (hbb.cell (p := ⟨w.heap.size, 2, none⟩) hka).trans bxac2; have q3 := (hbb.cell (p := ⟨w.heap.size, 3, none⟩) hka).trans bxac3; have q4 := (hbb.cell (p := ⟨w.heap.size, 4, none⟩) hka).trans bxac4; have q5 := (hbb.cell (p := ⟨w4.heap.size, 0, none⟩) hkx).trans bxxc0; have q6 := (hbb.cell (p := ⟨w4.heap.size, 1, none⟩) hkx).trans bxxc1; have q7 := (hbb.cell (p := ⟨w4.heap.size, 2, none⟩) hkx).trans bxxc2; have q8 := (hbb.cell (p := ⟨w4.heap.size, 3, none⟩) hkx).trans bxxc3; have q9 := (hbb.cell (p := ⟨w4.heap.size, 4, none⟩) hkx).trans bxxc4))
  clear p0 q0 p1 q1 p2 q2 p3 q3 p4 q4 p5 q5 p6 q6 p7 q7 p8 q8 p9 q9 hka hkx ina hba
  clear bxac0 bxac1 bxac2 bxac3 bxac4
  clear bxxc0 bxxc1 bxxc2 bxxc3 bxxc4
  have bxa := Hbxa.out
  clear Hbxa
  have inw := Hinw.out
  clear Hinw
  have inx := Hinx.out
  clear Hinx
  have bxx := Hbxx.out
  clear Hbxx
  have ing := Hing.out
  clear Hing
  have B_w7 := HB_.out
  clear HB_
  replace bxa := (hbb.block _ (by omega)).trans bxa
  replace inw := inw.step (Stp.of (lo := 0) (hi := 0) hbb) (.inl (Nat.zero_le _))
  replace inx := inx.step (Stp.of (lo := 0) (hi := 0) hbb) (.inl (Nat.zero_le _))
  replace bxx := (hbb.block _ (by omega)).trans bxx
  replace ing := ing.step (Stp.of (lo := 0) (hi := 0) hbb) (.inl (Nat.zero_le _))
  have B_w9 : Below w.heap.size w w9 := B_w7.trans (hbb.mono B_w7.size)
  have hs_w9 : w7.heap.size ≤ w9.heap.size := hbb.size
  clear hbb B_w7
  have bxxc0 : w9.cell? ⟨w4.heap.size, 0, none⟩ = some (.int .i64 m.id) := cellT bxx 0 _ rfl
  have bxxc1 : w9.cell? ⟨w4.heap.size, 1, none⟩ = some (.int .i64 m.lim) := cellT bxx 1 _ rfl
  have bxxc2 : w9.cell? ⟨w4.heap.size, 2, none⟩ = some (.bool m.dr) := cellT bxx 2 _ rfl
  have bxxc3 : w9.cell? ⟨w4.heap.size, 3, none⟩ = some (.slice ocx m.c.length ccx) := cellT bxx 3 _ rfl
  have bxxc4 : w9.cell? ⟨w4.heap.size, 4, none⟩ = some (.slice otx m.t.length ctx) := cellT bxx 4 _ rfl
  have Hbxa := hide bxa
  clear bxa
  have Hinw := hide inw
  clear inw
  have Hinx := hide inx
  clear inx
  have Hbxx := hide bxx
  clear bxx
  have Hing := hide ing
  clear ing
  have HB_ := hide B_w9
  clear B_w9
  go_wp2_with fail
  clear bxxc0 bxxc1 bxxc2 bxxc3 bxxc4
  have bxa := Hbxa.out
  clear Hbxa
  have inw := Hinw.out
  clear Hinw
  have inx := Hinx.out
  clear Hinx
  have bxx := Hbxx.out
  clear Hbxx
  have ing := Hing.out
  clear Hing
  have B_w9 := HB_.out
  clear HB_
  refine (markAgent_sh w3.heap.size w4.heap.size _ m 1 w9 inx (by omega) (by omega) (by omega)).mono ?_
  rintro e w10 ⟨rfl, _, sp_w10⟩
  clear bxx
  replace bxa := sp_w10.box bxa (by omega)
  replace inw := inw.step sp_w10 (by omega)
  replace ing := ing.step sp_w10 (by omega)
  have B_w10 : Below w.heap.size w w10 := B_w9.trans (sp_w10.below (by omega) (by omega))
  have hs_w10 : w9.heap.size ≤ w10.heap.size := sp_w10.size
  clear sp_w10 B_w9
  clear inx
  have hk1 : (0 : Int) ≤ 1 + 5 * (m.c.length : Int) + 5 * (m.t.length : Int) := by omega
  have Hbxa := hide bxa
  clear bxa
  have Hinw := hide inw
  clear inw
  have Hing := hide ing
  clear ing
  have HB_ := hide B_w10
  clear B_w10
  go_wp2_with fail
  have bxa := Hbxa.out
  clear Hbxa
  have inw := Hinw.out
  clear Hinw
  have ing := Hing.out
  clear Hing
  have B_w10 := HB_.out
  clear HB_
  refine (eqByteS_sh _ _ mr w10 ((InL.rd (L := layB) ing).le (by omega)) ((InL.rd (L := layB) inw).le (by omega)) (by omega)).mono ?_
  rintro e w11 ⟨rfl, hb_w11⟩
  replace bxa := (hb_w11.block _ (by omega)).trans bxa
  replace inw := inw.step (Stp.of (lo := 0) (hi := 0) hb_w11) (.inl (Nat.zero_le _))
  replace ing := ing.step (Stp.of (lo := 0) (hi := 0) hb_w11) (.inl (Nat.zero_le _))
  have B_w11 : Below w.heap.size w w11 := B_w10.trans (hb_w11.mono B_w10.size)
  have hs_w11 : w10.heap.size ≤ w11.heap.size := hb_w11.size
  clear hb_w11 B_w10
  have Hbxa := hide bxa
  clear bxa
  have Hinw := hide inw
  clear inw
  have Hing := hide ing
  clear ing
  have HB_ := hide B_w11
  clear B_w11
  go_wp2_with fail
  have bxa := Hbxa.out
  clear Hbxa
  have inw := Hinw.out
  clear Hinw
  have ing := Hing.out
  clear Hing
  have B_w11 := HB_.out
  clear HB_
  refine (markByteS_sh w5.heap.size w6.heap.size _ mr 1 w11 ing (by omega) (by omega) (by omega)).mono ?_
  rintro e w12 ⟨rfl, ing', sp_w12⟩
  replace sp_w12 : Stp (w5.heap.size) (w6.heap.size) w11 w12 := Stp.grown sp_w12 (fun b e => ⟨(ing.1.lt b e).1, ing.2 b e⟩)
  replace bxa := sp_w12.box bxa (by omega)
  replace inw := inw.step sp_w12 (by omega)
  have B_w12 : Below w.heap.size w w12 := B_w11.trans (sp_w12.below (by omega) (by omega))
  have hs_w12 : w11.heap.size ≤ w12.heap.size := sp_w12.size
  clear sp_w12 B_w11
  clear ing
  have ing := ing'
  clear ing'
  have hk2 : (0 : Int) ≤ 1 + (mr.length : Int) ∧ 1 + (mr.length : Int) ≤ 10000000 := by omega
  have Hbxa := hide bxa
  clear bxa
  have Hinw := hide inw
  clear inw
  have Hing := hide ing
  clear ing
  have HB_ := hide B_w12
  clear B_w12
  go_wp2_with fail
  have bxa := Hbxa.out
  clear Hbxa
  have inw := Hinw.out
  clear Hinw
  have ing := Hing.out
  clear Hing
  have B_w12 := HB_.out
  clear HB_
  refine (heldByteS_sh _ mr.length w12.heap.size 1 w12 ((InL.rd (L := layB) ing).le (by omega)) (markL_length _ _) (Nat.le_refl _) (by omega) (by omega) (by omega)).mono ?_
  rintro e _ ⟨rfl, rfl⟩
  have bxac0 : w12.cell? ⟨w.heap.size, 0, none⟩ = some (.int .i64 m.id) := cellT bxa 0 _ rfl
  have bxac1 : w12.cell? ⟨w.heap.size, 1, none⟩ = some (.int .i64 m.lim) := cellT bxa 1 _ rfl
  have bxac2 : w12.cell? ⟨w.heap.size, 2, none⟩ = some (.bool m.dr) := cellT bxa 2 _ rfl
  have bxac3 : w12.cell? ⟨w.heap.size, 3, none⟩ = some (.slice oca m.c.length cca) := cellT bxa 3 _ rfl
  have bxac4 : w12.cell? ⟨w.heap.size, 4, none⟩ = some (.slice ota m.t.length cta) := cellT bxa 4 _ rfl
  have Hbxa := hide bxa
  clear bxa
  have Hinw := hide inw
  clear inw
  have Hing := hide ing
  clear ing
  have HB_ := hide B_w12
  clear B_w12
  go_wp2_with fail
  clear bxac0 bxac1 bxac2 bxac3 bxac4
  have bxa := Hbxa.out
  clear Hbxa
  have inw := Hinw.out
  clear Hinw
  have ing := Hing.out
  clear Hing
  have B_w12 := HB_.out
  clear HB_
  refine (toAgent_sh _ m w12 ((hR.kept B_w12 (Nat.le_refl _)).le B_w12.size) hf).mono ?_
  rintro e w13 ⟨vy, rfl, iny, hb_w13⟩
  replace bxa := (hb_w13.block _ (by omega)).trans bxa
  replace inw := inw.step (Stp.of (lo := 0) (hi := 0) hb_w13) (.inl (Nat.zero_le _))
  replace ing := ing.step (Stp.of (lo := 0) (hi := 0) hb_w13) (.inl (Nat.zero_le _))
  have B_w13 : Below w.heap.size w w13 := B_w12.trans (hb_w13.mono B_w12.size)
  have hs_w13 : w12.heap.size ≤ w13.heap.size := hb_w13.size
  clear hb_w13 B_w12
  have Hbxa := hide bxa
  clear bxa
  have Hinw := hide inw
  clear inw
  have Hing := hide ing
  clear ing
  have Hiny := hide iny
  clear iny
  have HB_ := hide B_w13
  clear B_w13
  go_wp2_with fail
  have bxa := Hbxa.out
  clear Hbxa
  have inw := Hinw.out
  clear Hinw
  have ing := Hing.out
  clear Hing
  have iny := Hiny.out
  clear Hiny
  have B_w13 := HB_.out
  clear HB_
  refine (HI.out _ w13 (iny.rd.le (by omega)) B_w13).mono ?_
  rintro e w14 ⟨vh, rfl, inh, hb_w14⟩
  replace bxa := (hb_w14.block _ (by omega)).trans bxa
  replace inw := inw.step (Stp.of (lo := 0) (hi := 0) hb_w14) (.inl (Nat.zero_le _))
  replace ing := ing.step (Stp.of (lo := 0) (hi := 0) hb_w14) (.inl (Nat.zero_le _))
  replace iny := iny.step (Stp.of (lo := 0) (hi := 0) hb_w14) (.inl (Nat.zero_le _))
  have B_w14 : Below w.heap.size w w14 := B_w13.trans (hb_w14.mono B_w13.size)
  have hs_w14 : w13.heap.size ≤ w14.heap.size := hb_w14.size
  clear hb_w14 B_w13
  clear iny
  have Hbxa := hide bxa
  clear bxa
  have Hinw := hide inw
  clear inw
  have Hing := hide ing
  clear ing
  have Hinh := hide inh
  clear inh
  have HB_ := hide B_w14
  clear B_w14
  go_wp2_with fail
  have bxa := Hbxa.out
  clear Hbxa
  have inw := Hinw.out
  clear Hinw
  have ing := Hing.out
  clear Hing
  have inh := Hinh.out
  clear Hinh
  have B_w14 := HB_.out
  clear HB_
  refine (eqByteS_sh _ _ mr w14 ((InL.rd (L := layB) inh).le (by omega)) ((InL.rd (L := layB) inw).le (by omega)) (by omega)).mono ?_
  rintro e w15 ⟨rfl, hb_w15⟩
  replace bxa := (hb_w15.block _ (by omega)).trans bxa
  replace inw := inw.step (Stp.of (lo := 0) (hi := 0) hb_w15) (.inl (Nat.zero_le _))
  replace ing := ing.step (Stp.of (lo := 0) (hi := 0) hb_w15) (.inl (Nat.zero_le _))
  replace inh := inh.step (Stp.of (lo := 0) (hi := 0) hb_w15) (.inl (Nat.zero_le _))
  have B_w15 : Below w.heap.size w w15 := B_w14.trans (hb_w15.mono B_w14.size)
  have hs_w15 : w14.heap.size ≤ w15.heap.size := hb_w15.size
  clear hb_w15 B_w14
  clear inh
  have Hbxa := hide bxa
  clear bxa
  have Hinw := hide inw
  clear inw
  have Hing := hide ing
  clear ing
  have HB_ := hide B_w15
  clear B_w15
  go_wp2_with fail
  have bxa := Hbxa.out
  clear Hbxa
  have inw := Hinw.out
  clear Hinw
  have ing := Hing.out
  clear Hing
  have B_w15 := HB_.out
  clear HB_
  refine (heldByteS_sh _ mr.length w15.heap.size 1 w15 ((InL.rd (L := layB) ing).le (by omega)) (markL_length _ _) (Nat.le_refl _) (by omega) (by omega) (by omega)).mono ?_
  rintro e _ ⟨rfl, rfl⟩
  have Hbxa := hide bxa
  clear bxa
  have Hinw := hide inw
  clear inw
  have Hing := hide ing
  clear ing
  have HB_ := hide B_w15
  clear B_w15
  go_wp2
  go_ret
  exact ⟨rfl, HB_.out⟩
 ·skip
  obtain ⟨vca, vta, rfl, ⟨oca, cca, rfl, _⟩, ⟨ota, cta, rfl, _⟩⟩ := hR0
  have hb_w0 : Below w.heap.size w (w.alloc (.cells #[.int .i64 m.id, .int .i64 m.lim, .bool m.dr, .slice oca m.c.length cca, .slice ota m.t.length cta] 26)) := (Below.refl _ _).alloc (Nat.le_refl _) _
  have Hb_ := hide hb_w0
  have HR := hide hR
  clear hb_w0 hR
  go_enter Tryd.func3, Tryd.ntmps3
  go_wp2_with fail
  have hb_w0 := Hb_.out
  have hR := HR.out
  generalize w.alloc (.cells #[.int .i64 m.id, .int .i64 m.lim, .bool m.dr, .slice oca m.c.length cca, .slice ota m.t.length cta] 26) = w0 at *
  refine (szAgent_sh _ m w.heap.size w0 (hR.kept hb_w0 (Nat.le_refl _)) hl hg).mono ?_
  rintro e w1 ⟨⟨nn, rfl, hpos, hneg, hn1, hn2⟩, hb_w1⟩
  have hnn := hneg hfit
  have HB := hide (hb_w0.trans (hb_w1.mono hb_w0.size))
  clear hpos hneg hb_w0 hb_w1
  go_wp2
  go_ret
  exact ⟨rfl, HB.out⟩

theorem walkFnExactAgentText (v : Value) (m : Am) (w : World) (hR : RdA w.heap.size w v m) (hl : m.c.length ≤ maxLen) (hg : m.t.length ≤ maxLen) (hT : PTab w.heap.size w) :
  Calls Tryd.prog 3 #[v] w fun e w' => e = .returned (.bool true) ∧ Below w.heap.size w w' :=
 lawFnExactAgentText v m w hR hl hg hT

set_option maxRecDepth 100000 in
theorem fnExactAgentText_lifted (os : Os) (started : os.Started) (H : Type) (enc : TypeId × Value → H) :
  ReturnsInHanded {} Tryd.checked os 3 .any (fun w args => (Rows.fnExactAgentTextSpec.pre enc Tryd.prog Tryd.f3 [] false w args ∧ laidMetH Tryd.prog laidPow w) ∧ sizedMet enc Tryd.prog Tryd.f3 (OpenSpec.ofChange Rows.fnExactAgentTextSpec) false w args) (Rows.fnExactAgentTextSpec.post enc Tryd.prog Tryd.f3 false true false false) := by
 refine returnsInHanded_of_change_and (C := Tryd.checked) (X := fun w _ => laidMetH Tryd.prog laidPow w) (fun _ _ _ hh h => h.of_heap hh) own started (by kernel_rfl) Tryd.func3
  (ChangeSpec.witness_shaped (enc := enc) (C := Tryd.checked) (os := os) (X := fun w _ => laidMetH Tryd.prog laidPow w) false (World.doorLaid Tryd.prog 400 os) #[.agg #[.int .i64 0, .int .i64 0, .bool false, .slice none 0 0, .slice none 0 0]] 8 rfl (World.shaped_of_RefB (by kernel_rfl) (by kernel_rfl)) (by kernel_rfl) (by kernel_rfl) (by kernel_rfl) (door_met os _)) ?_
 intro W base args ds gs before hval0 hW _ _ hL _
 have hval : ∀ (j : Nat) t v, Tryd.f3.params[j]? = some t → args[j]? = some v → Value.okWide Tryd.prog W .any base t v := hval0
 have hW' := hW
 obtain ⟨p, q, hA0, hV, rfl, hfz, hnd⟩ := hW
 have hA : DataW.TrodAll enc Tryd.prog W 0 (fun _ => true) true Tryd.f3.params.toList args.toList ds p := hA0
 rw [Tryd.params3] at hA hval
 obtain ⟨v0, vs0, d0, ds0, p0, q0, hargs, rfl, rfl, h0, r0⟩ := trodAll_cons hA
 obtain ⟨rfl, rfl, rfl⟩ := trodAll_nil r0
 obtain rfl : args = #[v0] := by cases args; simp_all
 obtain ⟨rfl, rfl⟩ := trodVars_none hV
 have k0 := h0
 have lt0 : ∀ x ∈ p0, x.block < W.heap.size := by obtain ⟨m, hm⟩ := k0; exact DataW.trod_lt m _ _ _ hm
 obtain ⟨m0, hR0, hl0, hg0⟩ := open_agent (hval 0 26 v0 rfl rfl) h0
 have hT := tab_of_laid hL
 clear hA0 hval0
 refine (walkFnExactAgentText v0 m0 W hR0 hl0 hg0 hT).mono fun e W' ⟨he, bel⟩ => ?_
 subst he
 exact ⟨_, rfl, _, _, _, [], _, [], hW', trodAll_mk1 (shut_bool Tryd.underlying4 _), (trodAll_cons_mk (Below.trod laidOut (by kernel_rfl) (of_decide_eq_true (by kernel_rfl)) k0 bel lt0) trodAll_mk0), rfl, bel.frame _, fun h => by cases h⟩

theorem fnExactAgentText_over : Rows.fnExactAgentTextRow.holds Tryd.pinned (OpenSpec.ofChange Rows.fnExactAgentTextSpec) :=
 OpenClaim.holds_of_wide 3 Tryd.f3 rfl rfl rfl rfl rfl rfl rfl ⟨rfl, rfl, rfl, rfl, rfl⟩ rfl rfl rfl rfl rfl (by kernel_rfl) Tryd.func3 (by kernel_rfl)
  (of_decide_eq_true (by kernel_rfl)) (by unfold Func.isWrapper; first | (rw [if_pos (by decide +kernel)]; kernel_rfl) | (rw [if_neg (by decide +kernel)]; exact ⟨rfl, rfl⟩))
  (fun os started H enc _ => fnExactAgentText_lifted os started H enc)

theorem fnExactAgentText_card : Rows.FnExactAgentTextCardSaid :=
 Claim7.holds_tied_plain_at .later [] [.data, .data, .data] true (true, "89209a9365a01297849cd6976ad1084e2742c999bd6a84c51a7ade5452466e66") false
  fnExactAgentText_over (fun _ h => by cases h) (by kernel_rfl) (fun _ h => by cases h) fnExactAgentText_row_tie rfl ⟨rfl, rfl⟩ (by kernel_rfl) rfl
  (fun f fn hf hfn => by
   obtain rfl : f = 3 := Option.some.inj ((show Tryd.prog.funcNamed Tryd.f3.name = some 3 by kernel_rfl).symm.trans hf) |>.symm
   obtain rfl : fn = Tryd.f3 := (Option.some.inj (Tryd.func3.symm.trans hfn)).symm
   exact ⟨by kernel_rfl, fun j t ht => by
    rw [Tryd.params3] at ht
    have hm : t ∈ [26] := by simpa using Array.mem_of_getElem? ht
    have hall : ([26].all fun u => !Tryd.prog.wantsStandIn u) = true := by kernel_rfl
    exact (show Tryd.prog.wantsStandIn t = false by simpa using List.all_eq_true.1 hall t hm)⟩)
  (by kernel_rfl)

end Go.Proofs.YtljogkoaaidlcaaDoor

