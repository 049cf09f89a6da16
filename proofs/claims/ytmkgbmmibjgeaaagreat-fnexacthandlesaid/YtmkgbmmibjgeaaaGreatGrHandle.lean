/- For every agent, number and carrier the law FnExactHandle answers true, and agent and carrier read as they did: impl.Handle answers as the model's, writes nothing into what it is handed, and its answer owns its memory. No conditions. -/
import Derived.Test.YtmkgbmmibjgeaaaGreatGrLSeg
import Derived.Test.YtmkgbmmibjgeaaaGreatGrDropMath
import Derived.Test.YtmkgbmmibjgeaaaGreatGrSHdI8
import Derived.Deep.RegionHeld3
import Derived.Deep.CutRange
namespace Go.Proofs.YtmkgbmmibjgeaaaGreat
open Go.ChangeShapes Go.WideShapes Go.ChangeAt Go.RowKit Go.Joins
set_option linter.unusedVariables false
set_option linter.unusedSimpArgs false

theorem specHandle_sh (v u : Value) (m : Am) (now : Int) (y : Cm) (w : World) (hR : RdA w.heap.size w v m) (hQ : RdCm w.heap.size w u y) (hf : m.c.length + m.t.length ≤ 1048576) (hfy : fitCm y) :
    Calls Tryz.prog 6 #[v, .int .i64 now, u] w fun e w' => ∃ v', e = .returned (.tuple #[v', .int .i64 (hanV m now y.a y.b y.f y.s y.l.length y.g y.pl y.st)]) ∧ InA w.heap.size w'.heap.size w' v' (hanM m now y.a y.b y.f y.s y.l.length y.g y.pl y.st) ∧ Below w.heap.size w w' := by
  obtain ⟨vl, vg, rfl, ⟨o, c, rfl, r⟩, ⟨og, cg, rfl, rg⟩⟩ := hQ
  have h1 := hfy.1
  exact specHandle_any v m now y.a y.b y.f y.s o og y.l.length c cg y.g y.pl y.st w hR hf (by unfold maxLen; omega) (by unfold maxLen; omega) (RdG_rd.1 rg)
theorem implHandle_sh (v u : Value) (m : Am) (now : Int) (y : Cm) (w : World) (hR : RdA w.heap.size w v m) (hQ : RdCm w.heap.size w u y) (hf : m.c.length + m.t.length ≤ 1048576) (hfy : fitCm y) :
    Calls Tryz.prog 9 #[v, .int .i64 now, u] w fun e w' => ∃ v', e = .returned (.tuple #[v', .int .i64 (hanV m now y.a y.b y.f y.s y.l.length y.g y.pl y.st)]) ∧ InA w.heap.size w'.heap.size w' v' (hanM m now y.a y.b y.f y.s y.l.length y.g y.pl y.st) ∧ Below w.heap.size w w' := by
  obtain ⟨vl, vg, rfl, ⟨o, c, rfl, r⟩, ⟨og, cg, rfl, rg⟩⟩ := hQ
  have h1 := hfy.1
  exact implHandle_any v m now y.a y.b y.f y.s o og y.l.length c cg y.g y.pl y.st w hR hf (by unfold maxLen; omega) (by unfold maxLen; omega) (RdG_rd.1 rg)

set_option maxRecDepth 100000 in
set_option maxHeartbeats 32000000 in
theorem lawFnExactHandle (v : Value) (m : Am) (now : Int) (u : Value) (y : Cm) (w : World) (hR : RdA w.heap.size w v m) (hQ : RdCm w.heap.size w u y) (hl : m.c.length ≤ maxLen) (hg : m.t.length ≤ maxLen) (hl2 : y.l.length ≤ maxLen) (hg2 : y.g.length ≤ maxLen) (hB8 : isB y.l) :
    Calls Tryz.prog 3 #[v, .int .i64 now, u] w fun e w' => e = .returned (.bool true) ∧ Below w.heap.size w w' := by
  have hR0 := hR
  have hQ0 := hQ
  by_cases hfit : m.c.length + m.t.length ≤ 1048576
  · have hf : m.c.length + m.t.length ≤ 1048576 := hfit
    have HS := hide (fun v u W h1 h2 hfy => specHandle_sh v u m now y W h1 h2 hf hfy)
    have HI := hide (fun v u W h1 h2 hfy => implHandle_sh v u m now y W h1 h2 hf hfy)
    have hmr := hanM_fit now y.a y.b y.f y.s y.l.length y.g y.pl y.st hf
    generalize hanM m now y.a y.b y.f y.s y.l.length y.g y.pl y.st = mr at *
    generalize hanV m now y.a y.b y.f y.s y.l.length y.g y.pl y.st = t at *
    obtain ⟨vca, vta, rfl, ⟨oca, cca, rfl, _⟩, ⟨ota, cta, rfl, _⟩⟩ := hR0
    obtain ⟨vla, vsa, rfl, ⟨oa, ca, rfl, _⟩, ⟨oga, cga, rfl, _⟩⟩ := hQ0
    obtain ⟨w0, hw0⟩ : ∃ W, ((w.alloc (.cells #[.int .i64 m.id, .int .i64 m.lim, .bool m.dr, .slice oca m.c.length cca, .slice ota m.t.length cta] 26)).alloc (.cells #[.int .i64 y.a, .int .i64 y.b, .int .i64 y.f, .int .i64 y.s, .slice oa y.l.length ca, .slice oga y.g.length cga, .int .i64 y.pl, .int .i64 y.st] 34)) = W := ⟨_, rfl⟩
    have B_w0 : Below w.heap.size w w0 := by rw [← hw0]; exact (((Below.refl _ _).alloc (Nat.le_refl _) _).alloc (by simp) _)
    have hz_w0 : w.heap.size + 1 < w0.heap.size := by rw [← hw0]; simp
    have bxa : w0.heap[w.heap.size]? = some (.cells #[.int .i64 m.id, .int .i64 m.lim, .bool m.dr, .slice oca m.c.length cca, .slice ota m.t.length cta] 26 (0, 0)) := by
      have h := World.alloc_heap_new w (.cells #[.int .i64 m.id, .int .i64 m.lim, .bool m.dr, .slice oca m.c.length cca, .slice ota m.t.length cta] 26)
      (try rw [World.size_alloc] at h)
      rw [← hw0]
      refine (Below.heap_alloc _ _ _ (by simp)).trans ?_
      exact h
    have bxc : w0.heap[w.heap.size + 1]? = some (.cells #[.int .i64 y.a, .int .i64 y.b, .int .i64 y.f, .int .i64 y.s, .slice oa y.l.length ca, .slice oga y.g.length cga, .int .i64 y.pl, .int .i64 y.st] 34 (0, 0)) := by
      have h := World.alloc_heap_new (w.alloc (.cells #[.int .i64 m.id, .int .i64 m.lim, .bool m.dr, .slice oca m.c.length cca, .slice ota m.t.length cta] 26)) (.cells #[.int .i64 y.a, .int .i64 y.b, .int .i64 y.f, .int .i64 y.s, .slice oa y.l.length ca, .slice oga y.g.length cga, .int .i64 y.pl, .int .i64 y.st] 34)
      (try rw [World.size_alloc] at h)
      rw [← hw0]
      exact h
    have HR := hide hR
    clear hR
    have bxac0 : w0.cell? ⟨w.heap.size, 0, none⟩ = some (.int .i64 m.id) := block_cell1 bxa 0 _ rfl
    have bxac1 : w0.cell? ⟨w.heap.size, 1, none⟩ = some (.int .i64 m.lim) := block_cell1 bxa 1 _ rfl
    have bxac2 : w0.cell? ⟨w.heap.size, 2, none⟩ = some (.bool m.dr) := block_cell1 bxa 2 _ rfl
    have bxac3 : w0.cell? ⟨w.heap.size, 3, none⟩ = some (.slice oca m.c.length cca) := block_cell1 bxa 3 _ rfl
    have bxac4 : w0.cell? ⟨w.heap.size, 4, none⟩ = some (.slice ota m.t.length cta) := block_cell1 bxa 4 _ rfl
    have Hbxa := hide bxa
    clear bxa
    have Hbxc := hide bxc
    clear bxc
    have HB_ := hide B_w0
    clear B_w0
    go_enter Tryz.func3, Tryz.ntmps3
    go_wp2_with fail
    clear bxac0 bxac1 bxac2 bxac3 bxac4
    have bxa := Hbxa.out
    clear Hbxa
    have bxc := Hbxc.out
    clear Hbxc
    have B_w0 := HB_.out
    clear HB_
    clear hw0
    have hR := HR.out
    clear HR
    refine (szAgent_sh _ m w.heap.size w0 (hR.kept B_w0 (Nat.le_refl _)) hl hg).mono ?_
    rintro e w1 ⟨⟨nn, rfl, hpos, hneg, hn1, hn2⟩, hb_w1⟩
    have hnn := hpos hfit
    clear hpos hneg
    replace bxa := (hb_w1.block _ (by omega)).trans bxa
    replace bxc := (hb_w1.block _ (by omega)).trans bxc
    have B_w1 : Below w.heap.size w w1 := B_w0.trans (hb_w1.mono B_w0.size)
    have hs_w1 : w0.heap.size ≤ w1.heap.size := hb_w1.size
    clear hb_w1 B_w0
    have bxcc0 : w1.cell? ⟨w.heap.size + 1, 0, none⟩ = some (.int .i64 y.a) := block_cell1 bxc 0 _ rfl
    have bxcc1 : w1.cell? ⟨w.heap.size + 1, 1, none⟩ = some (.int .i64 y.b) := block_cell1 bxc 1 _ rfl
    have bxcc2 : w1.cell? ⟨w.heap.size + 1, 2, none⟩ = some (.int .i64 y.f) := block_cell1 bxc 2 _ rfl
    have bxcc3 : w1.cell? ⟨w.heap.size + 1, 3, none⟩ = some (.int .i64 y.s) := block_cell1 bxc 3 _ rfl
    have bxcc4 : w1.cell? ⟨w.heap.size + 1, 4, none⟩ = some (.slice oa y.l.length ca) := block_cell1 bxc 4 _ rfl
    have bxcc5 : w1.cell? ⟨w.heap.size + 1, 5, none⟩ = some (.slice oga y.g.length cga) := block_cell1 bxc 5 _ rfl
    have bxcc6 : w1.cell? ⟨w.heap.size + 1, 6, none⟩ = some (.int .i64 y.pl) := block_cell1 bxc 6 _ rfl
    have bxcc7 : w1.cell? ⟨w.heap.size + 1, 7, none⟩ = some (.int .i64 y.st) := block_cell1 bxc 7 _ rfl
    have Hbxa := hide bxa
    clear bxa
    have Hbxc := hide bxc
    clear bxc
    have HB_ := hide B_w1
    clear B_w1
    go_wp2_with fail
    clear bxcc0 bxcc1 bxcc2 bxcc3 bxcc4 bxcc5 bxcc6 bxcc7
    have bxa := Hbxa.out
    clear Hbxa
    have bxc := Hbxc.out
    clear Hbxc
    have B_w1 := HB_.out
    clear HB_
    refine (szCarrier_any y.a y.b y.f y.s _ _ y.l.length _ y.g.length _ y.pl y.st nn w1 hl2 hg2 hnn hn2).mono ?_
    rintro e w2 ⟨rfl, hb_w2⟩
    replace bxa := (hb_w2.block _ (by omega)).trans bxa
    replace bxc := (hb_w2.block _ (by omega)).trans bxc
    have B_w2 : Below w.heap.size w w2 := B_w1.trans (hb_w2.mono B_w1.size)
    have hs_w2 : w1.heap.size ≤ w2.heap.size := hb_w2.size
    clear hb_w2 B_w1
    by_cases hfit2 : nn - (y.l.length : Int) - (y.g.length : Int) < 0
    · rw [if_pos hfit2]
      have HB := hide B_w2
      clear hR hQ bxa bxc
      go_wp2
      go_ret
      exact ⟨rfl, HB.out⟩
    rw [if_neg hfit2]
    have hfy : fitCm y := ⟨by omega, hB8⟩
    generalize nn - (y.l.length : Int) - (y.g.length : Int) = n2 at *
    have bxac0 : w2.cell? ⟨w.heap.size, 0, none⟩ = some (.int .i64 m.id) := block_cell1 bxa 0 _ rfl
    have bxac1 : w2.cell? ⟨w.heap.size, 1, none⟩ = some (.int .i64 m.lim) := block_cell1 bxa 1 _ rfl
    have bxac2 : w2.cell? ⟨w.heap.size, 2, none⟩ = some (.bool m.dr) := block_cell1 bxa 2 _ rfl
    have bxac3 : w2.cell? ⟨w.heap.size, 3, none⟩ = some (.slice oca m.c.length cca) := block_cell1 bxa 3 _ rfl
    have bxac4 : w2.cell? ⟨w.heap.size, 4, none⟩ = some (.slice ota m.t.length cta) := block_cell1 bxa 4 _ rfl
    have bxcc0 : w2.cell? ⟨w.heap.size + 1, 0, none⟩ = some (.int .i64 y.a) := block_cell1 bxc 0 _ rfl
    have bxcc1 : w2.cell? ⟨w.heap.size + 1, 1, none⟩ = some (.int .i64 y.b) := block_cell1 bxc 1 _ rfl
    have bxcc2 : w2.cell? ⟨w.heap.size + 1, 2, none⟩ = some (.int .i64 y.f) := block_cell1 bxc 2 _ rfl
    have bxcc3 : w2.cell? ⟨w.heap.size + 1, 3, none⟩ = some (.int .i64 y.s) := block_cell1 bxc 3 _ rfl
    have bxcc4 : w2.cell? ⟨w.heap.size + 1, 4, none⟩ = some (.slice oa y.l.length ca) := block_cell1 bxc 4 _ rfl
    have bxcc5 : w2.cell? ⟨w.heap.size + 1, 5, none⟩ = some (.slice oga y.g.length cga) := block_cell1 bxc 5 _ rfl
    have bxcc6 : w2.cell? ⟨w.heap.size + 1, 6, none⟩ = some (.int .i64 y.pl) := block_cell1 bxc 6 _ rfl
    have bxcc7 : w2.cell? ⟨w.heap.size + 1, 7, none⟩ = some (.int .i64 y.st) := block_cell1 bxc 7 _ rfl
    have Hbxa := hide bxa
    clear bxa
    have Hbxc := hide bxc
    clear bxc
    have HB_ := hide B_w2
    clear B_w2
    go_upto_region 8 with fail
    go_cut [8, 9] from 29 to 37 (fun s8 s9 wx => ∃ B lo hi ocw ccw otw ctw, s8 = .pointer (some ⟨B, 0, none⟩) ∧ s9 = .int .i64 t ∧ Hid (wx.heap[B]? = some (.cells #[.int .i64 mr.id, .int .i64 mr.lim, .bool mr.dr, .slice ocw mr.c.length ccw, .slice otw mr.t.length ctw] 41 (0, 0))) ∧ Hid (Below w2.heap.size w2 wx) ∧ w2.heap.size ≤ B ∧ B < wx.heap.size ∧ Hid (InA lo hi wx (agt mr.id mr.lim mr.dr (.slice ocw mr.c.length ccw) (.slice otw mr.t.length ctw)) mr) ∧ w2.heap.size ≤ lo ∧ hi ≤ wx.heap.size ∧ (B < lo ∨ hi ≤ B))
    case first =>
      have hk_bxa : w.heap.size < w2.heap.size := by omega
      have hk_bxc : w.heap.size + 1 < w2.heap.size := by omega
      go_region_held3 (fun w' => w'.cell? ⟨w.heap.size, 0, none⟩ = some (.int .i64 m.id) ∧ w'.cell? ⟨w.heap.size, 1, none⟩ = some (.int .i64 m.lim) ∧ w'.cell? ⟨w.heap.size, 2, none⟩ = some (.bool m.dr) ∧ w'.cell? ⟨w.heap.size, 3, none⟩ = some (.slice oca m.c.length cca) ∧ w'.cell? ⟨w.heap.size, 4, none⟩ = some (.slice ota m.t.length cta) ∧ w'.cell? ⟨w.heap.size + 1, 0, none⟩ = some (.int .i64 y.a) ∧ w'.cell? ⟨w.heap.size + 1, 1, none⟩ = some (.int .i64 y.b) ∧ w'.cell? ⟨w.heap.size + 1, 2, none⟩ = some (.int .i64 y.f) ∧ w'.cell? ⟨w.heap.size + 1, 3, none⟩ = some (.int .i64 y.s) ∧ w'.cell? ⟨w.heap.size + 1, 4, none⟩ = some (.slice oa y.l.length ca) ∧ w'.cell? ⟨w.heap.size + 1, 5, none⟩ = some (.slice oga y.g.length cga) ∧ w'.cell? ⟨w.heap.size + 1, 6, none⟩ = some (.int .i64 y.pl) ∧ w'.cell? ⟨w.heap.size + 1, 7, none⟩ = some (.int .i64 y.st)) (first | with_reducible exact ⟨k2_0, k2_1, k2_2, k2_3, k2_4, k2_5, k2_6, k2_7, k2_8, k2_9, k2_10, k2_11, k2_12⟩ | with_reducible exact ⟨k1_0, k1_1, k1_2, k1_3, k1_4, k1_5, k1_6, k1_7, k1_8, k1_9, k1_10, k1_11, k1_12⟩ | with_reducible exact ⟨k0_0, k0_1, k0_2, k0_3, k0_4, k0_5, k0_6, k0_7, k0_8, k0_9, k0_10, k0_11, k0_12⟩ | with_reducible exact ⟨bxac0, bxac1, bxac2, bxac3, bxac4, bxcc0, bxcc1, bxcc2, bxcc3, bxcc4, bxcc5, bxcc6, bxcc7⟩ | with_reducible exact ⟨set5v_cell k2_0 (show w.heap.size < w2.heap.size by omega), set5v_cell k2_1 (show w.heap.size < w2.heap.size by omega), set5v_cell k2_2 (show w.heap.size < w2.heap.size by omega), set5v_cell k2_3 (show w.heap.size < w2.heap.size by omega), set5v_cell k2_4 (show w.heap.size < w2.heap.size by omega), set5v_cell k2_5 (show w.heap.size + 1 < w2.heap.size by omega), set5v_cell k2_6 (show w.heap.size + 1 < w2.heap.size by omega), set5v_cell k2_7 (show w.heap.size + 1 < w2.heap.size by omega), set5v_cell k2_8 (show w.heap.size + 1 < w2.heap.size by omega), set5v_cell k2_9 (show w.heap.size + 1 < w2.heap.size by omega), set5v_cell k2_10 (show w.heap.size + 1 < w2.heap.size by omega), set5v_cell k2_11 (show w.heap.size + 1 < w2.heap.size by omega), set5v_cell k2_12 (show w.heap.size + 1 < w2.heap.size by omega)⟩ | with_reducible exact ⟨set5v_cell k2_0 (show w.heap.size < x0.heap.size by omega), set5v_cell k2_1 (show w.heap.size < x0.heap.size by omega), set5v_cell k2_2 (show w.heap.size < x0.heap.size by omega), set5v_cell k2_3 (show w.heap.size < x0.heap.size by omega), set5v_cell k2_4 (show w.heap.size < x0.heap.size by omega), set5v_cell k2_5 (show w.heap.size + 1 < x0.heap.size by omega), set5v_cell k2_6 (show w.heap.size + 1 < x0.heap.size by omega), set5v_cell k2_7 (show w.heap.size + 1 < x0.heap.size by omega), set5v_cell k2_8 (show w.heap.size + 1 < x0.heap.size by omega), set5v_cell k2_9 (show w.heap.size + 1 < x0.heap.size by omega), set5v_cell k2_10 (show w.heap.size + 1 < x0.heap.size by omega), set5v_cell k2_11 (show w.heap.size + 1 < x0.heap.size by omega), set5v_cell k2_12 (show w.heap.size + 1 < x0.heap.size by omega)⟩ | with_reducible exact ⟨set5v_cell k2_0 (show w.heap.size < x1.heap.size by omega), set5v_cell k2_1 (show w.heap.size < x1.heap.size by omega), set5v_cell k2_2 (show w.heap.size < x1.heap.size by omega), set5v_cell k2_3 (show w.heap.size < x1.heap.size by omega), set5v_cell k2_4 (show w.heap.size < x1.heap.size by omega), set5v_cell k2_5 (show w.heap.size + 1 < x1.heap.size by omega), set5v_cell k2_6 (show w.heap.size + 1 < x1.heap.size by omega), set5v_cell k2_7 (show w.heap.size + 1 < x1.heap.size by omega), set5v_cell k2_8 (show w.heap.size + 1 < x1.heap.size by omega), set5v_cell k2_9 (show w.heap.size + 1 < x1.heap.size by omega), set5v_cell k2_10 (show w.heap.size + 1 < x1.heap.size by omega), set5v_cell k2_11 (show w.heap.size + 1 < x1.heap.size by omega), set5v_cell k2_12 (show w.heap.size + 1 < x1.heap.size by omega)⟩ | go_keep) (first | (go_at_call 7; have hc_ := toAgent_sh _ m w2.drew ((hR.kept (Below.drew HB_.out) (Nat.le_refl _)).le HB_.out.size) hf; with_reducible refine hc_.mono ?_; clear hc_; rintro e x0 ⟨v2, rfl, in2, hb⟩; have hp0 : Below w2.heap.size w2 x0 := Below.trans (show Below w2.heap.size w2 w2.drew from (Below.drew (Below.refl _ _))) (hb.mono (by simp)); have sp0 : w2.heap.size ≤ x0.heap.size := hp0.size; have hx0 : Below w2.heap.size w2 x0 := hp0; have k0_0 := (hx0.cell (p := ⟨w.heap.size, 0, none⟩) hk_bxa).trans bxac0; have k0_1 := (hx0.cell (p := ⟨w.heap.size, 1, none⟩) hk_bxa).trans bxac1; have k0_2 := (hx0.cell (p := ⟨w.heap.size, 2, none⟩) hk_bxa).trans bxac2; have k0_3 := (hx0.cell (p := ⟨w.heap.size, 3, none⟩) hk_bxa).trans bxac3; have k0_4 := (hx0.cell (p := ⟨w.heap.size, 4, none⟩) hk_bxa).trans bxac4; have k0_5 := (hx0.cell (p := ⟨w.heap.size + 1, 0, none⟩) hk_bxc).trans bxcc0; have k0_6 := (hx0.cell (p := ⟨w.heap.size + 1, 1, none⟩) hk_bxc).trans bxcc1; have k0_7 := (hx0.cell (p := ⟨w.heap.size + 1, 2, none⟩) hk_bxc).trans bxcc2; have k0_8 := (hx0.cell (p := ⟨w.heap.size + 1, 3, none⟩) hk_bxc).trans bxcc3; have k0_9 := (hx0.cell (p := ⟨w.heap.size + 1, 4, none⟩) hk_bxc).trans bxcc4; have k0_10 := (hx0.cell (p := ⟨w.heap.size + 1, 5, none⟩) hk_bxc).trans bxcc5; have k0_11 := (hx0.cell (p := ⟨w.heap.size + 1, 6, none⟩) hk_bxc).trans bxcc6; have k0_12 := (hx0.cell (p := ⟨w.heap.size + 1, 7, none⟩) hk_bxc).trans bxcc7; (try have hzl0_0 := (Array.getElem?_eq_some_iff.1 hZ0_0).1); have rda := in2.rd; clear hb) | (go_at_call 7; have hc_ := toAgent_sh _ m (w2.alloc (.cells #[.int .i64 0, .int .i64 0, .bool false, .slice none 0 0, .slice none 0 0] 41)).drew ((hR.kept (Below.drew (HB_.out.alloc HB_.out.size _)) (Nat.le_refl _)).le (Nat.le_trans HB_.out.size (by simp))) hf; with_reducible refine hc_.mono ?_; clear hc_; rintro e x0 ⟨v2, rfl, in2, hb⟩; have hp0 : Below w2.heap.size w2 x0 := Below.trans (show Below w2.heap.size w2 (w2.alloc (.cells #[.int .i64 0, .int .i64 0, .bool false, .slice none 0 0, .slice none 0 0] 41)).drew from (Below.drew ((Below.refl _ _).alloc (Nat.le_refl _) _))) (hb.mono (by simp)); have sp0 : w2.heap.size ≤ x0.heap.size := hp0.size; have hx0 : Below w2.heap.size w2 x0 := hp0; have k0_0 := (hx0.cell (p := ⟨w.heap.size, 0, none⟩) hk_bxa).trans bxac0; have k0_1 := (hx0.cell (p := ⟨w.heap.size, 1, none⟩) hk_bxa).trans bxac1; have k0_2 := (hx0.cell (p := ⟨w.heap.size, 2, none⟩) hk_bxa).trans bxac2; have k0_3 := (hx0.cell (p := ⟨w.heap.size, 3, none⟩) hk_bxa).trans bxac3; have k0_4 := (hx0.cell (p := ⟨w.heap.size, 4, none⟩) hk_bxa).trans bxac4; have k0_5 := (hx0.cell (p := ⟨w.heap.size + 1, 0, none⟩) hk_bxc).trans bxcc0; have k0_6 := (hx0.cell (p := ⟨w.heap.size + 1, 1, none⟩) hk_bxc).trans bxcc1; have k0_7 := (hx0.cell (p := ⟨w.heap.size + 1, 2, none⟩) hk_bxc).trans bxcc2; have k0_8 := (hx0.cell (p := ⟨w.heap.size + 1, 3, none⟩) hk_bxc).trans bxcc3; have k0_9 := (hx0.cell (p := ⟨w.heap.size + 1, 4, none⟩) hk_bxc).trans bxcc4; have k0_10 := (hx0.cell (p := ⟨w.heap.size + 1, 5, none⟩) hk_bxc).trans bxcc5; have k0_11 := (hx0.cell (p := ⟨w.heap.size + 1, 6, none⟩) hk_bxc).trans bxcc6; have k0_12 := (hx0.cell (p := ⟨w.heap.size + 1, 7, none⟩) hk_bxc).trans bxcc7; have hZ0_0 : x0.heap[w2.heap.size]? = some (.cells #[.int .i64 0, .int .i64 0, .bool false, .slice none 0 0, .slice none 0 0] 41 (0, 0)) := (box_new0 hb); (try have hzl0_0 := (Array.getElem?_eq_some_iff.1 hZ0_0).1); have rda := in2.rd; clear hb) | (go_at_call 8; have hc_ := toCarrier_sh _ y x0 ((hQ.kept (HB_.out.trans (hx0.mono HB_.out.size)) (Nat.le_refl _)).le (Nat.le_trans HB_.out.size hx0.size)) hfy; with_reducible refine hc_.mono ?_; clear hc_; rintro e x1 ⟨u2, rfl, jn2, hb⟩; have hp1 : Below x0.heap.size x0 x1 := hb; have sp1 : x0.heap.size ≤ x1.heap.size := hp1.size; have hx1 : Below w2.heap.size w2 x1 := hx0.trans (hp1.mono hx0.size); have k1_0 := (hx1.cell (p := ⟨w.heap.size, 0, none⟩) hk_bxa).trans bxac0; have k1_1 := (hx1.cell (p := ⟨w.heap.size, 1, none⟩) hk_bxa).trans bxac1; have k1_2 := (hx1.cell (p := ⟨w.heap.size, 2, none⟩) hk_bxa).trans bxac2; have k1_3 := (hx1.cell (p := ⟨w.heap.size, 3, none⟩) hk_bxa).trans bxac3; have k1_4 := (hx1.cell (p := ⟨w.heap.size, 4, none⟩) hk_bxa).trans bxac4; have k1_5 := (hx1.cell (p := ⟨w.heap.size + 1, 0, none⟩) hk_bxc).trans bxcc0; have k1_6 := (hx1.cell (p := ⟨w.heap.size + 1, 1, none⟩) hk_bxc).trans bxcc1; have k1_7 := (hx1.cell (p := ⟨w.heap.size + 1, 2, none⟩) hk_bxc).trans bxcc2; have k1_8 := (hx1.cell (p := ⟨w.heap.size + 1, 3, none⟩) hk_bxc).trans bxcc3; have k1_9 := (hx1.cell (p := ⟨w.heap.size + 1, 4, none⟩) hk_bxc).trans bxcc4; have k1_10 := (hx1.cell (p := ⟨w.heap.size + 1, 5, none⟩) hk_bxc).trans bxcc5; have k1_11 := (hx1.cell (p := ⟨w.heap.size + 1, 6, none⟩) hk_bxc).trans bxcc6; have k1_12 := (hx1.cell (p := ⟨w.heap.size + 1, 7, none⟩) hk_bxc).trans bxcc7; (try have hZ1_0 : x1.heap[w2.heap.size]? = some (.cells #[.int .i64 0, .int .i64 0, .bool false, .slice none 0 0, .slice none 0 0] 41 (0, 0)) := (hp1.block _ (Array.getElem?_eq_some_iff.1 hZ0_0).1).trans hZ0_0); (try have hzl1_0 := (Array.getElem?_eq_some_iff.1 hZ1_0).1); (try have hzl1_1 := (Array.getElem?_eq_some_iff.1 hZ1_1).1); have rdb := rda.kept hp1 (Nat.le_refl _); have rdc := jn2.rd; clear hb) | (go_at_call 8; have hc_ := toCarrier_sh _ y (x0.alloc (.cells #[.int .i64 0, .int .i64 0, .bool false, .slice none 0 0, .slice none 0 0] 41)) ((hQ.kept ((HB_.out.trans (hx0.mono HB_.out.size)).alloc (Nat.le_trans HB_.out.size hx0.size) _) (Nat.le_refl _)).le (Nat.le_trans (Nat.le_trans HB_.out.size hx0.size) (by simp))) hfy; with_reducible refine hc_.mono ?_; clear hc_; rintro e x1 ⟨u2, rfl, jn2, hb⟩; have hp1 : Below x0.heap.size x0 x1 := Below.trans (show Below x0.heap.size x0 (x0.alloc (.cells #[.int .i64 0, .int .i64 0, .bool false, .slice none 0 0, .slice none 0 0] 41)) from ((Below.refl _ _).alloc (Nat.le_refl _) _)) (hb.mono (by simp)); have sp1 : x0.heap.size ≤ x1.heap.size := hp1.size; have hx1 : Below w2.heap.size w2 x1 := hx0.trans (hp1.mono hx0.size); have k1_0 := (hx1.cell (p := ⟨w.heap.size, 0, none⟩) hk_bxa).trans bxac0; have k1_1 := (hx1.cell (p := ⟨w.heap.size, 1, none⟩) hk_bxa).trans bxac1; have k1_2 := (hx1.cell (p := ⟨w.heap.size, 2, none⟩) hk_bxa).trans bxac2; have k1_3 := (hx1.cell (p := ⟨w.heap.size, 3, none⟩) hk_bxa).trans bxac3; have k1_4 := (hx1.cell (p := ⟨w.heap.size, 4, none⟩) hk_bxa).trans bxac4; have k1_5 := (hx1.cell (p := ⟨w.heap.size + 1, 0, none⟩) hk_bxc).trans bxcc0; have k1_6 := (hx1.cell (p := ⟨w.heap.size + 1, 1, none⟩) hk_bxc).trans bxcc1; have k1_7 := (hx1.cell (p := ⟨w.heap.size + 1, 2, none⟩) hk_bxc).trans bxcc2; have k1_8 := (hx1.cell (p := ⟨w.heap.size + 1, 3, none⟩) hk_bxc).trans bxcc3; have k1_9 := (hx1.cell (p := ⟨w.heap.size + 1, 4, none⟩) hk_bxc).trans bxcc4; have k1_10 := (hx1.cell (p := ⟨w.heap.size + 1, 5, none⟩) hk_bxc).trans bxcc5; have k1_11 := (hx1.cell (p := ⟨w.heap.size + 1, 6, none⟩) hk_bxc).trans bxcc6; have k1_12 := (hx1.cell (p := ⟨w.heap.size + 1, 7, none⟩) hk_bxc).trans bxcc7; (try have hZ1_0 : x1.heap[w2.heap.size]? = some (.cells #[.int .i64 0, .int .i64 0, .bool false, .slice none 0 0, .slice none 0 0] 41 (0, 0)) := (hp1.block _ (Array.getElem?_eq_some_iff.1 hZ0_0).1).trans hZ0_0); have hZ1_1 : x1.heap[x0.heap.size]? = some (.cells #[.int .i64 0, .int .i64 0, .bool false, .slice none 0 0, .slice none 0 0] 41 (0, 0)) := (box_new1 hb); (try have hzl1_0 := (Array.getElem?_eq_some_iff.1 hZ1_0).1); (try have hzl1_1 := (Array.getElem?_eq_some_iff.1 hZ1_1).1); have rdb := rda.kept hp1 (Nat.le_refl _); have rdc := jn2.rd; clear hb) | (go_at_call 6; have hc_ := HS.out _ _ x1 (rdb.le (by omega)) rdc hfy; with_reducible refine hc_.mono ?_; clear hc_; rintro e x2 ⟨vw, rfl, inw, hb⟩; have hp2 : Below x1.heap.size x1 x2 := hb; have sp2 : x1.heap.size ≤ x2.heap.size := hp2.size; have hx2 : Below w2.heap.size w2 x2 := hx1.trans (hp2.mono hx1.size); have k2_0 := (hx2.cell (p := ⟨w.heap.size, 0, none⟩) hk_bxa).trans bxac0; have k2_1 := (hx2.cell (p := ⟨w.heap.size, 1, none⟩) hk_bxa).trans bxac1; have k2_2 := (hx2.cell (p := ⟨w.heap.size, 2, none⟩) hk_bxa).trans bxac2; have k2_3 := (hx2.cell (p := ⟨w.heap.size, 3, none⟩) hk_bxa).trans bxac3; have k2_4 := (hx2.cell (p := ⟨w.heap.size, 4, none⟩) hk_bxa).trans bxac4; have k2_5 := (hx2.cell (p := ⟨w.heap.size + 1, 0, none⟩) hk_bxc).trans bxcc0; have k2_6 := (hx2.cell (p := ⟨w.heap.size + 1, 1, none⟩) hk_bxc).trans bxcc1; have k2_7 := (hx2.cell (p := ⟨w.heap.size + 1, 2, none⟩) hk_bxc).trans bxcc2; have k2_8 := (hx2.cell (p := ⟨w.heap.size + 1, 3, none⟩) hk_bxc).trans bxcc3; have k2_9 := (hx2.cell (p := ⟨w.heap.size + 1, 4, none⟩) hk_bxc).trans bxcc4; have k2_10 := (hx2.cell (p := ⟨w.heap.size + 1, 5, none⟩) hk_bxc).trans bxcc5; have k2_11 := (hx2.cell (p := ⟨w.heap.size + 1, 6, none⟩) hk_bxc).trans bxcc6; have k2_12 := (hx2.cell (p := ⟨w.heap.size + 1, 7, none⟩) hk_bxc).trans bxcc7; (try have hZ2_0 : x2.heap[w2.heap.size]? = some (.cells #[.int .i64 0, .int .i64 0, .bool false, .slice none 0 0, .slice none 0 0] 41 (0, 0)) := (hp2.block _ (Array.getElem?_eq_some_iff.1 hZ1_0).1).trans hZ1_0); (try have hZ2_1 : x2.heap[x0.heap.size]? = some (.cells #[.int .i64 0, .int .i64 0, .bool false, .slice none 0 0, .slice none 0 0] 41 (0, 0)) := (hp2.block _ (Array.getElem?_eq_some_iff.1 hZ1_1).1).trans hZ1_1); (try have hzl2_0 := (Array.getElem?_eq_some_iff.1 hZ2_0).1); (try have hzl2_1 := (Array.getElem?_eq_some_iff.1 hZ2_1).1); (try have hzl2_2 := (Array.getElem?_eq_some_iff.1 hZ2_2).1); obtain ⟨ocw, ccw, otw, ctw, hve⟩ := InA.opn inw; subst hve; (try have hzc0_0 : x2.cell? ⟨w2.heap.size, 0, none⟩ = some (.int .i64 0) := block_cell1 hZ2_0 0 _ rfl); (try have hzf0_0 := frozen_of hZ2_0 0); (try have hzc0_1 : x2.cell? ⟨w2.heap.size, 1, none⟩ = some (.int .i64 0) := block_cell1 hZ2_0 1 _ rfl); (try have hzf0_1 := frozen_of hZ2_0 1); (try have hzc0_2 : x2.cell? ⟨w2.heap.size, 2, none⟩ = some (.bool false) := block_cell1 hZ2_0 2 _ rfl); (try have hzf0_2 := frozen_of hZ2_0 2); (try have hzc0_3 : x2.cell? ⟨w2.heap.size, 3, none⟩ = some (.slice none 0 0) := block_cell1 hZ2_0 3 _ rfl); (try have hzf0_3 := frozen_of hZ2_0 3); (try have hzc0_4 : x2.cell? ⟨w2.heap.size, 4, none⟩ = some (.slice none 0 0) := block_cell1 hZ2_0 4 _ rfl); (try have hzf0_4 := frozen_of hZ2_0 4); (try have hzc1_0 : x2.cell? ⟨x0.heap.size, 0, none⟩ = some (.int .i64 0) := block_cell1 hZ2_1 0 _ rfl); (try have hzf1_0 := frozen_of hZ2_1 0); (try have hzc1_1 : x2.cell? ⟨x0.heap.size, 1, none⟩ = some (.int .i64 0) := block_cell1 hZ2_1 1 _ rfl); (try have hzf1_1 := frozen_of hZ2_1 1); (try have hzc1_2 : x2.cell? ⟨x0.heap.size, 2, none⟩ = some (.bool false) := block_cell1 hZ2_1 2 _ rfl); (try have hzf1_2 := frozen_of hZ2_1 2); (try have hzc1_3 : x2.cell? ⟨x0.heap.size, 3, none⟩ = some (.slice none 0 0) := block_cell1 hZ2_1 3 _ rfl); (try have hzf1_3 := frozen_of hZ2_1 3); (try have hzc1_4 : x2.cell? ⟨x0.heap.size, 4, none⟩ = some (.slice none 0 0) := block_cell1 hZ2_1 4 _ rfl); (try have hzf1_4 := frozen_of hZ2_1 4); (try have hzc2_0 : x2.cell? ⟨x1.heap.size, 0, none⟩ = some (.int .i64 0) := block_cell1 hZ2_2 0 _ rfl); (try have hzf2_0 := frozen_of hZ2_2 0); (try have hzc2_1 : x2.cell? ⟨x1.heap.size, 1, none⟩ = some (.int .i64 0) := block_cell1 hZ2_2 1 _ rfl); (try have hzf2_1 := frozen_of hZ2_2 1); (try have hzc2_2 : x2.cell? ⟨x1.heap.size, 2, none⟩ = some (.bool false) := block_cell1 hZ2_2 2 _ rfl); (try have hzf2_2 := frozen_of hZ2_2 2); (try have hzc2_3 : x2.cell? ⟨x1.heap.size, 3, none⟩ = some (.slice none 0 0) := block_cell1 hZ2_2 3 _ rfl); (try have hzf2_3 := frozen_of hZ2_2 3); (try have hzc2_4 : x2.cell? ⟨x1.heap.size, 4, none⟩ = some (.slice none 0 0) := block_cell1 hZ2_2 4 _ rfl); (try have hzf2_4 := frozen_of hZ2_2 4); clear hb) | (go_at_call 6; have hc_ := HS.out _ _ (x1.alloc (.cells #[.int .i64 0, .int .i64 0, .bool false, .slice none 0 0, .slice none 0 0] 41)) (((rdb.le (show x0.heap.size ≤ x1.heap.size by omega)).kept ((Below.refl _ _).alloc (Nat.le_refl _) _) (Nat.le_refl _)).le (by simp)) ((rdc.kept ((Below.refl _ _).alloc (Nat.le_refl _) _) (Nat.le_refl _)).le (by simp)) hfy; with_reducible refine hc_.mono ?_; clear hc_; rintro e x2 ⟨vw, rfl, inw, hb⟩; have hp2 : Below x1.heap.size x1 x2 := Below.trans (show Below x1.heap.size x1 (x1.alloc (.cells #[.int .i64 0, .int .i64 0, .bool false, .slice none 0 0, .slice none 0 0] 41)) from ((Below.refl _ _).alloc (Nat.le_refl _) _)) (hb.mono (by simp)); have sp2 : x1.heap.size ≤ x2.heap.size := hp2.size; have hx2 : Below w2.heap.size w2 x2 := hx1.trans (hp2.mono hx1.size); have k2_0 := (hx2.cell (p := ⟨w.heap.size, 0, none⟩) hk_bxa).trans bxac0; have k2_1 := (hx2.cell (p := ⟨w.heap.size, 1, none⟩) hk_bxa).trans bxac1; have k2_2 := (hx2.cell (p := ⟨w.heap.size, 2, none⟩) hk_bxa).trans bxac2; have k2_3 := (hx2.cell (p := ⟨w.heap.size, 3, none⟩) hk_bxa).trans bxac3; have k2_4 := (hx2.cell (p := ⟨w.heap.size, 4, none⟩) hk_bxa).trans bxac4; have k2_5 := (hx2.cell (p := ⟨w.heap.size + 1, 0, none⟩) hk_bxc).trans bxcc0; have k2_6 := (hx2.cell (p := ⟨w.heap.size + 1, 1, none⟩) hk_bxc).trans bxcc1; have k2_7 := (hx2.cell (p := ⟨w.heap.size + 1, 2, none⟩) hk_bxc).trans bxcc2; have k2_8 := (hx2.cell (p := ⟨w.heap.size + 1, 3, none⟩) hk_bxc).trans bxcc3; have k2_9 := (hx2.cell (p := ⟨w.heap.size + 1, 4, none⟩) hk_bxc).trans bxcc4; have k2_10 := (hx2.cell (p := ⟨w.heap.size + 1, 5, none⟩) hk_bxc).trans bxcc5; have k2_11 := (hx2.cell (p := ⟨w.heap.size + 1, 6, none⟩) hk_bxc).trans bxcc6; have k2_12 := (hx2.cell (p := ⟨w.heap.size + 1, 7, none⟩) hk_bxc).trans bxcc7; (try have hZ2_0 : x2.heap[w2.heap.size]? = some (.cells #[.int .i64 0, .int .i64 0, .bool false, .slice none 0 0, .slice none 0 0] 41 (0, 0)) := (hp2.block _ (Array.getElem?_eq_some_iff.1 hZ1_0).1).trans hZ1_0); (try have hZ2_1 : x2.heap[x0.heap.size]? = some (.cells #[.int .i64 0, .int .i64 0, .bool false, .slice none 0 0, .slice none 0 0] 41 (0, 0)) := (hp2.block _ (Array.getElem?_eq_some_iff.1 hZ1_1).1).trans hZ1_1); have hZ2_2 : x2.heap[x1.heap.size]? = some (.cells #[.int .i64 0, .int .i64 0, .bool false, .slice none 0 0, .slice none 0 0] 41 (0, 0)) := (box_new1 hb); (try have hzl2_0 := (Array.getElem?_eq_some_iff.1 hZ2_0).1); (try have hzl2_1 := (Array.getElem?_eq_some_iff.1 hZ2_1).1); (try have hzl2_2 := (Array.getElem?_eq_some_iff.1 hZ2_2).1); obtain ⟨ocw, ccw, otw, ctw, hve⟩ := InA.opn inw; subst hve; (try have hzc0_0 : x2.cell? ⟨w2.heap.size, 0, none⟩ = some (.int .i64 0) := block_cell1 hZ2_0 0 _ rfl); (try have hzf0_0 := frozen_of hZ2_0 0); (try have hzc0_1 : x2.cell? ⟨w2.heap.size, 1, none⟩ = some (.int .i64 0) := block_cell1 hZ2_0 1 _ rfl); (try have hzf0_1 := frozen_of hZ2_0 1); (try have hzc0_2 : x2.cell? ⟨w2.heap.size, 2, none⟩ = some (.bool false) := block_cell1 hZ2_0 2 _ rfl); (try have hzf0_2 := frozen_of hZ2_0 2); (try have hzc0_3 : x2.cell? ⟨w2.heap.size, 3, none⟩ = some (.slice none 0 0) := block_cell1 hZ2_0 3 _ rfl); (try have hzf0_3 := frozen_of hZ2_0 3); (try have hzc0_4 : x2.cell? ⟨w2.heap.size, 4, none⟩ = some (.slice none 0 0) := block_cell1 hZ2_0 4 _ rfl); (try have hzf0_4 := frozen_of hZ2_0 4); (try have hzc1_0 : x2.cell? ⟨x0.heap.size, 0, none⟩ = some (.int .i64 0) := block_cell1 hZ2_1 0 _ rfl); (try have hzf1_0 := frozen_of hZ2_1 0); (try have hzc1_1 : x2.cell? ⟨x0.heap.size, 1, none⟩ = some (.int .i64 0) := block_cell1 hZ2_1 1 _ rfl); (try have hzf1_1 := frozen_of hZ2_1 1); (try have hzc1_2 : x2.cell? ⟨x0.heap.size, 2, none⟩ = some (.bool false) := block_cell1 hZ2_1 2 _ rfl); (try have hzf1_2 := frozen_of hZ2_1 2); (try have hzc1_3 : x2.cell? ⟨x0.heap.size, 3, none⟩ = some (.slice none 0 0) := block_cell1 hZ2_1 3 _ rfl); (try have hzf1_3 := frozen_of hZ2_1 3); (try have hzc1_4 : x2.cell? ⟨x0.heap.size, 4, none⟩ = some (.slice none 0 0) := block_cell1 hZ2_1 4 _ rfl); (try have hzf1_4 := frozen_of hZ2_1 4); (try have hzc2_0 : x2.cell? ⟨x1.heap.size, 0, none⟩ = some (.int .i64 0) := block_cell1 hZ2_2 0 _ rfl); (try have hzf2_0 := frozen_of hZ2_2 0); (try have hzc2_1 : x2.cell? ⟨x1.heap.size, 1, none⟩ = some (.int .i64 0) := block_cell1 hZ2_2 1 _ rfl); (try have hzf2_1 := frozen_of hZ2_2 1); (try have hzc2_2 : x2.cell? ⟨x1.heap.size, 2, none⟩ = some (.bool false) := block_cell1 hZ2_2 2 _ rfl); (try have hzf2_2 := frozen_of hZ2_2 2); (try have hzc2_3 : x2.cell? ⟨x1.heap.size, 3, none⟩ = some (.slice none 0 0) := block_cell1 hZ2_2 3 _ rfl); (try have hzf2_3 := frozen_of hZ2_2 3); (try have hzc2_4 : x2.cell? ⟨x1.heap.size, 4, none⟩ = some (.slice none 0 0) := block_cell1 hZ2_2 4 _ rfl); (try have hzf2_4 := frozen_of hZ2_2 4); clear hb))
      all_goals (go_wp2_with fail; go_meet)
      all_goals first
        | with_reducible exact finA hZ2_0 hx2 (by omega) inw (by (try simp) <;> omega) (Nat.le_refl _) (by (try simp) <;> omega)
        | with_reducible exact finA hZ2_1 hx2 (by omega) inw (by (try simp) <;> omega) (Nat.le_refl _) (by (try simp) <;> omega)
        | with_reducible exact finA hZ2_2 hx2 (by omega) inw (by (try simp) <;> omega) (Nat.le_refl _) (by (try simp) <;> omega)
        | with_reducible exact finAn hx2 inw (by (try simp) <;> omega) (Nat.le_refl _)
    case rest =>
    obtain ⟨Bw, low, hiw, ocw, ccw, otw, ctw, rfl, rfl, Hbx_, Hbl_, hB1_w, hB2_w, Hin_, hl1_w, hl2_w, hl3_w⟩ := hcut
    have bxw := Hbx_.out
    have hbl_ := Hbl_.out
    clear Hbx_ Hbl_
    have inw := Hin_.out
    clear Hin_
    clear bxac0 bxac1 bxac2 bxac3 bxac4
    clear bxcc0 bxcc1 bxcc2 bxcc3 bxcc4 bxcc5 bxcc6 bxcc7
    have bxa := Hbxa.out
    clear Hbxa
    have bxc := Hbxc.out
    clear Hbxc
    have B_w2 := HB_.out
    clear HB_
    obtain ⟨w3, hwc⟩ : ∃ W, W = wc := ⟨_, rfl⟩
    subst hwc
    replace bxa := (hbl_.block _ (by omega)).trans bxa
    replace bxc := (hbl_.block _ (by omega)).trans bxc
    have B_w3 : Below w.heap.size w w3 := B_w2.trans (hbl_.mono B_w2.size)
    have hs_w3 : w2.heap.size ≤ w3.heap.size := hbl_.size
    clear hbl_ B_w2
    have bxac0 : w3.cell? ⟨w.heap.size, 0, none⟩ = some (.int .i64 m.id) := block_cell1 bxa 0 _ rfl
    have bxac1 : w3.cell? ⟨w.heap.size, 1, none⟩ = some (.int .i64 m.lim) := block_cell1 bxa 1 _ rfl
    have bxac2 : w3.cell? ⟨w.heap.size, 2, none⟩ = some (.bool m.dr) := block_cell1 bxa 2 _ rfl
    have bxac3 : w3.cell? ⟨w.heap.size, 3, none⟩ = some (.slice oca m.c.length cca) := block_cell1 bxa 3 _ rfl
    have bxac4 : w3.cell? ⟨w.heap.size, 4, none⟩ = some (.slice ota m.t.length cta) := block_cell1 bxa 4 _ rfl
    have Hbxa := hide bxa
    clear bxa
    have Hbxc := hide bxc
    clear bxc
    have Hbxw := hide bxw
    clear bxw
    have Hinw := hide inw
    clear inw
    have HB_ := hide B_w3
    clear B_w3
    go_wp2_with fail
    clear bxac0 bxac1 bxac2 bxac3 bxac4
    have bxa := Hbxa.out
    clear Hbxa
    have bxc := Hbxc.out
    clear Hbxc
    have bxw := Hbxw.out
    clear Hbxw
    have inw := Hinw.out
    clear Hinw
    have B_w3 := HB_.out
    clear HB_
    refine (toAgent_sh _ m w3 ((hR.kept B_w3 (Nat.le_refl _)).le B_w3.size) hf).mono ?_
    rintro e w4 ⟨vx, rfl, inx, hb_w4⟩
    replace bxa := (hb_w4.block _ (by omega)).trans bxa
    replace bxc := (hb_w4.block _ (by omega)).trans bxc
    replace bxw := (hb_w4.block _ (by omega)).trans bxw
    replace inw := inw.step (Stp.of (lo := 0) (hi := 0) hb_w4) (.inl (Nat.zero_le _))
    have B_w4 : Below w.heap.size w w4 := B_w3.trans (hb_w4.mono B_w3.size)
    have hs_w4 : w3.heap.size ≤ w4.heap.size := hb_w4.size
    clear hb_w4 B_w3
    obtain ⟨vcx, vtx, rfl, ⟨ocx, ccx, rfl, _⟩, ⟨otx, ctx, rfl, _⟩⟩ := inx.rd
    obtain ⟨w5, hW_w5⟩ : ∃ W, w4.alloc (.cells #[.int .i64 m.id, .int .i64 m.lim, .bool m.dr, .slice ocx m.c.length ccx, .slice otx m.t.length ctx] 41) = W := ⟨_, rfl⟩
    have bxx : w5.heap[w4.heap.size]? = some (.cells #[.int .i64 m.id, .int .i64 m.lim, .bool m.dr, .slice ocx m.c.length ccx, .slice otx m.t.length ctx] 41 (0, 0)) := by rw [← hW_w5]; exact World.alloc_heap_new w4 _
    have hb_w5 : Below w4.heap.size w4 w5 := by rw [← hW_w5]; exact (Below.refl _ _).alloc (Nat.le_refl _) _
    have hz_w5 : w4.heap.size < w5.heap.size := by rw [← hW_w5]; simp
    replace bxa := (hb_w5.block _ (by omega)).trans bxa
    replace bxc := (hb_w5.block _ (by omega)).trans bxc
    replace bxw := (hb_w5.block _ (by omega)).trans bxw
    replace inw := inw.step (Stp.of (lo := 0) (hi := 0) hb_w5) (.inl (Nat.zero_le _))
    replace inx := inx.step (Stp.of (lo := 0) (hi := 0) hb_w5) (.inl (Nat.zero_le _))
    have B_w5 : Below w.heap.size w w5 := B_w4.trans (hb_w5.mono B_w4.size)
    have hs_w5 : w4.heap.size ≤ w5.heap.size := hb_w5.size
    clear hb_w5 B_w4
    have bxcc0 : w5.cell? ⟨w.heap.size + 1, 0, none⟩ = some (.int .i64 y.a) := block_cell1 bxc 0 _ rfl
    have bxcc1 : w5.cell? ⟨w.heap.size + 1, 1, none⟩ = some (.int .i64 y.b) := block_cell1 bxc 1 _ rfl
    have bxcc2 : w5.cell? ⟨w.heap.size + 1, 2, none⟩ = some (.int .i64 y.f) := block_cell1 bxc 2 _ rfl
    have bxcc3 : w5.cell? ⟨w.heap.size + 1, 3, none⟩ = some (.int .i64 y.s) := block_cell1 bxc 3 _ rfl
    have bxcc4 : w5.cell? ⟨w.heap.size + 1, 4, none⟩ = some (.slice oa y.l.length ca) := block_cell1 bxc 4 _ rfl
    have bxcc5 : w5.cell? ⟨w.heap.size + 1, 5, none⟩ = some (.slice oga y.g.length cga) := block_cell1 bxc 5 _ rfl
    have bxcc6 : w5.cell? ⟨w.heap.size + 1, 6, none⟩ = some (.int .i64 y.pl) := block_cell1 bxc 6 _ rfl
    have bxcc7 : w5.cell? ⟨w.heap.size + 1, 7, none⟩ = some (.int .i64 y.st) := block_cell1 bxc 7 _ rfl
    have Hbxa := hide bxa
    clear bxa
    have Hbxc := hide bxc
    clear bxc
    have Hbxw := hide bxw
    clear bxw
    have Hinw := hide inw
    clear inw
    have Hinx := hide inx
    clear inx
    have Hbxx := hide bxx
    clear bxx
    have HB_ := hide B_w5
    clear B_w5
    go_wp2_with fail
    clear bxcc0 bxcc1 bxcc2 bxcc3 bxcc4 bxcc5 bxcc6 bxcc7
    have bxa := Hbxa.out
    clear Hbxa
    have bxc := Hbxc.out
    clear Hbxc
    have bxw := Hbxw.out
    clear Hbxw
    have inw := Hinw.out
    clear Hinw
    have inx := Hinx.out
    clear Hinx
    have bxx := Hbxx.out
    clear Hbxx
    have B_w5 := HB_.out
    clear HB_
    refine (toCarrier_sh _ y w5 ((hQ.kept B_w5 (Nat.le_refl _)).le B_w5.size) hfy).mono ?_
    rintro e w6 ⟨vy, rfl, iny, hb_w6⟩
    replace bxa := (hb_w6.block _ (by omega)).trans bxa
    replace bxc := (hb_w6.block _ (by omega)).trans bxc
    replace bxw := (hb_w6.block _ (by omega)).trans bxw
    replace inw := inw.step (Stp.of (lo := 0) (hi := 0) hb_w6) (.inl (Nat.zero_le _))
    replace inx := inx.step (Stp.of (lo := 0) (hi := 0) hb_w6) (.inl (Nat.zero_le _))
    replace bxx := (hb_w6.block _ (by omega)).trans bxx
    have B_w6 : Below w.heap.size w w6 := B_w5.trans (hb_w6.mono B_w5.size)
    have hs_w6 : w5.heap.size ≤ w6.heap.size := hb_w6.size
    clear hb_w6 B_w5
    obtain ⟨vly, vsy, rfl, ⟨oy, cy, rfl, _⟩, ⟨ogy, cgy, rfl, _⟩⟩ := iny.rd
    obtain ⟨w7, hW_w7⟩ : ∃ W, w6.alloc (.cells #[.int .i64 y.a, .int .i64 y.b, .int .i64 y.f, .int .i64 y.s, .slice oy y.l.length cy, .slice ogy y.g.length cgy, .int .i64 y.pl, .int .i64 y.st] 50) = W := ⟨_, rfl⟩
    have bxy : w7.heap[w6.heap.size]? = some (.cells #[.int .i64 y.a, .int .i64 y.b, .int .i64 y.f, .int .i64 y.s, .slice oy y.l.length cy, .slice ogy y.g.length cgy, .int .i64 y.pl, .int .i64 y.st] 50 (0, 0)) := by rw [← hW_w7]; exact World.alloc_heap_new w6 _
    have hb_w7 : Below w6.heap.size w6 w7 := by rw [← hW_w7]; exact (Below.refl _ _).alloc (Nat.le_refl _) _
    have hz_w7 : w6.heap.size < w7.heap.size := by rw [← hW_w7]; simp
    replace bxa := (hb_w7.block _ (by omega)).trans bxa
    replace bxc := (hb_w7.block _ (by omega)).trans bxc
    replace bxw := (hb_w7.block _ (by omega)).trans bxw
    replace inw := inw.step (Stp.of (lo := 0) (hi := 0) hb_w7) (.inl (Nat.zero_le _))
    replace inx := inx.step (Stp.of (lo := 0) (hi := 0) hb_w7) (.inl (Nat.zero_le _))
    replace bxx := (hb_w7.block _ (by omega)).trans bxx
    replace iny := iny.step (Stp.of (lo := 0) (hi := 0) hb_w7) (.inl (Nat.zero_le _))
    have B_w7 : Below w.heap.size w w7 := B_w6.trans (hb_w7.mono B_w6.size)
    have hs_w7 : w6.heap.size ≤ w7.heap.size := hb_w7.size
    clear hb_w7 B_w6
    have bxxc0 : w7.cell? ⟨w4.heap.size, 0, none⟩ = some (.int .i64 m.id) := block_cell1 bxx 0 _ rfl
    have bxxc1 : w7.cell? ⟨w4.heap.size, 1, none⟩ = some (.int .i64 m.lim) := block_cell1 bxx 1 _ rfl
    have bxxc2 : w7.cell? ⟨w4.heap.size, 2, none⟩ = some (.bool m.dr) := block_cell1 bxx 2 _ rfl
    have bxxc3 : w7.cell? ⟨w4.heap.size, 3, none⟩ = some (.slice ocx m.c.length ccx) := block_cell1 bxx 3 _ rfl
    have bxxc4 : w7.cell? ⟨w4.heap.size, 4, none⟩ = some (.slice otx m.t.length ctx) := block_cell1 bxx 4 _ rfl
    have bxyc0 : w7.cell? ⟨w6.heap.size, 0, none⟩ = some (.int .i64 y.a) := block_cell1 bxy 0 _ rfl
    have bxyc1 : w7.cell? ⟨w6.heap.size, 1, none⟩ = some (.int .i64 y.b) := block_cell1 bxy 1 _ rfl
    have bxyc2 : w7.cell? ⟨w6.heap.size, 2, none⟩ = some (.int .i64 y.f) := block_cell1 bxy 2 _ rfl
    have bxyc3 : w7.cell? ⟨w6.heap.size, 3, none⟩ = some (.int .i64 y.s) := block_cell1 bxy 3 _ rfl
    have bxyc4 : w7.cell? ⟨w6.heap.size, 4, none⟩ = some (.slice oy y.l.length cy) := block_cell1 bxy 4 _ rfl
    have bxyc5 : w7.cell? ⟨w6.heap.size, 5, none⟩ = some (.slice ogy y.g.length cgy) := block_cell1 bxy 5 _ rfl
    have bxyc6 : w7.cell? ⟨w6.heap.size, 6, none⟩ = some (.int .i64 y.pl) := block_cell1 bxy 6 _ rfl
    have bxyc7 : w7.cell? ⟨w6.heap.size, 7, none⟩ = some (.int .i64 y.st) := block_cell1 bxy 7 _ rfl
    have Hbxa := hide bxa
    clear bxa
    have Hbxc := hide bxc
    clear bxc
    have Hbxw := hide bxw
    clear bxw
    have Hinw := hide inw
    clear inw
    have Hinx := hide inx
    clear inx
    have Hbxx := hide bxx
    clear bxx
    have Hiny := hide iny
    clear iny
    have Hbxy := hide bxy
    clear bxy
    have HB_ := hide B_w7
    clear B_w7
    go_wp2_with fail
    clear bxxc0 bxxc1 bxxc2 bxxc3 bxxc4
    clear bxyc0 bxyc1 bxyc2 bxyc3 bxyc4 bxyc5 bxyc6 bxyc7
    have bxa := Hbxa.out
    clear Hbxa
    have bxc := Hbxc.out
    clear Hbxc
    have bxw := Hbxw.out
    clear Hbxw
    have inw := Hinw.out
    clear Hinw
    have inx := Hinx.out
    clear Hinx
    have bxx := Hbxx.out
    clear Hbxx
    have iny := Hiny.out
    clear Hiny
    have bxy := Hbxy.out
    clear Hbxy
    have B_w7 := HB_.out
    clear HB_
    refine (HI.out _ _ w7 (inx.rd.le (by omega)) (iny.rd.le (by omega)) hfy).mono ?_
    rintro e w8 ⟨vg, rfl, ing, hb_w8⟩
    replace bxa := (hb_w8.block _ (by omega)).trans bxa
    replace bxc := (hb_w8.block _ (by omega)).trans bxc
    replace bxw := (hb_w8.block _ (by omega)).trans bxw
    replace inw := inw.step (Stp.of (lo := 0) (hi := 0) hb_w8) (.inl (Nat.zero_le _))
    replace inx := inx.step (Stp.of (lo := 0) (hi := 0) hb_w8) (.inl (Nat.zero_le _))
    replace bxx := (hb_w8.block _ (by omega)).trans bxx
    replace iny := iny.step (Stp.of (lo := 0) (hi := 0) hb_w8) (.inl (Nat.zero_le _))
    replace bxy := (hb_w8.block _ (by omega)).trans bxy
    have B_w8 : Below w.heap.size w w8 := B_w7.trans (hb_w8.mono B_w7.size)
    have hs_w8 : w7.heap.size ≤ w8.heap.size := hb_w8.size
    clear hb_w8 B_w7
    obtain ⟨vcg, vtg, rfl, ⟨ocg, ccg, rfl, _⟩, ⟨otg, ctg, rfl, _⟩⟩ := ing.rd
    obtain ⟨w9, hW_w9⟩ : ∃ W, w8.alloc (.cells #[.int .i64 mr.id, .int .i64 mr.lim, .bool mr.dr, .slice ocg mr.c.length ccg, .slice otg mr.t.length ctg] 41) = W := ⟨_, rfl⟩
    have bxg : w9.heap[w8.heap.size]? = some (.cells #[.int .i64 mr.id, .int .i64 mr.lim, .bool mr.dr, .slice ocg mr.c.length ccg, .slice otg mr.t.length ctg] 41 (0, 0)) := by rw [← hW_w9]; exact World.alloc_heap_new w8 _
    have hb_w9 : Below w8.heap.size w8 w9 := by rw [← hW_w9]; exact (Below.refl _ _).alloc (Nat.le_refl _) _
    have hz_w9 : w8.heap.size < w9.heap.size := by rw [← hW_w9]; simp
    replace bxa := (hb_w9.block _ (by omega)).trans bxa
    replace bxc := (hb_w9.block _ (by omega)).trans bxc
    replace bxw := (hb_w9.block _ (by omega)).trans bxw
    replace inw := inw.step (Stp.of (lo := 0) (hi := 0) hb_w9) (.inl (Nat.zero_le _))
    replace inx := inx.step (Stp.of (lo := 0) (hi := 0) hb_w9) (.inl (Nat.zero_le _))
    replace bxx := (hb_w9.block _ (by omega)).trans bxx
    replace iny := iny.step (Stp.of (lo := 0) (hi := 0) hb_w9) (.inl (Nat.zero_le _))
    replace bxy := (hb_w9.block _ (by omega)).trans bxy
    replace ing := ing.step (Stp.of (lo := 0) (hi := 0) hb_w9) (.inl (Nat.zero_le _))
    have B_w9 : Below w.heap.size w w9 := B_w8.trans (hb_w9.mono B_w8.size)
    have hs_w9 : w8.heap.size ≤ w9.heap.size := hb_w9.size
    clear hb_w9 B_w8
    have bxgc0 : w9.cell? ⟨w8.heap.size, 0, none⟩ = some (.int .i64 mr.id) := block_cell1 bxg 0 _ rfl
    have bxgc1 : w9.cell? ⟨w8.heap.size, 1, none⟩ = some (.int .i64 mr.lim) := block_cell1 bxg 1 _ rfl
    have bxgc2 : w9.cell? ⟨w8.heap.size, 2, none⟩ = some (.bool mr.dr) := block_cell1 bxg 2 _ rfl
    have bxgc3 : w9.cell? ⟨w8.heap.size, 3, none⟩ = some (.slice ocg mr.c.length ccg) := block_cell1 bxg 3 _ rfl
    have bxgc4 : w9.cell? ⟨w8.heap.size, 4, none⟩ = some (.slice otg mr.t.length ctg) := block_cell1 bxg 4 _ rfl
    have bxwc0 : w9.cell? ⟨Bw, 0, none⟩ = some (.int .i64 mr.id) := block_cell1 bxw 0 _ rfl
    have bxwc1 : w9.cell? ⟨Bw, 1, none⟩ = some (.int .i64 mr.lim) := block_cell1 bxw 1 _ rfl
    have bxwc2 : w9.cell? ⟨Bw, 2, none⟩ = some (.bool mr.dr) := block_cell1 bxw 2 _ rfl
    have bxwc3 : w9.cell? ⟨Bw, 3, none⟩ = some (.slice ocw mr.c.length ccw) := block_cell1 bxw 3 _ rfl
    have bxwc4 : w9.cell? ⟨Bw, 4, none⟩ = some (.slice otw mr.t.length ctw) := block_cell1 bxw 4 _ rfl
    have Hbxa := hide bxa
    clear bxa
    have Hbxc := hide bxc
    clear bxc
    have Hbxw := hide bxw
    clear bxw
    have Hinw := hide inw
    clear inw
    have Hinx := hide inx
    clear inx
    have Hbxx := hide bxx
    clear bxx
    have Hiny := hide iny
    clear iny
    have Hbxy := hide bxy
    clear bxy
    have Hing := hide ing
    clear ing
    have Hbxg := hide bxg
    clear bxg
    have HB_ := hide B_w9
    clear B_w9
    go_wp2_with fail
    clear bxgc0 bxgc1 bxgc2 bxgc3 bxgc4
    clear bxwc0 bxwc1 bxwc2 bxwc3 bxwc4
    have bxa := Hbxa.out
    clear Hbxa
    have bxc := Hbxc.out
    clear Hbxc
    have bxw := Hbxw.out
    clear Hbxw
    have inw := Hinw.out
    clear Hinw
    have inx := Hinx.out
    clear Hinx
    have bxx := Hbxx.out
    clear Hbxx
    have iny := Hiny.out
    clear Hiny
    have bxy := Hbxy.out
    clear Hbxy
    have ing := Hing.out
    clear Hing
    have bxg := Hbxg.out
    clear Hbxg
    have B_w9 := HB_.out
    clear HB_
    refine (eqAgent_sh _ _ mr w9 (ing.rd.le (by omega)) (inw.rd.le (by omega)) (by omega)).mono ?_
    rintro e w10 ⟨rfl, hb_w10⟩
    replace bxa := (hb_w10.block _ (by omega)).trans bxa
    replace bxc := (hb_w10.block _ (by omega)).trans bxc
    replace bxw := (hb_w10.block _ (by omega)).trans bxw
    replace inw := inw.step (Stp.of (lo := 0) (hi := 0) hb_w10) (.inl (Nat.zero_le _))
    replace inx := inx.step (Stp.of (lo := 0) (hi := 0) hb_w10) (.inl (Nat.zero_le _))
    replace bxx := (hb_w10.block _ (by omega)).trans bxx
    replace iny := iny.step (Stp.of (lo := 0) (hi := 0) hb_w10) (.inl (Nat.zero_le _))
    replace bxy := (hb_w10.block _ (by omega)).trans bxy
    replace ing := ing.step (Stp.of (lo := 0) (hi := 0) hb_w10) (.inl (Nat.zero_le _))
    replace bxg := (hb_w10.block _ (by omega)).trans bxg
    have B_w10 : Below w.heap.size w w10 := B_w9.trans (hb_w10.mono B_w9.size)
    have hs_w10 : w9.heap.size ≤ w10.heap.size := hb_w10.size
    clear hb_w10 B_w9
    have hfy1 := hfy.1
    have bxac0 : w10.cell? ⟨w.heap.size, 0, none⟩ = some (.int .i64 m.id) := block_cell1 bxa 0 _ rfl
    have bxac1 : w10.cell? ⟨w.heap.size, 1, none⟩ = some (.int .i64 m.lim) := block_cell1 bxa 1 _ rfl
    have bxac2 : w10.cell? ⟨w.heap.size, 2, none⟩ = some (.bool m.dr) := block_cell1 bxa 2 _ rfl
    have bxac3 : w10.cell? ⟨w.heap.size, 3, none⟩ = some (.slice oca m.c.length cca) := block_cell1 bxa 3 _ rfl
    have bxac4 : w10.cell? ⟨w.heap.size, 4, none⟩ = some (.slice ota m.t.length cta) := block_cell1 bxa 4 _ rfl
    have bxxc0 : w10.cell? ⟨w4.heap.size, 0, none⟩ = some (.int .i64 m.id) := block_cell1 bxx 0 _ rfl
    have bxxc1 : w10.cell? ⟨w4.heap.size, 1, none⟩ = some (.int .i64 m.lim) := block_cell1 bxx 1 _ rfl
    have bxxc2 : w10.cell? ⟨w4.heap.size, 2, none⟩ = some (.bool m.dr) := block_cell1 bxx 2 _ rfl
    have bxxc3 : w10.cell? ⟨w4.heap.size, 3, none⟩ = some (.slice ocx m.c.length ccx) := block_cell1 bxx 3 _ rfl
    have bxxc4 : w10.cell? ⟨w4.heap.size, 4, none⟩ = some (.slice otx m.t.length ctx) := block_cell1 bxx 4 _ rfl
    have Hbxa := hide bxa
    clear bxa
    have Hbxc := hide bxc
    clear bxc
    have Hbxw := hide bxw
    clear bxw
    have Hinw := hide inw
    clear inw
    have Hinx := hide inx
    clear inx
    have Hbxx := hide bxx
    clear bxx
    have Hiny := hide iny
    clear iny
    have Hbxy := hide bxy
    clear bxy
    have Hing := hide ing
    clear ing
    have Hbxg := hide bxg
    clear bxg
    have HB_ := hide B_w10
    clear B_w10
    go_wp2
    have hk_bxa : w.heap.size < w10.heap.size := by omega
    have hk_bxx : w4.heap.size < w10.heap.size := by omega
    go_region_held3 (fun w' => w'.cell? ⟨w.heap.size, 0, none⟩ = some (.int .i64 m.id) ∧ w'.cell? ⟨w.heap.size, 1, none⟩ = some (.int .i64 m.lim) ∧ w'.cell? ⟨w.heap.size, 2, none⟩ = some (.bool m.dr) ∧ w'.cell? ⟨w.heap.size, 3, none⟩ = some (.slice oca m.c.length cca) ∧ w'.cell? ⟨w.heap.size, 4, none⟩ = some (.slice ota m.t.length cta) ∧ w'.cell? ⟨w4.heap.size, 0, none⟩ = some (.int .i64 m.id) ∧ w'.cell? ⟨w4.heap.size, 1, none⟩ = some (.int .i64 m.lim) ∧ w'.cell? ⟨w4.heap.size, 2, none⟩ = some (.bool m.dr) ∧ w'.cell? ⟨w4.heap.size, 3, none⟩ = some (.slice ocx m.c.length ccx) ∧ w'.cell? ⟨w4.heap.size, 4, none⟩ = some (.slice otx m.t.length ctx)) (first | exact ⟨k1_0, k1_1, k1_2, k1_3, k1_4, k1_5, k1_6, k1_7, k1_8, k1_9⟩ | exact ⟨k0_0, k0_1, k0_2, k0_3, k0_4, k0_5, k0_6, k0_7, k0_8, k0_9⟩ | exact ⟨bxac0, bxac1, bxac2, bxac3, bxac4, bxxc0, bxxc1, bxxc2, bxxc3, bxxc4⟩) (first | (go_at_call 7; refine (toAgent_sh _ m w10.drew ((hR.kept (Below.drew HB_.out) (Nat.le_refl _)).le HB_.out.size) hf).mono ?_; rintro e w11 ⟨va, rfl, ina, hb⟩; have hbx : Below w10.heap.size w10 w11 := (Below.drew (Below.refl _ _)).trans hb; have rdx := Hinx.out.rd.kept hbx (by omega); have szx := hbx.size; have hx0 : Below w10.heap.size w10 w11 := (Below.drew (Below.refl _ _)).trans hb; clear hb; have k0_0 := (hx0.cell (p := ⟨w.heap.size, 0, none⟩) hk_bxa).trans bxac0; have k0_1 := (hx0.cell (p := ⟨w.heap.size, 1, none⟩) hk_bxa).trans bxac1; have k0_2 := (hx0.cell (p := ⟨w.heap.size, 2, none⟩) hk_bxa).trans bxac2; have k0_3 := (hx0.cell (p := ⟨w.heap.size, 3, none⟩) hk_bxa).trans bxac3; have k0_4 := (hx0.cell (p := ⟨w.heap.size, 4, none⟩) hk_bxa).trans bxac4; have k0_5 := (hx0.cell (p := ⟨w4.heap.size, 0, none⟩) hk_bxx).trans bxxc0; have k0_6 := (hx0.cell (p := ⟨w4.heap.size, 1, none⟩) hk_bxx).trans bxxc1; have k0_7 := (hx0.cell (p := ⟨w4.heap.size, 2, none⟩) hk_bxx).trans bxxc2; have k0_8 := (hx0.cell (p := ⟨w4.heap.size, 3, none⟩) hk_bxx).trans bxxc3; have k0_9 := (hx0.cell (p := ⟨w4.heap.size, 4, none⟩) hk_bxx).trans bxxc4) | (go_at_call 10; refine (eqAgent_sh _ _ m w11 (rdx.le (by omega)) (ina.rd.le (Nat.le_refl _)) (by omega)).mono ?_; rintro e w12 ⟨rfl, hb⟩; have hx1 : Below w10.heap.size w10 w12 := hx0.trans (hb.mono hx0.size); clear hb; have k1_0 := (hx1.cell (p := ⟨w.heap.size, 0, none⟩) hk_bxa).trans bxac0; have k1_1 := (hx1.cell (p := ⟨w.heap.size, 1, none⟩) hk_bxa).trans bxac1; have k1_2 := (hx1.cell (p := ⟨w.heap.size, 2, none⟩) hk_bxa).trans bxac2; have k1_3 := (hx1.cell (p := ⟨w.heap.size, 3, none⟩) hk_bxa).trans bxac3; have k1_4 := (hx1.cell (p := ⟨w.heap.size, 4, none⟩) hk_bxa).trans bxac4; have k1_5 := (hx1.cell (p := ⟨w4.heap.size, 0, none⟩) hk_bxx).trans bxxc0; have k1_6 := (hx1.cell (p := ⟨w4.heap.size, 1, none⟩) hk_bxx).trans bxxc1; have k1_7 := (hx1.cell (p := ⟨w4.heap.size, 2, none⟩) hk_bxx).trans bxxc2; have k1_8 := (hx1.cell (p := ⟨w4.heap.size, 3, none⟩) hk_bxx).trans bxxc3; have k1_9 := (hx1.cell (p := ⟨w4.heap.size, 4, none⟩) hk_bxx).trans bxxc4))
    clear k0_0 k0_1 k0_2 k0_3 k0_4 k0_5 k0_6 k0_7 k0_8 k0_9
    clear k1_0 k1_1 k1_2 k1_3 k1_4 k1_5 k1_6 k1_7 k1_8 k1_9
    clear hk_bxa hk_bxx hx0
    clear bxac0 bxac1 bxac2 bxac3 bxac4
    clear bxxc0 bxxc1 bxxc2 bxxc3 bxxc4
    have bxa := Hbxa.out
    clear Hbxa
    have bxc := Hbxc.out
    clear Hbxc
    have bxw := Hbxw.out
    clear Hbxw
    have inw := Hinw.out
    clear Hinw
    have inx := Hinx.out
    clear Hinx
    have bxx := Hbxx.out
    clear Hbxx
    have iny := Hiny.out
    clear Hiny
    have bxy := Hbxy.out
    clear Hbxy
    have ing := Hing.out
    clear Hing
    have bxg := Hbxg.out
    clear Hbxg
    have B_w10 := HB_.out
    clear HB_
    replace bxa := (hx1.block _ (by omega)).trans bxa
    replace bxc := (hx1.block _ (by omega)).trans bxc
    replace bxw := (hx1.block _ (by omega)).trans bxw
    replace inw := inw.step (Stp.of (lo := 0) (hi := 0) hx1) (.inl (Nat.zero_le _))
    replace inx := inx.step (Stp.of (lo := 0) (hi := 0) hx1) (.inl (Nat.zero_le _))
    replace bxx := (hx1.block _ (by omega)).trans bxx
    replace iny := iny.step (Stp.of (lo := 0) (hi := 0) hx1) (.inl (Nat.zero_le _))
    replace bxy := (hx1.block _ (by omega)).trans bxy
    replace ing := ing.step (Stp.of (lo := 0) (hi := 0) hx1) (.inl (Nat.zero_le _))
    replace bxg := (hx1.block _ (by omega)).trans bxg
    have B_w12 : Below w.heap.size w w12 := B_w10.trans (hx1.mono B_w10.size)
    have hs_w12 : w10.heap.size ≤ w12.heap.size := hx1.size
    clear hx1 B_w10
    clear rdx szx ina hbx
    have bxcc0 : w12.cell? ⟨w.heap.size + 1, 0, none⟩ = some (.int .i64 y.a) := block_cell1 bxc 0 _ rfl
    have bxcc1 : w12.cell? ⟨w.heap.size + 1, 1, none⟩ = some (.int .i64 y.b) := block_cell1 bxc 1 _ rfl
    have bxcc2 : w12.cell? ⟨w.heap.size + 1, 2, none⟩ = some (.int .i64 y.f) := block_cell1 bxc 2 _ rfl
    have bxcc3 : w12.cell? ⟨w.heap.size + 1, 3, none⟩ = some (.int .i64 y.s) := block_cell1 bxc 3 _ rfl
    have bxcc4 : w12.cell? ⟨w.heap.size + 1, 4, none⟩ = some (.slice oa y.l.length ca) := block_cell1 bxc 4 _ rfl
    have bxcc5 : w12.cell? ⟨w.heap.size + 1, 5, none⟩ = some (.slice oga y.g.length cga) := block_cell1 bxc 5 _ rfl
    have bxcc6 : w12.cell? ⟨w.heap.size + 1, 6, none⟩ = some (.int .i64 y.pl) := block_cell1 bxc 6 _ rfl
    have bxcc7 : w12.cell? ⟨w.heap.size + 1, 7, none⟩ = some (.int .i64 y.st) := block_cell1 bxc 7 _ rfl
    have bxyc0 : w12.cell? ⟨w6.heap.size, 0, none⟩ = some (.int .i64 y.a) := block_cell1 bxy 0 _ rfl
    have bxyc1 : w12.cell? ⟨w6.heap.size, 1, none⟩ = some (.int .i64 y.b) := block_cell1 bxy 1 _ rfl
    have bxyc2 : w12.cell? ⟨w6.heap.size, 2, none⟩ = some (.int .i64 y.f) := block_cell1 bxy 2 _ rfl
    have bxyc3 : w12.cell? ⟨w6.heap.size, 3, none⟩ = some (.int .i64 y.s) := block_cell1 bxy 3 _ rfl
    have bxyc4 : w12.cell? ⟨w6.heap.size, 4, none⟩ = some (.slice oy y.l.length cy) := block_cell1 bxy 4 _ rfl
    have bxyc5 : w12.cell? ⟨w6.heap.size, 5, none⟩ = some (.slice ogy y.g.length cgy) := block_cell1 bxy 5 _ rfl
    have bxyc6 : w12.cell? ⟨w6.heap.size, 6, none⟩ = some (.int .i64 y.pl) := block_cell1 bxy 6 _ rfl
    have bxyc7 : w12.cell? ⟨w6.heap.size, 7, none⟩ = some (.int .i64 y.st) := block_cell1 bxy 7 _ rfl
    have Hbxa := hide bxa
    clear bxa
    have Hbxc := hide bxc
    clear bxc
    have Hbxw := hide bxw
    clear bxw
    have Hinw := hide inw
    clear inw
    have Hinx := hide inx
    clear inx
    have Hbxx := hide bxx
    clear bxx
    have Hiny := hide iny
    clear iny
    have Hbxy := hide bxy
    clear bxy
    have Hing := hide ing
    clear ing
    have Hbxg := hide bxg
    clear bxg
    have HB_ := hide B_w12
    clear B_w12
    go_wp2
    have hk_bxc : w.heap.size + 1 < w12.heap.size := by omega
    have hk_bxy : w6.heap.size < w12.heap.size := by omega
    go_region_held3 (fun w' => w'.cell? ⟨w.heap.size + 1, 0, none⟩ = some (.int .i64 y.a) ∧ w'.cell? ⟨w.heap.size + 1, 1, none⟩ = some (.int .i64 y.b) ∧ w'.cell? ⟨w.heap.size + 1, 2, none⟩ = some (.int .i64 y.f) ∧ w'.cell? ⟨w.heap.size + 1, 3, none⟩ = some (.int .i64 y.s) ∧ w'.cell? ⟨w.heap.size + 1, 4, none⟩ = some (.slice oa y.l.length ca) ∧ w'.cell? ⟨w.heap.size + 1, 5, none⟩ = some (.slice oga y.g.length cga) ∧ w'.cell? ⟨w.heap.size + 1, 6, none⟩ = some (.int .i64 y.pl) ∧ w'.cell? ⟨w.heap.size + 1, 7, none⟩ = some (.int .i64 y.st) ∧ w'.cell? ⟨w6.heap.size, 0, none⟩ = some (.int .i64 y.a) ∧ w'.cell? ⟨w6.heap.size, 1, none⟩ = some (.int .i64 y.b) ∧ w'.cell? ⟨w6.heap.size, 2, none⟩ = some (.int .i64 y.f) ∧ w'.cell? ⟨w6.heap.size, 3, none⟩ = some (.int .i64 y.s) ∧ w'.cell? ⟨w6.heap.size, 4, none⟩ = some (.slice oy y.l.length cy) ∧ w'.cell? ⟨w6.heap.size, 5, none⟩ = some (.slice ogy y.g.length cgy) ∧ w'.cell? ⟨w6.heap.size, 6, none⟩ = some (.int .i64 y.pl) ∧ w'.cell? ⟨w6.heap.size, 7, none⟩ = some (.int .i64 y.st)) (first | exact ⟨k1_0, k1_1, k1_2, k1_3, k1_4, k1_5, k1_6, k1_7, k1_8, k1_9, k1_10, k1_11, k1_12, k1_13, k1_14, k1_15⟩ | exact ⟨k0_0, k0_1, k0_2, k0_3, k0_4, k0_5, k0_6, k0_7, k0_8, k0_9, k0_10, k0_11, k0_12, k0_13, k0_14, k0_15⟩ | exact ⟨bxcc0, bxcc1, bxcc2, bxcc3, bxcc4, bxcc5, bxcc6, bxcc7, bxyc0, bxyc1, bxyc2, bxyc3, bxyc4, bxyc5, bxyc6, bxyc7⟩) (first | (go_at_call 8; refine (toCarrier_sh _ y w12.drew ((hQ.kept (Below.drew HB_.out) (Nat.le_refl _)).le HB_.out.size) hfy).mono ?_; rintro e w13 ⟨va, rfl, ina, hb⟩; have hbx : Below w12.heap.size w12 w13 := (Below.drew (Below.refl _ _)).trans hb; have rdx := Hiny.out.rd.kept hbx (by omega); have szx := hbx.size; have hx0 : Below w12.heap.size w12 w13 := (Below.drew (Below.refl _ _)).trans hb; clear hb; have k0_0 := (hx0.cell (p := ⟨w.heap.size + 1, 0, none⟩) hk_bxc).trans bxcc0; have k0_1 := (hx0.cell (p := ⟨w.heap.size + 1, 1, none⟩) hk_bxc).trans bxcc1; have k0_2 := (hx0.cell (p := ⟨w.heap.size + 1, 2, none⟩) hk_bxc).trans bxcc2; have k0_3 := (hx0.cell (p := ⟨w.heap.size + 1, 3, none⟩) hk_bxc).trans bxcc3; have k0_4 := (hx0.cell (p := ⟨w.heap.size + 1, 4, none⟩) hk_bxc).trans bxcc4; have k0_5 := (hx0.cell (p := ⟨w.heap.size + 1, 5, none⟩) hk_bxc).trans bxcc5; have k0_6 := (hx0.cell (p := ⟨w.heap.size + 1, 6, none⟩) hk_bxc).trans bxcc6; have k0_7 := (hx0.cell (p := ⟨w.heap.size + 1, 7, none⟩) hk_bxc).trans bxcc7; have k0_8 := (hx0.cell (p := ⟨w6.heap.size, 0, none⟩) hk_bxy).trans bxyc0; have k0_9 := (hx0.cell (p := ⟨w6.heap.size, 1, none⟩) hk_bxy).trans bxyc1; have k0_10 := (hx0.cell (p := ⟨w6.heap.size, 2, none⟩) hk_bxy).trans bxyc2; have k0_11 := (hx0.cell (p := ⟨w6.heap.size, 3, none⟩) hk_bxy).trans bxyc3; have k0_12 := (hx0.cell (p := ⟨w6.heap.size, 4, none⟩) hk_bxy).trans bxyc4; have k0_13 := (hx0.cell (p := ⟨w6.heap.size, 5, none⟩) hk_bxy).trans bxyc5; have k0_14 := (hx0.cell (p := ⟨w6.heap.size, 6, none⟩) hk_bxy).trans bxyc6; have k0_15 := (hx0.cell (p := ⟨w6.heap.size, 7, none⟩) hk_bxy).trans bxyc7) | (go_at_call 11; refine (eqCarrier_sh _ _ y w13 (rdx.le (by omega)) (ina.rd.le (Nat.le_refl _)) (by omega) (by omega)).mono ?_; rintro e w14 ⟨rfl, hb⟩; have hx1 : Below w12.heap.size w12 w14 := hx0.trans (hb.mono hx0.size); clear hb; have k1_0 := (hx1.cell (p := ⟨w.heap.size + 1, 0, none⟩) hk_bxc).trans bxcc0; have k1_1 := (hx1.cell (p := ⟨w.heap.size + 1, 1, none⟩) hk_bxc).trans bxcc1; have k1_2 := (hx1.cell (p := ⟨w.heap.size + 1, 2, none⟩) hk_bxc).trans bxcc2; have k1_3 := (hx1.cell (p := ⟨w.heap.size + 1, 3, none⟩) hk_bxc).trans bxcc3; have k1_4 := (hx1.cell (p := ⟨w.heap.size + 1, 4, none⟩) hk_bxc).trans bxcc4; have k1_5 := (hx1.cell (p := ⟨w.heap.size + 1, 5, none⟩) hk_bxc).trans bxcc5; have k1_6 := (hx1.cell (p := ⟨w.heap.size + 1, 6, none⟩) hk_bxc).trans bxcc6; have k1_7 := (hx1.cell (p := ⟨w.heap.size + 1, 7, none⟩) hk_bxc).trans bxcc7; have k1_8 := (hx1.cell (p := ⟨w6.heap.size, 0, none⟩) hk_bxy).trans bxyc0; have k1_9 := (hx1.cell (p := ⟨w6.heap.size, 1, none⟩) hk_bxy).trans bxyc1; have k1_10 := (hx1.cell (p := ⟨w6.heap.size, 2, none⟩) hk_bxy).trans bxyc2; have k1_11 := (hx1.cell (p := ⟨w6.heap.size, 3, none⟩) hk_bxy).trans bxyc3; have k1_12 := (hx1.cell (p := ⟨w6.heap.size, 4, none⟩) hk_bxy).trans bxyc4; have k1_13 := (hx1.cell (p := ⟨w6.heap.size, 5, none⟩) hk_bxy).trans bxyc5; have k1_14 := (hx1.cell (p := ⟨w6.heap.size, 6, none⟩) hk_bxy).trans bxyc6; have k1_15 := (hx1.cell (p := ⟨w6.heap.size, 7, none⟩) hk_bxy).trans bxyc7))
    clear k0_0 k0_1 k0_2 k0_3 k0_4 k0_5 k0_6 k0_7 k0_8 k0_9 k0_10 k0_11 k0_12 k0_13 k0_14 k0_15
    clear k1_0 k1_1 k1_2 k1_3 k1_4 k1_5 k1_6 k1_7 k1_8 k1_9 k1_10 k1_11 k1_12 k1_13 k1_14 k1_15
    clear hk_bxc hk_bxy hx0
    clear bxcc0 bxcc1 bxcc2 bxcc3 bxcc4 bxcc5 bxcc6 bxcc7
    clear bxyc0 bxyc1 bxyc2 bxyc3 bxyc4 bxyc5 bxyc6 bxyc7
    have bxa := Hbxa.out
    clear Hbxa
    have bxc := Hbxc.out
    clear Hbxc
    have bxw := Hbxw.out
    clear Hbxw
    have inw := Hinw.out
    clear Hinw
    have inx := Hinx.out
    clear Hinx
    have bxx := Hbxx.out
    clear Hbxx
    have iny := Hiny.out
    clear Hiny
    have bxy := Hbxy.out
    clear Hbxy
    have ing := Hing.out
    clear Hing
    have bxg := Hbxg.out
    clear Hbxg
    have B_w12 := HB_.out
    clear HB_
    replace bxa := (hx1.block _ (by omega)).trans bxa
    replace bxc := (hx1.block _ (by omega)).trans bxc
    replace bxw := (hx1.block _ (by omega)).trans bxw
    replace inw := inw.step (Stp.of (lo := 0) (hi := 0) hx1) (.inl (Nat.zero_le _))
    replace inx := inx.step (Stp.of (lo := 0) (hi := 0) hx1) (.inl (Nat.zero_le _))
    replace bxx := (hx1.block _ (by omega)).trans bxx
    replace iny := iny.step (Stp.of (lo := 0) (hi := 0) hx1) (.inl (Nat.zero_le _))
    replace bxy := (hx1.block _ (by omega)).trans bxy
    replace ing := ing.step (Stp.of (lo := 0) (hi := 0) hx1) (.inl (Nat.zero_le _))
    replace bxg := (hx1.block _ (by omega)).trans bxg
    have B_w14 : Below w.heap.size w w14 := B_w12.trans (hx1.mono B_w12.size)
    have hs_w14 : w12.heap.size ≤ w14.heap.size := hx1.size
    clear hx1 B_w12
    clear rdx szx ina hbx
    have bxxc0 : w14.cell? ⟨w4.heap.size, 0, none⟩ = some (.int .i64 m.id) := block_cell1 bxx 0 _ rfl
    have bxxc1 : w14.cell? ⟨w4.heap.size, 1, none⟩ = some (.int .i64 m.lim) := block_cell1 bxx 1 _ rfl
    have bxxc2 : w14.cell? ⟨w4.heap.size, 2, none⟩ = some (.bool m.dr) := block_cell1 bxx 2 _ rfl
    have bxxc3 : w14.cell? ⟨w4.heap.size, 3, none⟩ = some (.slice ocx m.c.length ccx) := block_cell1 bxx 3 _ rfl
    have bxxc4 : w14.cell? ⟨w4.heap.size, 4, none⟩ = some (.slice otx m.t.length ctx) := block_cell1 bxx 4 _ rfl
    have Hbxa := hide bxa
    clear bxa
    have Hbxc := hide bxc
    clear bxc
    have Hbxw := hide bxw
    clear bxw
    have Hinw := hide inw
    clear inw
    have Hinx := hide inx
    clear inx
    have Hbxx := hide bxx
    clear bxx
    have Hiny := hide iny
    clear iny
    have Hbxy := hide bxy
    clear bxy
    have Hing := hide ing
    clear ing
    have Hbxg := hide bxg
    clear bxg
    have HB_ := hide B_w14
    clear B_w14
    go_wp2_with fail
    clear bxxc0 bxxc1 bxxc2 bxxc3 bxxc4
    have bxa := Hbxa.out
    clear Hbxa
    have bxc := Hbxc.out
    clear Hbxc
    have bxw := Hbxw.out
    clear Hbxw
    have inw := Hinw.out
    clear Hinw
    have inx := Hinx.out
    clear Hinx
    have bxx := Hbxx.out
    clear Hbxx
    have iny := Hiny.out
    clear Hiny
    have bxy := Hbxy.out
    clear Hbxy
    have ing := Hing.out
    clear Hing
    have bxg := Hbxg.out
    clear Hbxg
    have B_w14 := HB_.out
    clear HB_
    refine (markAgent_sh w3.heap.size w4.heap.size _ m (1) w14 inx (by omega) (by omega) (by omega)).mono ?_
    rintro e w15 ⟨rfl, inx', sp_w15⟩
    replace bxa := sp_w15.box bxa (by omega)
    replace bxc := sp_w15.box bxc (by omega)
    replace bxw := sp_w15.box bxw (by omega)
    replace inw := inw.step sp_w15 (by omega)
    replace bxx := sp_w15.box bxx (by omega)
    replace iny := iny.step sp_w15 (by omega)
    replace bxy := sp_w15.box bxy (by omega)
    replace ing := ing.step sp_w15 (by omega)
    replace bxg := sp_w15.box bxg (by omega)
    have B_w15 : Below w.heap.size w w15 := B_w14.trans (sp_w15.below (by omega) (by omega))
    have hs_w15 : w14.heap.size ≤ w15.heap.size := sp_w15.size
    clear sp_w15 B_w14
    clear inx
    have inx := inx'
    clear inx'
    clear inx
    clear bxx
    have bxyc0 : w15.cell? ⟨w6.heap.size, 0, none⟩ = some (.int .i64 y.a) := block_cell1 bxy 0 _ rfl
    have bxyc1 : w15.cell? ⟨w6.heap.size, 1, none⟩ = some (.int .i64 y.b) := block_cell1 bxy 1 _ rfl
    have bxyc2 : w15.cell? ⟨w6.heap.size, 2, none⟩ = some (.int .i64 y.f) := block_cell1 bxy 2 _ rfl
    have bxyc3 : w15.cell? ⟨w6.heap.size, 3, none⟩ = some (.int .i64 y.s) := block_cell1 bxy 3 _ rfl
    have bxyc4 : w15.cell? ⟨w6.heap.size, 4, none⟩ = some (.slice oy y.l.length cy) := block_cell1 bxy 4 _ rfl
    have bxyc5 : w15.cell? ⟨w6.heap.size, 5, none⟩ = some (.slice ogy y.g.length cgy) := block_cell1 bxy 5 _ rfl
    have bxyc6 : w15.cell? ⟨w6.heap.size, 6, none⟩ = some (.int .i64 y.pl) := block_cell1 bxy 6 _ rfl
    have bxyc7 : w15.cell? ⟨w6.heap.size, 7, none⟩ = some (.int .i64 y.st) := block_cell1 bxy 7 _ rfl
    have Hbxa := hide bxa
    clear bxa
    have Hbxc := hide bxc
    clear bxc
    have Hbxw := hide bxw
    clear bxw
    have Hinw := hide inw
    clear inw
    have Hiny := hide iny
    clear iny
    have Hbxy := hide bxy
    clear bxy
    have Hing := hide ing
    clear ing
    have Hbxg := hide bxg
    clear bxg
    have HB_ := hide B_w15
    clear B_w15
    go_wp2_with fail
    clear bxyc0 bxyc1 bxyc2 bxyc3 bxyc4 bxyc5 bxyc6 bxyc7
    have bxa := Hbxa.out
    clear Hbxa
    have bxc := Hbxc.out
    clear Hbxc
    have bxw := Hbxw.out
    clear Hbxw
    have inw := Hinw.out
    clear Hinw
    have iny := Hiny.out
    clear Hiny
    have bxy := Hbxy.out
    clear Hbxy
    have ing := Hing.out
    clear Hing
    have bxg := Hbxg.out
    clear Hbxg
    have B_w15 := HB_.out
    clear HB_
    refine (markCarrier_sh w5.heap.size w6.heap.size _ y (1 + 5 * (m.c.length : Int) + 5 * (m.t.length : Int)) w15 iny (by omega) (by omega) (by omega) (by omega)).mono ?_
    rintro e w16 ⟨rfl, iny', sp_w16⟩
    replace bxa := sp_w16.box bxa (by omega)
    replace bxc := sp_w16.box bxc (by omega)
    replace bxw := sp_w16.box bxw (by omega)
    replace inw := inw.step sp_w16 (by omega)
    replace bxy := sp_w16.box bxy (by omega)
    replace ing := ing.step sp_w16 (by omega)
    replace bxg := sp_w16.box bxg (by omega)
    have B_w16 : Below w.heap.size w w16 := B_w15.trans (sp_w16.below (by omega) (by omega))
    have hs_w16 : w15.heap.size ≤ w16.heap.size := sp_w16.size
    clear sp_w16 B_w15
    clear iny
    have iny := iny'
    clear iny'
    clear iny
    clear bxy
    have hk1 : (0 : Int) ≤ 1 + 5 * (m.c.length : Int) + 5 * (m.t.length : Int) + (y.l.length : Int) + 2 * (y.g.length : Int) := by omega
    have bxgc0 : w16.cell? ⟨w8.heap.size, 0, none⟩ = some (.int .i64 mr.id) := block_cell1 bxg 0 _ rfl
    have bxgc1 : w16.cell? ⟨w8.heap.size, 1, none⟩ = some (.int .i64 mr.lim) := block_cell1 bxg 1 _ rfl
    have bxgc2 : w16.cell? ⟨w8.heap.size, 2, none⟩ = some (.bool mr.dr) := block_cell1 bxg 2 _ rfl
    have bxgc3 : w16.cell? ⟨w8.heap.size, 3, none⟩ = some (.slice ocg mr.c.length ccg) := block_cell1 bxg 3 _ rfl
    have bxgc4 : w16.cell? ⟨w8.heap.size, 4, none⟩ = some (.slice otg mr.t.length ctg) := block_cell1 bxg 4 _ rfl
    have bxwc0 : w16.cell? ⟨Bw, 0, none⟩ = some (.int .i64 mr.id) := block_cell1 bxw 0 _ rfl
    have bxwc1 : w16.cell? ⟨Bw, 1, none⟩ = some (.int .i64 mr.lim) := block_cell1 bxw 1 _ rfl
    have bxwc2 : w16.cell? ⟨Bw, 2, none⟩ = some (.bool mr.dr) := block_cell1 bxw 2 _ rfl
    have bxwc3 : w16.cell? ⟨Bw, 3, none⟩ = some (.slice ocw mr.c.length ccw) := block_cell1 bxw 3 _ rfl
    have bxwc4 : w16.cell? ⟨Bw, 4, none⟩ = some (.slice otw mr.t.length ctw) := block_cell1 bxw 4 _ rfl
    have Hbxa := hide bxa
    clear bxa
    have Hbxc := hide bxc
    clear bxc
    have Hbxw := hide bxw
    clear bxw
    have Hinw := hide inw
    clear inw
    have Hing := hide ing
    clear ing
    have Hbxg := hide bxg
    clear bxg
    have HB_ := hide B_w16
    clear B_w16
    go_wp2_with fail
    clear bxgc0 bxgc1 bxgc2 bxgc3 bxgc4
    clear bxwc0 bxwc1 bxwc2 bxwc3 bxwc4
    have bxa := Hbxa.out
    clear Hbxa
    have bxc := Hbxc.out
    clear Hbxc
    have bxw := Hbxw.out
    clear Hbxw
    have inw := Hinw.out
    clear Hinw
    have ing := Hing.out
    clear Hing
    have bxg := Hbxg.out
    clear Hbxg
    have B_w16 := HB_.out
    clear HB_
    refine (eqAgent_sh _ _ mr w16 (ing.rd.le (by omega)) (inw.rd.le (by omega)) (by omega)).mono ?_
    rintro e w17 ⟨rfl, hb_w17⟩
    replace bxa := (hb_w17.block _ (by omega)).trans bxa
    replace bxc := (hb_w17.block _ (by omega)).trans bxc
    replace bxw := (hb_w17.block _ (by omega)).trans bxw
    replace inw := inw.step (Stp.of (lo := 0) (hi := 0) hb_w17) (.inl (Nat.zero_le _))
    replace ing := ing.step (Stp.of (lo := 0) (hi := 0) hb_w17) (.inl (Nat.zero_le _))
    replace bxg := (hb_w17.block _ (by omega)).trans bxg
    have B_w17 : Below w.heap.size w w17 := B_w16.trans (hb_w17.mono B_w16.size)
    have hs_w17 : w16.heap.size ≤ w17.heap.size := hb_w17.size
    clear hb_w17 B_w16
    have hk2 : (0 : Int) ≤ 1 + 5 * (mr.c.length : Int) + 5 * (mr.t.length : Int) ∧ 1 + 5 * (mr.c.length : Int) + 5 * (mr.t.length : Int) ≤ 10000000 := by omega
    have bxgc0 : w17.cell? ⟨w8.heap.size, 0, none⟩ = some (.int .i64 mr.id) := block_cell1 bxg 0 _ rfl
    have bxgc1 : w17.cell? ⟨w8.heap.size, 1, none⟩ = some (.int .i64 mr.lim) := block_cell1 bxg 1 _ rfl
    have bxgc2 : w17.cell? ⟨w8.heap.size, 2, none⟩ = some (.bool mr.dr) := block_cell1 bxg 2 _ rfl
    have bxgc3 : w17.cell? ⟨w8.heap.size, 3, none⟩ = some (.slice ocg mr.c.length ccg) := block_cell1 bxg 3 _ rfl
    have bxgc4 : w17.cell? ⟨w8.heap.size, 4, none⟩ = some (.slice otg mr.t.length ctg) := block_cell1 bxg 4 _ rfl
    have Hbxa := hide bxa
    clear bxa
    have Hbxc := hide bxc
    clear bxc
    have Hbxw := hide bxw
    clear bxw
    have Hinw := hide inw
    clear inw
    have Hing := hide ing
    clear ing
    have Hbxg := hide bxg
    clear bxg
    have HB_ := hide B_w17
    clear B_w17
    go_wp2_with fail
    clear bxgc0 bxgc1 bxgc2 bxgc3 bxgc4
    have bxa := Hbxa.out
    clear Hbxa
    have bxc := Hbxc.out
    clear Hbxc
    have bxw := Hbxw.out
    clear Hbxw
    have inw := Hinw.out
    clear Hinw
    have ing := Hing.out
    clear Hing
    have bxg := Hbxg.out
    clear Hbxg
    have B_w17 := HB_.out
    clear HB_
    refine (markAgent_sh w7.heap.size w8.heap.size _ mr (1) w17 ing (by omega) (by omega) (by omega)).mono ?_
    rintro e w18 ⟨rfl, ing', sp_w18⟩
    replace bxa := sp_w18.box bxa (by omega)
    replace bxc := sp_w18.box bxc (by omega)
    replace bxw := sp_w18.box bxw (by omega)
    replace inw := inw.step sp_w18 (by omega)
    replace bxg := sp_w18.box bxg (by omega)
    have B_w18 : Below w.heap.size w w18 := B_w17.trans (sp_w18.below (by omega) (by omega))
    have hs_w18 : w17.heap.size ≤ w18.heap.size := sp_w18.size
    clear sp_w18 B_w17
    clear ing
    have ing := ing'
    clear ing'
    have bxgc0 : w18.cell? ⟨w8.heap.size, 0, none⟩ = some (.int .i64 mr.id) := block_cell1 bxg 0 _ rfl
    have bxgc1 : w18.cell? ⟨w8.heap.size, 1, none⟩ = some (.int .i64 mr.lim) := block_cell1 bxg 1 _ rfl
    have bxgc2 : w18.cell? ⟨w8.heap.size, 2, none⟩ = some (.bool mr.dr) := block_cell1 bxg 2 _ rfl
    have bxgc3 : w18.cell? ⟨w8.heap.size, 3, none⟩ = some (.slice ocg mr.c.length ccg) := block_cell1 bxg 3 _ rfl
    have bxgc4 : w18.cell? ⟨w8.heap.size, 4, none⟩ = some (.slice otg mr.t.length ctg) := block_cell1 bxg 4 _ rfl
    have Hbxa := hide bxa
    clear bxa
    have Hbxc := hide bxc
    clear bxc
    have Hbxw := hide bxw
    clear bxw
    have Hinw := hide inw
    clear inw
    have Hing := hide ing
    clear ing
    have Hbxg := hide bxg
    clear bxg
    have HB_ := hide B_w18
    clear B_w18
    go_wp2_with fail
    clear bxgc0 bxgc1 bxgc2 bxgc3 bxgc4
    have bxa := Hbxa.out
    clear Hbxa
    have bxc := Hbxc.out
    clear Hbxc
    have bxw := Hbxw.out
    clear Hbxw
    have inw := Hinw.out
    clear Hinw
    have ing := Hing.out
    clear Hing
    have bxg := Hbxg.out
    clear Hbxg
    have B_w18 := HB_.out
    clear HB_
    refine (heldAgent_sh _ mr 1 w18 (ing.rd.le (by omega)) (by omega) (by omega) (by omega)).mono ?_
    rintro e w19 ⟨rfl, hb_w19⟩
    replace bxa := (hb_w19.block _ (by omega)).trans bxa
    replace bxc := (hb_w19.block _ (by omega)).trans bxc
    replace bxw := (hb_w19.block _ (by omega)).trans bxw
    replace inw := inw.step (Stp.of (lo := 0) (hi := 0) hb_w19) (.inl (Nat.zero_le _))
    replace ing := ing.step (Stp.of (lo := 0) (hi := 0) hb_w19) (.inl (Nat.zero_le _))
    replace bxg := (hb_w19.block _ (by omega)).trans bxg
    have B_w19 : Below w.heap.size w w19 := B_w18.trans (hb_w19.mono B_w18.size)
    have hs_w19 : w18.heap.size ≤ w19.heap.size := hb_w19.size
    clear hb_w19 B_w18
    have bxac0 : w19.cell? ⟨w.heap.size, 0, none⟩ = some (.int .i64 m.id) := block_cell1 bxa 0 _ rfl
    have bxac1 : w19.cell? ⟨w.heap.size, 1, none⟩ = some (.int .i64 m.lim) := block_cell1 bxa 1 _ rfl
    have bxac2 : w19.cell? ⟨w.heap.size, 2, none⟩ = some (.bool m.dr) := block_cell1 bxa 2 _ rfl
    have bxac3 : w19.cell? ⟨w.heap.size, 3, none⟩ = some (.slice oca m.c.length cca) := block_cell1 bxa 3 _ rfl
    have bxac4 : w19.cell? ⟨w.heap.size, 4, none⟩ = some (.slice ota m.t.length cta) := block_cell1 bxa 4 _ rfl
    have bxcc0 : w19.cell? ⟨w.heap.size + 1, 0, none⟩ = some (.int .i64 y.a) := block_cell1 bxc 0 _ rfl
    have bxcc1 : w19.cell? ⟨w.heap.size + 1, 1, none⟩ = some (.int .i64 y.b) := block_cell1 bxc 1 _ rfl
    have bxcc2 : w19.cell? ⟨w.heap.size + 1, 2, none⟩ = some (.int .i64 y.f) := block_cell1 bxc 2 _ rfl
    have bxcc3 : w19.cell? ⟨w.heap.size + 1, 3, none⟩ = some (.int .i64 y.s) := block_cell1 bxc 3 _ rfl
    have bxcc4 : w19.cell? ⟨w.heap.size + 1, 4, none⟩ = some (.slice oa y.l.length ca) := block_cell1 bxc 4 _ rfl
    have bxcc5 : w19.cell? ⟨w.heap.size + 1, 5, none⟩ = some (.slice oga y.g.length cga) := block_cell1 bxc 5 _ rfl
    have bxcc6 : w19.cell? ⟨w.heap.size + 1, 6, none⟩ = some (.int .i64 y.pl) := block_cell1 bxc 6 _ rfl
    have bxcc7 : w19.cell? ⟨w.heap.size + 1, 7, none⟩ = some (.int .i64 y.st) := block_cell1 bxc 7 _ rfl
    have Hbxa := hide bxa
    clear bxa
    have Hbxc := hide bxc
    clear bxc
    have Hbxw := hide bxw
    clear bxw
    have Hinw := hide inw
    clear inw
    have Hing := hide ing
    clear ing
    have Hbxg := hide bxg
    clear bxg
    have HB_ := hide B_w19
    clear B_w19
    go_upto_region 31 with fail
    go_cut [17, 18] from 98 to 106 (fun s17 s18 wx => ∃ B lo hi och cch oth cth, s17 = .pointer (some ⟨B, 0, none⟩) ∧ s18 = .int .i64 t ∧ Hid (wx.heap[B]? = some (.cells #[.int .i64 mr.id, .int .i64 mr.lim, .bool mr.dr, .slice och mr.c.length cch, .slice oth mr.t.length cth] 41 (0, 0))) ∧ Hid (Below w19.heap.size w19 wx) ∧ w19.heap.size ≤ B ∧ B < wx.heap.size ∧ Hid (InA lo hi wx (agt mr.id mr.lim mr.dr (.slice och mr.c.length cch) (.slice oth mr.t.length cth)) mr) ∧ w19.heap.size ≤ lo ∧ hi ≤ wx.heap.size ∧ (B < lo ∨ hi ≤ B))
    case first =>
      have hk_bxa : w.heap.size < w19.heap.size := by omega
      have hk_bxc : w.heap.size + 1 < w19.heap.size := by omega
      go_region_held3 (fun w' => w'.cell? ⟨w.heap.size, 0, none⟩ = some (.int .i64 m.id) ∧ w'.cell? ⟨w.heap.size, 1, none⟩ = some (.int .i64 m.lim) ∧ w'.cell? ⟨w.heap.size, 2, none⟩ = some (.bool m.dr) ∧ w'.cell? ⟨w.heap.size, 3, none⟩ = some (.slice oca m.c.length cca) ∧ w'.cell? ⟨w.heap.size, 4, none⟩ = some (.slice ota m.t.length cta) ∧ w'.cell? ⟨w.heap.size + 1, 0, none⟩ = some (.int .i64 y.a) ∧ w'.cell? ⟨w.heap.size + 1, 1, none⟩ = some (.int .i64 y.b) ∧ w'.cell? ⟨w.heap.size + 1, 2, none⟩ = some (.int .i64 y.f) ∧ w'.cell? ⟨w.heap.size + 1, 3, none⟩ = some (.int .i64 y.s) ∧ w'.cell? ⟨w.heap.size + 1, 4, none⟩ = some (.slice oa y.l.length ca) ∧ w'.cell? ⟨w.heap.size + 1, 5, none⟩ = some (.slice oga y.g.length cga) ∧ w'.cell? ⟨w.heap.size + 1, 6, none⟩ = some (.int .i64 y.pl) ∧ w'.cell? ⟨w.heap.size + 1, 7, none⟩ = some (.int .i64 y.st)) (first | with_reducible exact ⟨k2_0, k2_1, k2_2, k2_3, k2_4, k2_5, k2_6, k2_7, k2_8, k2_9, k2_10, k2_11, k2_12⟩ | with_reducible exact ⟨k1_0, k1_1, k1_2, k1_3, k1_4, k1_5, k1_6, k1_7, k1_8, k1_9, k1_10, k1_11, k1_12⟩ | with_reducible exact ⟨k0_0, k0_1, k0_2, k0_3, k0_4, k0_5, k0_6, k0_7, k0_8, k0_9, k0_10, k0_11, k0_12⟩ | with_reducible exact ⟨bxac0, bxac1, bxac2, bxac3, bxac4, bxcc0, bxcc1, bxcc2, bxcc3, bxcc4, bxcc5, bxcc6, bxcc7⟩ | with_reducible exact ⟨set5v_cell k2_0 (show w.heap.size < w19.heap.size by omega), set5v_cell k2_1 (show w.heap.size < w19.heap.size by omega), set5v_cell k2_2 (show w.heap.size < w19.heap.size by omega), set5v_cell k2_3 (show w.heap.size < w19.heap.size by omega), set5v_cell k2_4 (show w.heap.size < w19.heap.size by omega), set5v_cell k2_5 (show w.heap.size + 1 < w19.heap.size by omega), set5v_cell k2_6 (show w.heap.size + 1 < w19.heap.size by omega), set5v_cell k2_7 (show w.heap.size + 1 < w19.heap.size by omega), set5v_cell k2_8 (show w.heap.size + 1 < w19.heap.size by omega), set5v_cell k2_9 (show w.heap.size + 1 < w19.heap.size by omega), set5v_cell k2_10 (show w.heap.size + 1 < w19.heap.size by omega), set5v_cell k2_11 (show w.heap.size + 1 < w19.heap.size by omega), set5v_cell k2_12 (show w.heap.size + 1 < w19.heap.size by omega)⟩ | with_reducible exact ⟨set5v_cell k2_0 (show w.heap.size < x0.heap.size by omega), set5v_cell k2_1 (show w.heap.size < x0.heap.size by omega), set5v_cell k2_2 (show w.heap.size < x0.heap.size by omega), set5v_cell k2_3 (show w.heap.size < x0.heap.size by omega), set5v_cell k2_4 (show w.heap.size < x0.heap.size by omega), set5v_cell k2_5 (show w.heap.size + 1 < x0.heap.size by omega), set5v_cell k2_6 (show w.heap.size + 1 < x0.heap.size by omega), set5v_cell k2_7 (show w.heap.size + 1 < x0.heap.size by omega), set5v_cell k2_8 (show w.heap.size + 1 < x0.heap.size by omega), set5v_cell k2_9 (show w.heap.size + 1 < x0.heap.size by omega), set5v_cell k2_10 (show w.heap.size + 1 < x0.heap.size by omega), set5v_cell k2_11 (show w.heap.size + 1 < x0.heap.size by omega), set5v_cell k2_12 (show w.heap.size + 1 < x0.heap.size by omega)⟩ | with_reducible exact ⟨set5v_cell k2_0 (show w.heap.size < x1.heap.size by omega), set5v_cell k2_1 (show w.heap.size < x1.heap.size by omega), set5v_cell k2_2 (show w.heap.size < x1.heap.size by omega), set5v_cell k2_3 (show w.heap.size < x1.heap.size by omega), set5v_cell k2_4 (show w.heap.size < x1.heap.size by omega), set5v_cell k2_5 (show w.heap.size + 1 < x1.heap.size by omega), set5v_cell k2_6 (show w.heap.size + 1 < x1.heap.size by omega), set5v_cell k2_7 (show w.heap.size + 1 < x1.heap.size by omega), set5v_cell k2_8 (show w.heap.size + 1 < x1.heap.size by omega), set5v_cell k2_9 (show w.heap.size + 1 < x1.heap.size by omega), set5v_cell k2_10 (show w.heap.size + 1 < x1.heap.size by omega), set5v_cell k2_11 (show w.heap.size + 1 < x1.heap.size by omega), set5v_cell k2_12 (show w.heap.size + 1 < x1.heap.size by omega)⟩ | go_keep) (first | (go_at_call 7; have hc_ := toAgent_sh _ m w19.drew ((hR.kept (Below.drew HB_.out) (Nat.le_refl _)).le HB_.out.size) hf; with_reducible refine hc_.mono ?_; clear hc_; rintro e x0 ⟨v2, rfl, in2, hb⟩; have hp0 : Below w19.heap.size w19 x0 := Below.trans (show Below w19.heap.size w19 w19.drew from (Below.drew (Below.refl _ _))) (hb.mono (by simp)); have sp0 : w19.heap.size ≤ x0.heap.size := hp0.size; have hx0 : Below w19.heap.size w19 x0 := hp0; have k0_0 := (hx0.cell (p := ⟨w.heap.size, 0, none⟩) hk_bxa).trans bxac0; have k0_1 := (hx0.cell (p := ⟨w.heap.size, 1, none⟩) hk_bxa).trans bxac1; have k0_2 := (hx0.cell (p := ⟨w.heap.size, 2, none⟩) hk_bxa).trans bxac2; have k0_3 := (hx0.cell (p := ⟨w.heap.size, 3, none⟩) hk_bxa).trans bxac3; have k0_4 := (hx0.cell (p := ⟨w.heap.size, 4, none⟩) hk_bxa).trans bxac4; have k0_5 := (hx0.cell (p := ⟨w.heap.size + 1, 0, none⟩) hk_bxc).trans bxcc0; have k0_6 := (hx0.cell (p := ⟨w.heap.size + 1, 1, none⟩) hk_bxc).trans bxcc1; have k0_7 := (hx0.cell (p := ⟨w.heap.size + 1, 2, none⟩) hk_bxc).trans bxcc2; have k0_8 := (hx0.cell (p := ⟨w.heap.size + 1, 3, none⟩) hk_bxc).trans bxcc3; have k0_9 := (hx0.cell (p := ⟨w.heap.size + 1, 4, none⟩) hk_bxc).trans bxcc4; have k0_10 := (hx0.cell (p := ⟨w.heap.size + 1, 5, none⟩) hk_bxc).trans bxcc5; have k0_11 := (hx0.cell (p := ⟨w.heap.size + 1, 6, none⟩) hk_bxc).trans bxcc6; have k0_12 := (hx0.cell (p := ⟨w.heap.size + 1, 7, none⟩) hk_bxc).trans bxcc7; (try have hzl0_0 := (Array.getElem?_eq_some_iff.1 hZ0_0).1); have rda := in2.rd; clear hb) | (go_at_call 7; have hc_ := toAgent_sh _ m (w19.alloc (.cells #[.int .i64 0, .int .i64 0, .bool false, .slice none 0 0, .slice none 0 0] 41)).drew ((hR.kept (Below.drew (HB_.out.alloc HB_.out.size _)) (Nat.le_refl _)).le (Nat.le_trans HB_.out.size (by simp))) hf; with_reducible refine hc_.mono ?_; clear hc_; rintro e x0 ⟨v2, rfl, in2, hb⟩; have hp0 : Below w19.heap.size w19 x0 := Below.trans (show Below w19.heap.size w19 (w19.alloc (.cells #[.int .i64 0, .int .i64 0, .bool false, .slice none 0 0, .slice none 0 0] 41)).drew from (Below.drew ((Below.refl _ _).alloc (Nat.le_refl _) _))) (hb.mono (by simp)); have sp0 : w19.heap.size ≤ x0.heap.size := hp0.size; have hx0 : Below w19.heap.size w19 x0 := hp0; have k0_0 := (hx0.cell (p := ⟨w.heap.size, 0, none⟩) hk_bxa).trans bxac0; have k0_1 := (hx0.cell (p := ⟨w.heap.size, 1, none⟩) hk_bxa).trans bxac1; have k0_2 := (hx0.cell (p := ⟨w.heap.size, 2, none⟩) hk_bxa).trans bxac2; have k0_3 := (hx0.cell (p := ⟨w.heap.size, 3, none⟩) hk_bxa).trans bxac3; have k0_4 := (hx0.cell (p := ⟨w.heap.size, 4, none⟩) hk_bxa).trans bxac4; have k0_5 := (hx0.cell (p := ⟨w.heap.size + 1, 0, none⟩) hk_bxc).trans bxcc0; have k0_6 := (hx0.cell (p := ⟨w.heap.size + 1, 1, none⟩) hk_bxc).trans bxcc1; have k0_7 := (hx0.cell (p := ⟨w.heap.size + 1, 2, none⟩) hk_bxc).trans bxcc2; have k0_8 := (hx0.cell (p := ⟨w.heap.size + 1, 3, none⟩) hk_bxc).trans bxcc3; have k0_9 := (hx0.cell (p := ⟨w.heap.size + 1, 4, none⟩) hk_bxc).trans bxcc4; have k0_10 := (hx0.cell (p := ⟨w.heap.size + 1, 5, none⟩) hk_bxc).trans bxcc5; have k0_11 := (hx0.cell (p := ⟨w.heap.size + 1, 6, none⟩) hk_bxc).trans bxcc6; have k0_12 := (hx0.cell (p := ⟨w.heap.size + 1, 7, none⟩) hk_bxc).trans bxcc7; have hZ0_0 : x0.heap[w19.heap.size]? = some (.cells #[.int .i64 0, .int .i64 0, .bool false, .slice none 0 0, .slice none 0 0] 41 (0, 0)) := (box_new0 hb); (try have hzl0_0 := (Array.getElem?_eq_some_iff.1 hZ0_0).1); have rda := in2.rd; clear hb) | (go_at_call 8; have hc_ := toCarrier_sh _ y x0 ((hQ.kept (HB_.out.trans (hx0.mono HB_.out.size)) (Nat.le_refl _)).le (Nat.le_trans HB_.out.size hx0.size)) hfy; with_reducible refine hc_.mono ?_; clear hc_; rintro e x1 ⟨u2, rfl, jn2, hb⟩; have hp1 : Below x0.heap.size x0 x1 := hb; have sp1 : x0.heap.size ≤ x1.heap.size := hp1.size; have hx1 : Below w19.heap.size w19 x1 := hx0.trans (hp1.mono hx0.size); have k1_0 := (hx1.cell (p := ⟨w.heap.size, 0, none⟩) hk_bxa).trans bxac0; have k1_1 := (hx1.cell (p := ⟨w.heap.size, 1, none⟩) hk_bxa).trans bxac1; have k1_2 := (hx1.cell (p := ⟨w.heap.size, 2, none⟩) hk_bxa).trans bxac2; have k1_3 := (hx1.cell (p := ⟨w.heap.size, 3, none⟩) hk_bxa).trans bxac3; have k1_4 := (hx1.cell (p := ⟨w.heap.size, 4, none⟩) hk_bxa).trans bxac4; have k1_5 := (hx1.cell (p := ⟨w.heap.size + 1, 0, none⟩) hk_bxc).trans bxcc0; have k1_6 := (hx1.cell (p := ⟨w.heap.size + 1, 1, none⟩) hk_bxc).trans bxcc1; have k1_7 := (hx1.cell (p := ⟨w.heap.size + 1, 2, none⟩) hk_bxc).trans bxcc2; have k1_8 := (hx1.cell (p := ⟨w.heap.size + 1, 3, none⟩) hk_bxc).trans bxcc3; have k1_9 := (hx1.cell (p := ⟨w.heap.size + 1, 4, none⟩) hk_bxc).trans bxcc4; have k1_10 := (hx1.cell (p := ⟨w.heap.size + 1, 5, none⟩) hk_bxc).trans bxcc5; have k1_11 := (hx1.cell (p := ⟨w.heap.size + 1, 6, none⟩) hk_bxc).trans bxcc6; have k1_12 := (hx1.cell (p := ⟨w.heap.size + 1, 7, none⟩) hk_bxc).trans bxcc7; (try have hZ1_0 : x1.heap[w19.heap.size]? = some (.cells #[.int .i64 0, .int .i64 0, .bool false, .slice none 0 0, .slice none 0 0] 41 (0, 0)) := (hp1.block _ (Array.getElem?_eq_some_iff.1 hZ0_0).1).trans hZ0_0); (try have hzl1_0 := (Array.getElem?_eq_some_iff.1 hZ1_0).1); (try have hzl1_1 := (Array.getElem?_eq_some_iff.1 hZ1_1).1); have rdb := rda.kept hp1 (Nat.le_refl _); have rdc := jn2.rd; clear hb) | (go_at_call 8; have hc_ := toCarrier_sh _ y (x0.alloc (.cells #[.int .i64 0, .int .i64 0, .bool false, .slice none 0 0, .slice none 0 0] 41)) ((hQ.kept ((HB_.out.trans (hx0.mono HB_.out.size)).alloc (Nat.le_trans HB_.out.size hx0.size) _) (Nat.le_refl _)).le (Nat.le_trans (Nat.le_trans HB_.out.size hx0.size) (by simp))) hfy; with_reducible refine hc_.mono ?_; clear hc_; rintro e x1 ⟨u2, rfl, jn2, hb⟩; have hp1 : Below x0.heap.size x0 x1 := Below.trans (show Below x0.heap.size x0 (x0.alloc (.cells #[.int .i64 0, .int .i64 0, .bool false, .slice none 0 0, .slice none 0 0] 41)) from ((Below.refl _ _).alloc (Nat.le_refl _) _)) (hb.mono (by simp)); have sp1 : x0.heap.size ≤ x1.heap.size := hp1.size; have hx1 : Below w19.heap.size w19 x1 := hx0.trans (hp1.mono hx0.size); have k1_0 := (hx1.cell (p := ⟨w.heap.size, 0, none⟩) hk_bxa).trans bxac0; have k1_1 := (hx1.cell (p := ⟨w.heap.size, 1, none⟩) hk_bxa).trans bxac1; have k1_2 := (hx1.cell (p := ⟨w.heap.size, 2, none⟩) hk_bxa).trans bxac2; have k1_3 := (hx1.cell (p := ⟨w.heap.size, 3, none⟩) hk_bxa).trans bxac3; have k1_4 := (hx1.cell (p := ⟨w.heap.size, 4, none⟩) hk_bxa).trans bxac4; have k1_5 := (hx1.cell (p := ⟨w.heap.size + 1, 0, none⟩) hk_bxc).trans bxcc0; have k1_6 := (hx1.cell (p := ⟨w.heap.size + 1, 1, none⟩) hk_bxc).trans bxcc1; have k1_7 := (hx1.cell (p := ⟨w.heap.size + 1, 2, none⟩) hk_bxc).trans bxcc2; have k1_8 := (hx1.cell (p := ⟨w.heap.size + 1, 3, none⟩) hk_bxc).trans bxcc3; have k1_9 := (hx1.cell (p := ⟨w.heap.size + 1, 4, none⟩) hk_bxc).trans bxcc4; have k1_10 := (hx1.cell (p := ⟨w.heap.size + 1, 5, none⟩) hk_bxc).trans bxcc5; have k1_11 := (hx1.cell (p := ⟨w.heap.size + 1, 6, none⟩) hk_bxc).trans bxcc6; have k1_12 := (hx1.cell (p := ⟨w.heap.size + 1, 7, none⟩) hk_bxc).trans bxcc7; (try have hZ1_0 : x1.heap[w19.heap.size]? = some (.cells #[.int .i64 0, .int .i64 0, .bool false, .slice none 0 0, .slice none 0 0] 41 (0, 0)) := (hp1.block _ (Array.getElem?_eq_some_iff.1 hZ0_0).1).trans hZ0_0); have hZ1_1 : x1.heap[x0.heap.size]? = some (.cells #[.int .i64 0, .int .i64 0, .bool false, .slice none 0 0, .slice none 0 0] 41 (0, 0)) := (box_new1 hb); (try have hzl1_0 := (Array.getElem?_eq_some_iff.1 hZ1_0).1); (try have hzl1_1 := (Array.getElem?_eq_some_iff.1 hZ1_1).1); have rdb := rda.kept hp1 (Nat.le_refl _); have rdc := jn2.rd; clear hb) | (go_at_call 9; have hc_ := HI.out _ _ x1 (rdb.le (by omega)) rdc hfy; with_reducible refine hc_.mono ?_; clear hc_; rintro e x2 ⟨vh, rfl, inh, hb⟩; have hp2 : Below x1.heap.size x1 x2 := hb; have sp2 : x1.heap.size ≤ x2.heap.size := hp2.size; have hx2 : Below w19.heap.size w19 x2 := hx1.trans (hp2.mono hx1.size); have k2_0 := (hx2.cell (p := ⟨w.heap.size, 0, none⟩) hk_bxa).trans bxac0; have k2_1 := (hx2.cell (p := ⟨w.heap.size, 1, none⟩) hk_bxa).trans bxac1; have k2_2 := (hx2.cell (p := ⟨w.heap.size, 2, none⟩) hk_bxa).trans bxac2; have k2_3 := (hx2.cell (p := ⟨w.heap.size, 3, none⟩) hk_bxa).trans bxac3; have k2_4 := (hx2.cell (p := ⟨w.heap.size, 4, none⟩) hk_bxa).trans bxac4; have k2_5 := (hx2.cell (p := ⟨w.heap.size + 1, 0, none⟩) hk_bxc).trans bxcc0; have k2_6 := (hx2.cell (p := ⟨w.heap.size + 1, 1, none⟩) hk_bxc).trans bxcc1; have k2_7 := (hx2.cell (p := ⟨w.heap.size + 1, 2, none⟩) hk_bxc).trans bxcc2; have k2_8 := (hx2.cell (p := ⟨w.heap.size + 1, 3, none⟩) hk_bxc).trans bxcc3; have k2_9 := (hx2.cell (p := ⟨w.heap.size + 1, 4, none⟩) hk_bxc).trans bxcc4; have k2_10 := (hx2.cell (p := ⟨w.heap.size + 1, 5, none⟩) hk_bxc).trans bxcc5; have k2_11 := (hx2.cell (p := ⟨w.heap.size + 1, 6, none⟩) hk_bxc).trans bxcc6; have k2_12 := (hx2.cell (p := ⟨w.heap.size + 1, 7, none⟩) hk_bxc).trans bxcc7; (try have hZ2_0 : x2.heap[w19.heap.size]? = some (.cells #[.int .i64 0, .int .i64 0, .bool false, .slice none 0 0, .slice none 0 0] 41 (0, 0)) := (hp2.block _ (Array.getElem?_eq_some_iff.1 hZ1_0).1).trans hZ1_0); (try have hZ2_1 : x2.heap[x0.heap.size]? = some (.cells #[.int .i64 0, .int .i64 0, .bool false, .slice none 0 0, .slice none 0 0] 41 (0, 0)) := (hp2.block _ (Array.getElem?_eq_some_iff.1 hZ1_1).1).trans hZ1_1); (try have hzl2_0 := (Array.getElem?_eq_some_iff.1 hZ2_0).1); (try have hzl2_1 := (Array.getElem?_eq_some_iff.1 hZ2_1).1); (try have hzl2_2 := (Array.getElem?_eq_some_iff.1 hZ2_2).1); obtain ⟨och, cch, oth, cth, hve⟩ := InA.opn inh; subst hve; (try have hzc0_0 : x2.cell? ⟨w19.heap.size, 0, none⟩ = some (.int .i64 0) := block_cell1 hZ2_0 0 _ rfl); (try have hzf0_0 := frozen_of hZ2_0 0); (try have hzc0_1 : x2.cell? ⟨w19.heap.size, 1, none⟩ = some (.int .i64 0) := block_cell1 hZ2_0 1 _ rfl); (try have hzf0_1 := frozen_of hZ2_0 1); (try have hzc0_2 : x2.cell? ⟨w19.heap.size, 2, none⟩ = some (.bool false) := block_cell1 hZ2_0 2 _ rfl); (try have hzf0_2 := frozen_of hZ2_0 2); (try have hzc0_3 : x2.cell? ⟨w19.heap.size, 3, none⟩ = some (.slice none 0 0) := block_cell1 hZ2_0 3 _ rfl); (try have hzf0_3 := frozen_of hZ2_0 3); (try have hzc0_4 : x2.cell? ⟨w19.heap.size, 4, none⟩ = some (.slice none 0 0) := block_cell1 hZ2_0 4 _ rfl); (try have hzf0_4 := frozen_of hZ2_0 4); (try have hzc1_0 : x2.cell? ⟨x0.heap.size, 0, none⟩ = some (.int .i64 0) := block_cell1 hZ2_1 0 _ rfl); (try have hzf1_0 := frozen_of hZ2_1 0); (try have hzc1_1 : x2.cell? ⟨x0.heap.size, 1, none⟩ = some (.int .i64 0) := block_cell1 hZ2_1 1 _ rfl); (try have hzf1_1 := frozen_of hZ2_1 1); (try have hzc1_2 : x2.cell? ⟨x0.heap.size, 2, none⟩ = some (.bool false) := block_cell1 hZ2_1 2 _ rfl); (try have hzf1_2 := frozen_of hZ2_1 2); (try have hzc1_3 : x2.cell? ⟨x0.heap.size, 3, none⟩ = some (.slice none 0 0) := block_cell1 hZ2_1 3 _ rfl); (try have hzf1_3 := frozen_of hZ2_1 3); (try have hzc1_4 : x2.cell? ⟨x0.heap.size, 4, none⟩ = some (.slice none 0 0) := block_cell1 hZ2_1 4 _ rfl); (try have hzf1_4 := frozen_of hZ2_1 4); (try have hzc2_0 : x2.cell? ⟨x1.heap.size, 0, none⟩ = some (.int .i64 0) := block_cell1 hZ2_2 0 _ rfl); (try have hzf2_0 := frozen_of hZ2_2 0); (try have hzc2_1 : x2.cell? ⟨x1.heap.size, 1, none⟩ = some (.int .i64 0) := block_cell1 hZ2_2 1 _ rfl); (try have hzf2_1 := frozen_of hZ2_2 1); (try have hzc2_2 : x2.cell? ⟨x1.heap.size, 2, none⟩ = some (.bool false) := block_cell1 hZ2_2 2 _ rfl); (try have hzf2_2 := frozen_of hZ2_2 2); (try have hzc2_3 : x2.cell? ⟨x1.heap.size, 3, none⟩ = some (.slice none 0 0) := block_cell1 hZ2_2 3 _ rfl); (try have hzf2_3 := frozen_of hZ2_2 3); (try have hzc2_4 : x2.cell? ⟨x1.heap.size, 4, none⟩ = some (.slice none 0 0) := block_cell1 hZ2_2 4 _ rfl); (try have hzf2_4 := frozen_of hZ2_2 4); clear hb) | (go_at_call 9; have hc_ := HI.out _ _ (x1.alloc (.cells #[.int .i64 0, .int .i64 0, .bool false, .slice none 0 0, .slice none 0 0] 41)) (((rdb.le (show x0.heap.size ≤ x1.heap.size by omega)).kept ((Below.refl _ _).alloc (Nat.le_refl _) _) (Nat.le_refl _)).le (by simp)) ((rdc.kept ((Below.refl _ _).alloc (Nat.le_refl _) _) (Nat.le_refl _)).le (by simp)) hfy; with_reducible refine hc_.mono ?_; clear hc_; rintro e x2 ⟨vh, rfl, inh, hb⟩; have hp2 : Below x1.heap.size x1 x2 := Below.trans (show Below x1.heap.size x1 (x1.alloc (.cells #[.int .i64 0, .int .i64 0, .bool false, .slice none 0 0, .slice none 0 0] 41)) from ((Below.refl _ _).alloc (Nat.le_refl _) _)) (hb.mono (by simp)); have sp2 : x1.heap.size ≤ x2.heap.size := hp2.size; have hx2 : Below w19.heap.size w19 x2 := hx1.trans (hp2.mono hx1.size); have k2_0 := (hx2.cell (p := ⟨w.heap.size, 0, none⟩) hk_bxa).trans bxac0; have k2_1 := (hx2.cell (p := ⟨w.heap.size, 1, none⟩) hk_bxa).trans bxac1; have k2_2 := (hx2.cell (p := ⟨w.heap.size, 2, none⟩) hk_bxa).trans bxac2; have k2_3 := (hx2.cell (p := ⟨w.heap.size, 3, none⟩) hk_bxa).trans bxac3; have k2_4 := (hx2.cell (p := ⟨w.heap.size, 4, none⟩) hk_bxa).trans bxac4; have k2_5 := (hx2.cell (p := ⟨w.heap.size + 1, 0, none⟩) hk_bxc).trans bxcc0; have k2_6 := (hx2.cell (p := ⟨w.heap.size + 1, 1, none⟩) hk_bxc).trans bxcc1; have k2_7 := (hx2.cell (p := ⟨w.heap.size + 1, 2, none⟩) hk_bxc).trans bxcc2; have k2_8 := (hx2.cell (p := ⟨w.heap.size + 1, 3, none⟩) hk_bxc).trans bxcc3; have k2_9 := (hx2.cell (p := ⟨w.heap.size + 1, 4, none⟩) hk_bxc).trans bxcc4; have k2_10 := (hx2.cell (p := ⟨w.heap.size + 1, 5, none⟩) hk_bxc).trans bxcc5; have k2_11 := (hx2.cell (p := ⟨w.heap.size + 1, 6, none⟩) hk_bxc).trans bxcc6; have k2_12 := (hx2.cell (p := ⟨w.heap.size + 1, 7, none⟩) hk_bxc).trans bxcc7; (try have hZ2_0 : x2.heap[w19.heap.size]? = some (.cells #[.int .i64 0, .int .i64 0, .bool false, .slice none 0 0, .slice none 0 0] 41 (0, 0)) := (hp2.block _ (Array.getElem?_eq_some_iff.1 hZ1_0).1).trans hZ1_0); (try have hZ2_1 : x2.heap[x0.heap.size]? = some (.cells #[.int .i64 0, .int .i64 0, .bool false, .slice none 0 0, .slice none 0 0] 41 (0, 0)) := (hp2.block _ (Array.getElem?_eq_some_iff.1 hZ1_1).1).trans hZ1_1); have hZ2_2 : x2.heap[x1.heap.size]? = some (.cells #[.int .i64 0, .int .i64 0, .bool false, .slice none 0 0, .slice none 0 0] 41 (0, 0)) := (box_new1 hb); (try have hzl2_0 := (Array.getElem?_eq_some_iff.1 hZ2_0).1); (try have hzl2_1 := (Array.getElem?_eq_some_iff.1 hZ2_1).1); (try have hzl2_2 := (Array.getElem?_eq_some_iff.1 hZ2_2).1); obtain ⟨och, cch, oth, cth, hve⟩ := InA.opn inh; subst hve; (try have hzc0_0 : x2.cell? ⟨w19.heap.size, 0, none⟩ = some (.int .i64 0) := block_cell1 hZ2_0 0 _ rfl); (try have hzf0_0 := frozen_of hZ2_0 0); (try have hzc0_1 : x2.cell? ⟨w19.heap.size, 1, none⟩ = some (.int .i64 0) := block_cell1 hZ2_0 1 _ rfl); (try have hzf0_1 := frozen_of hZ2_0 1); (try have hzc0_2 : x2.cell? ⟨w19.heap.size, 2, none⟩ = some (.bool false) := block_cell1 hZ2_0 2 _ rfl); (try have hzf0_2 := frozen_of hZ2_0 2); (try have hzc0_3 : x2.cell? ⟨w19.heap.size, 3, none⟩ = some (.slice none 0 0) := block_cell1 hZ2_0 3 _ rfl); (try have hzf0_3 := frozen_of hZ2_0 3); (try have hzc0_4 : x2.cell? ⟨w19.heap.size, 4, none⟩ = some (.slice none 0 0) := block_cell1 hZ2_0 4 _ rfl); (try have hzf0_4 := frozen_of hZ2_0 4); (try have hzc1_0 : x2.cell? ⟨x0.heap.size, 0, none⟩ = some (.int .i64 0) := block_cell1 hZ2_1 0 _ rfl); (try have hzf1_0 := frozen_of hZ2_1 0); (try have hzc1_1 : x2.cell? ⟨x0.heap.size, 1, none⟩ = some (.int .i64 0) := block_cell1 hZ2_1 1 _ rfl); (try have hzf1_1 := frozen_of hZ2_1 1); (try have hzc1_2 : x2.cell? ⟨x0.heap.size, 2, none⟩ = some (.bool false) := block_cell1 hZ2_1 2 _ rfl); (try have hzf1_2 := frozen_of hZ2_1 2); (try have hzc1_3 : x2.cell? ⟨x0.heap.size, 3, none⟩ = some (.slice none 0 0) := block_cell1 hZ2_1 3 _ rfl); (try have hzf1_3 := frozen_of hZ2_1 3); (try have hzc1_4 : x2.cell? ⟨x0.heap.size, 4, none⟩ = some (.slice none 0 0) := block_cell1 hZ2_1 4 _ rfl); (try have hzf1_4 := frozen_of hZ2_1 4); (try have hzc2_0 : x2.cell? ⟨x1.heap.size, 0, none⟩ = some (.int .i64 0) := block_cell1 hZ2_2 0 _ rfl); (try have hzf2_0 := frozen_of hZ2_2 0); (try have hzc2_1 : x2.cell? ⟨x1.heap.size, 1, none⟩ = some (.int .i64 0) := block_cell1 hZ2_2 1 _ rfl); (try have hzf2_1 := frozen_of hZ2_2 1); (try have hzc2_2 : x2.cell? ⟨x1.heap.size, 2, none⟩ = some (.bool false) := block_cell1 hZ2_2 2 _ rfl); (try have hzf2_2 := frozen_of hZ2_2 2); (try have hzc2_3 : x2.cell? ⟨x1.heap.size, 3, none⟩ = some (.slice none 0 0) := block_cell1 hZ2_2 3 _ rfl); (try have hzf2_3 := frozen_of hZ2_2 3); (try have hzc2_4 : x2.cell? ⟨x1.heap.size, 4, none⟩ = some (.slice none 0 0) := block_cell1 hZ2_2 4 _ rfl); (try have hzf2_4 := frozen_of hZ2_2 4); clear hb))
      all_goals (go_wp2_with fail; go_meet)
      all_goals first
        | with_reducible exact finA hZ2_0 hx2 (by omega) inh (by (try simp) <;> omega) (Nat.le_refl _) (by (try simp) <;> omega)
        | with_reducible exact finA hZ2_1 hx2 (by omega) inh (by (try simp) <;> omega) (Nat.le_refl _) (by (try simp) <;> omega)
        | with_reducible exact finA hZ2_2 hx2 (by omega) inh (by (try simp) <;> omega) (Nat.le_refl _) (by (try simp) <;> omega)
        | with_reducible exact finAn hx2 inh (by (try simp) <;> omega) (Nat.le_refl _)
    case rest =>
    obtain ⟨Bh, loh, hih, och, cch, oth, cth, rfl, rfl, Hbx_, Hbl_, hB1_h, hB2_h, Hin_, hl1_h, hl2_h, hl3_h⟩ := hcut
    have bxh := Hbx_.out
    have hbl_ := Hbl_.out
    clear Hbx_ Hbl_
    have inh := Hin_.out
    clear Hin_
    clear bxac0 bxac1 bxac2 bxac3 bxac4
    clear bxcc0 bxcc1 bxcc2 bxcc3 bxcc4 bxcc5 bxcc6 bxcc7
    have bxa := Hbxa.out
    clear Hbxa
    have bxc := Hbxc.out
    clear Hbxc
    have bxw := Hbxw.out
    clear Hbxw
    have inw := Hinw.out
    clear Hinw
    have ing := Hing.out
    clear Hing
    have bxg := Hbxg.out
    clear Hbxg
    have B_w19 := HB_.out
    clear HB_
    obtain ⟨w20, hwc⟩ : ∃ W, W = wc := ⟨_, rfl⟩
    subst hwc
    replace bxa := (hbl_.block _ (by omega)).trans bxa
    replace bxc := (hbl_.block _ (by omega)).trans bxc
    replace bxw := (hbl_.block _ (by omega)).trans bxw
    replace inw := inw.step (Stp.of (lo := 0) (hi := 0) hbl_) (.inl (Nat.zero_le _))
    replace ing := ing.step (Stp.of (lo := 0) (hi := 0) hbl_) (.inl (Nat.zero_le _))
    replace bxg := (hbl_.block _ (by omega)).trans bxg
    have B_w20 : Below w.heap.size w w20 := B_w19.trans (hbl_.mono B_w19.size)
    have hs_w20 : w19.heap.size ≤ w20.heap.size := hbl_.size
    clear hbl_ B_w19
    have bxhc0 : w20.cell? ⟨Bh, 0, none⟩ = some (.int .i64 mr.id) := block_cell1 bxh 0 _ rfl
    have bxhc1 : w20.cell? ⟨Bh, 1, none⟩ = some (.int .i64 mr.lim) := block_cell1 bxh 1 _ rfl
    have bxhc2 : w20.cell? ⟨Bh, 2, none⟩ = some (.bool mr.dr) := block_cell1 bxh 2 _ rfl
    have bxhc3 : w20.cell? ⟨Bh, 3, none⟩ = some (.slice och mr.c.length cch) := block_cell1 bxh 3 _ rfl
    have bxhc4 : w20.cell? ⟨Bh, 4, none⟩ = some (.slice oth mr.t.length cth) := block_cell1 bxh 4 _ rfl
    have bxwc0 : w20.cell? ⟨Bw, 0, none⟩ = some (.int .i64 mr.id) := block_cell1 bxw 0 _ rfl
    have bxwc1 : w20.cell? ⟨Bw, 1, none⟩ = some (.int .i64 mr.lim) := block_cell1 bxw 1 _ rfl
    have bxwc2 : w20.cell? ⟨Bw, 2, none⟩ = some (.bool mr.dr) := block_cell1 bxw 2 _ rfl
    have bxwc3 : w20.cell? ⟨Bw, 3, none⟩ = some (.slice ocw mr.c.length ccw) := block_cell1 bxw 3 _ rfl
    have bxwc4 : w20.cell? ⟨Bw, 4, none⟩ = some (.slice otw mr.t.length ctw) := block_cell1 bxw 4 _ rfl
    have Hbxa := hide bxa
    clear bxa
    have Hbxc := hide bxc
    clear bxc
    have Hbxw := hide bxw
    clear bxw
    have Hinw := hide inw
    clear inw
    have Hing := hide ing
    clear ing
    have Hbxg := hide bxg
    clear bxg
    have Hbxh := hide bxh
    clear bxh
    have Hinh := hide inh
    clear inh
    have HB_ := hide B_w20
    clear B_w20
    go_wp2_with fail
    clear bxhc0 bxhc1 bxhc2 bxhc3 bxhc4
    clear bxwc0 bxwc1 bxwc2 bxwc3 bxwc4
    have bxa := Hbxa.out
    clear Hbxa
    have bxc := Hbxc.out
    clear Hbxc
    have bxw := Hbxw.out
    clear Hbxw
    have inw := Hinw.out
    clear Hinw
    have ing := Hing.out
    clear Hing
    have bxg := Hbxg.out
    clear Hbxg
    have bxh := Hbxh.out
    clear Hbxh
    have inh := Hinh.out
    clear Hinh
    have B_w20 := HB_.out
    clear HB_
    refine (eqAgent_sh _ _ mr w20 (inh.rd.le (by omega)) (inw.rd.le (by omega)) (by omega)).mono ?_
    rintro e w21 ⟨rfl, hb_w21⟩
    replace bxa := (hb_w21.block _ (by omega)).trans bxa
    replace bxc := (hb_w21.block _ (by omega)).trans bxc
    replace bxw := (hb_w21.block _ (by omega)).trans bxw
    replace inw := inw.step (Stp.of (lo := 0) (hi := 0) hb_w21) (.inl (Nat.zero_le _))
    replace ing := ing.step (Stp.of (lo := 0) (hi := 0) hb_w21) (.inl (Nat.zero_le _))
    replace bxg := (hb_w21.block _ (by omega)).trans bxg
    replace bxh := (hb_w21.block _ (by omega)).trans bxh
    replace inh := inh.step (Stp.of (lo := 0) (hi := 0) hb_w21) (.inl (Nat.zero_le _))
    have B_w21 : Below w.heap.size w w21 := B_w20.trans (hb_w21.mono B_w20.size)
    have hs_w21 : w20.heap.size ≤ w21.heap.size := hb_w21.size
    clear hb_w21 B_w20
    clear inh
    clear bxh
    have bxgc0 : w21.cell? ⟨w8.heap.size, 0, none⟩ = some (.int .i64 mr.id) := block_cell1 bxg 0 _ rfl
    have bxgc1 : w21.cell? ⟨w8.heap.size, 1, none⟩ = some (.int .i64 mr.lim) := block_cell1 bxg 1 _ rfl
    have bxgc2 : w21.cell? ⟨w8.heap.size, 2, none⟩ = some (.bool mr.dr) := block_cell1 bxg 2 _ rfl
    have bxgc3 : w21.cell? ⟨w8.heap.size, 3, none⟩ = some (.slice ocg mr.c.length ccg) := block_cell1 bxg 3 _ rfl
    have bxgc4 : w21.cell? ⟨w8.heap.size, 4, none⟩ = some (.slice otg mr.t.length ctg) := block_cell1 bxg 4 _ rfl
    have Hbxa := hide bxa
    clear bxa
    have Hbxc := hide bxc
    clear bxc
    have Hbxw := hide bxw
    clear bxw
    have Hinw := hide inw
    clear inw
    have Hing := hide ing
    clear ing
    have Hbxg := hide bxg
    clear bxg
    have HB_ := hide B_w21
    clear B_w21
    go_wp2_with fail
    clear bxgc0 bxgc1 bxgc2 bxgc3 bxgc4
    have bxa := Hbxa.out
    clear Hbxa
    have bxc := Hbxc.out
    clear Hbxc
    have bxw := Hbxw.out
    clear Hbxw
    have inw := Hinw.out
    clear Hinw
    have ing := Hing.out
    clear Hing
    have bxg := Hbxg.out
    clear Hbxg
    have B_w21 := HB_.out
    clear HB_
    refine (heldAgent_sh _ mr 1 w21 (ing.rd.le (by omega)) (by omega) (by omega) (by omega)).mono ?_
    rintro e w22 ⟨rfl, hb_w22⟩
    replace bxa := (hb_w22.block _ (by omega)).trans bxa
    replace bxc := (hb_w22.block _ (by omega)).trans bxc
    replace bxw := (hb_w22.block _ (by omega)).trans bxw
    replace inw := inw.step (Stp.of (lo := 0) (hi := 0) hb_w22) (.inl (Nat.zero_le _))
    replace ing := ing.step (Stp.of (lo := 0) (hi := 0) hb_w22) (.inl (Nat.zero_le _))
    replace bxg := (hb_w22.block _ (by omega)).trans bxg
    have B_w22 : Below w.heap.size w w22 := B_w21.trans (hb_w22.mono B_w21.size)
    have hs_w22 : w21.heap.size ≤ w22.heap.size := hb_w22.size
    clear hb_w22 B_w21
    have Hbxa := hide bxa
    clear bxa
    have Hbxc := hide bxc
    clear bxc
    have Hbxw := hide bxw
    clear bxw
    have Hinw := hide inw
    clear inw
    have Hing := hide ing
    clear ing
    have Hbxg := hide bxg
    clear bxg
    have HB_ := hide B_w22
    clear B_w22
    go_wp2
    go_ret
    exact ⟨rfl, HB_.out⟩
  · skip
    obtain ⟨vca, vta, rfl, ⟨oca, cca, rfl, _⟩, ⟨ota, cta, rfl, _⟩⟩ := hR0
    obtain ⟨vla, vsa, rfl, ⟨oa, ca, rfl, _⟩, ⟨oga, cga, rfl, _⟩⟩ := hQ0
    obtain ⟨w0, hw0⟩ : ∃ W, ((w.alloc (.cells #[.int .i64 m.id, .int .i64 m.lim, .bool m.dr, .slice oca m.c.length cca, .slice ota m.t.length cta] 26)).alloc (.cells #[.int .i64 y.a, .int .i64 y.b, .int .i64 y.f, .int .i64 y.s, .slice oa y.l.length ca, .slice oga y.g.length cga, .int .i64 y.pl, .int .i64 y.st] 34)) = W := ⟨_, rfl⟩
    have B_w0 : Below w.heap.size w w0 := by rw [← hw0]; exact (((Below.refl _ _).alloc (Nat.le_refl _) _).alloc (by simp) _)
    have Hb_ := hide B_w0
    have HR := hide hR
    clear B_w0 hR hQ
    have bxac0 : w0.cell? ⟨w.heap.size, 0, none⟩ = some (.int .i64 m.id) := by rw [← hw0]; simp [go_sem]
    have bxac1 : w0.cell? ⟨w.heap.size, 1, none⟩ = some (.int .i64 m.lim) := by rw [← hw0]; simp [go_sem]
    have bxac2 : w0.cell? ⟨w.heap.size, 2, none⟩ = some (.bool m.dr) := by rw [← hw0]; simp [go_sem]
    have bxac3 : w0.cell? ⟨w.heap.size, 3, none⟩ = some (.slice oca m.c.length cca) := by rw [← hw0]; simp [go_sem]
    have bxac4 : w0.cell? ⟨w.heap.size, 4, none⟩ = some (.slice ota m.t.length cta) := by rw [← hw0]; simp [go_sem]
    have bxcc0 : w0.cell? ⟨w.heap.size + 1, 0, none⟩ = some (.int .i64 y.a) := by rw [← hw0]; simp [go_sem]
    have bxcc1 : w0.cell? ⟨w.heap.size + 1, 1, none⟩ = some (.int .i64 y.b) := by rw [← hw0]; simp [go_sem]
    have bxcc2 : w0.cell? ⟨w.heap.size + 1, 2, none⟩ = some (.int .i64 y.f) := by rw [← hw0]; simp [go_sem]
    have bxcc3 : w0.cell? ⟨w.heap.size + 1, 3, none⟩ = some (.int .i64 y.s) := by rw [← hw0]; simp [go_sem]
    have bxcc4 : w0.cell? ⟨w.heap.size + 1, 4, none⟩ = some (.slice oa y.l.length ca) := by rw [← hw0]; simp [go_sem]
    have bxcc5 : w0.cell? ⟨w.heap.size + 1, 5, none⟩ = some (.slice oga y.g.length cga) := by rw [← hw0]; simp [go_sem]
    have bxcc6 : w0.cell? ⟨w.heap.size + 1, 6, none⟩ = some (.int .i64 y.pl) := by rw [← hw0]; simp [go_sem]
    have bxcc7 : w0.cell? ⟨w.heap.size + 1, 7, none⟩ = some (.int .i64 y.st) := by rw [← hw0]; simp [go_sem]
    go_enter Tryz.func3, Tryz.ntmps3
    go_wp2_with fail
    have hR := HR.out
    refine (szAgent_sh _ m w.heap.size w0 (hR.kept Hb_.out (Nat.le_refl _)) hl hg).mono ?_
    rintro e w1 ⟨⟨nn, rfl, hpos, hneg, hn1, hn2⟩, hb_w1⟩
    have hnn := hneg hfit
    have HB := hide (Hb_.out.trans (hb_w1.mono Hb_.out.size))
    clear hpos hneg hb_w1
    go_wp2
    go_ret
    exact ⟨rfl, HB.out⟩

theorem walkFnExactHandle (v : Value) (m : Am) (now : Int) (a b f s : Int) (o : Option Addr) (cap : Nat) (l : List Int) (og : Option Addr) (cg : Nat) (g : List (Int × Int)) (pl st : Int) (w : World) (hR : RdA w.heap.size w v m) (hl : m.c.length ≤ maxLen) (hg : m.t.length ≤ maxLen) (hm : l.length ≤ maxLen) (hR2 : Rd w o l) (hB8 : isB l) (hmg : g.length ≤ maxLen) (hG : RdG w og g) :
    Calls Tryz.prog 3 #[v, .int .i64 now, crr a b f s (.slice o l.length cap) (.slice og g.length cg) pl st] w fun e w' => e = .returned (.bool true) ∧ Below w.heap.size w w' :=
  lawFnExactHandle v m now _ ⟨a, b, f, s, l, g, pl, st⟩ w hR (rdCm_in hR2 hG) hl hg hm hmg hB8

set_option maxRecDepth 100000 in
theorem fnExactHandle_lifted (os : Os) (started : os.Started) (H : Type) (enc : TypeId × Value → H) :
    ReturnsInHanded {} Tryz.checked os 3 .any (Rows.fnExactHandleSpec.pre6 enc Tryz.prog Tryz.f3 Rows.fnExactHandleRow.domain false) (Rows.fnExactHandleSpec.post enc Tryz.prog Tryz.f3 false true false false) := by
  refine returnsInHanded_of_change (C := Tryz.checked) own started (by kernel_rfl) Tryz.func3
    (ChangeSpec.witness6 (enc := enc) (C := Tryz.checked) false ⟨#[], #[.agg #[.int .i64 0, .int .i64 0, .bool false, .slice none 0 0, .slice none 0 0], .int .i64 0, .agg #[.int .i64 0, .int .i64 0, .int .i64 0, .int .i64 0, .slice none 0 0, .slice none 0 0, .int .i64 0, .int .i64 0]], []⟩ 8 (by kernel_rfl) (by kernel_rfl) (by kernel_rfl) (by kernel_rfl)) ?_
  intro W base args ds gs before hval0 hW hcnd _
  have hval : ∀ (j : Nat) t v, Tryz.f3.params[j]? = some t → args[j]? = some v → Value.okWide Tryz.prog W .any base t v := hval0
  have hW' := hW
  obtain ⟨p, q, hA0, hV, rfl, hfz, hnd⟩ := hW
  have hA : DataW.TrodAll enc Tryz.prog W 0 (fun _ => true) true Tryz.f3.params.toList args.toList ds p := hA0
  rw [Tryz.params3] at hA hval
  obtain ⟨v0, vs0, d0, ds0, p0, q0, hargs, rfl, rfl, h0, r0⟩ := trodAll_cons hA
  obtain ⟨v1, vs1, d1, ds1, p1, q1, rfl, rfl, rfl, h1, r1⟩ := trodAll_cons r0
  obtain ⟨v2, vs2, d2, ds2, p2, q2, rfl, rfl, rfl, h2, r2⟩ := trodAll_cons r1
  obtain ⟨rfl, rfl, rfl⟩ := trodAll_nil r2
  obtain rfl : args = #[v0, v1, v2] := by cases args; simp_all
  obtain ⟨rfl, rfl⟩ := trodVars_none hV
  have k0 := h0
  have lt0 : ∀ x ∈ p0, x.block < W.heap.size := by obtain ⟨m, hm⟩ := k0; exact DataW.trod_lt m _ _ _ hm
  have k1 := h1
  have lt1 : ∀ x ∈ p1, x.block < W.heap.size := by obtain ⟨m, hm⟩ := k1; exact DataW.trod_lt m _ _ _ hm
  have k2 := h2
  have lt2 : ∀ x ∈ p2, x.block < W.heap.size := by obtain ⟨m, hm⟩ := k2; exact DataW.trod_lt m _ _ _ hm
  obtain ⟨m0, hR0, hl0, hg0⟩ := open_agent (hval 0 26 v0 rfl rfl) h0
  obtain ⟨a1, rfl, _, _, w1⟩ := open_int Tryz.underlying3 (hval 1 3 v1 rfl rfl) h1
  obtain ⟨a2, b2, f2, s2, o2, cap2, l2, og2, cg2, g2, pl2, st2, rfl, hm2, hR2, hB82, hmg2, hG2⟩ := open_carrier (hval 2 34 v2 rfl rfl) h2
  clear hA0 hval0
  refine (walkFnExactHandle v0 m0 a1 a2 b2 f2 s2 o2 cap2 l2 og2 cg2 g2 pl2 st2 W hR0 hl0 hg0  hm2 hR2 hB82 hmg2 hG2 ).mono fun e W' ⟨he, bel⟩ => ?_
  subst he
  exact ⟨_, rfl, _, _, _, [], _, [], hW', trodAll_mk1 (shut_bool Tryz.underlying4 _), (trodAll_cons_mk (Below.trod laidOut (by kernel_rfl) (of_decide_eq_true (by kernel_rfl)) k0 bel lt0) (trodAll_cons_mk (Below.trod laidOut (by kernel_rfl) (of_decide_eq_true (by kernel_rfl)) k1 bel lt1) (trodAll_cons_mk (Below.trod laidOut (by kernel_rfl) (of_decide_eq_true (by kernel_rfl)) k2 bel lt2) trodAll_mk0))), rfl, bel.frame _, fun h => by cases h⟩

theorem fnExactHandle_over : Rows.fnExactHandleRow.holds Tryz.pinned (OpenSpec.ofChange Rows.fnExactHandleSpec) :=
  OpenClaim.holds_of_wide 3 Tryz.f3 rfl rfl rfl rfl rfl rfl rfl ⟨rfl, rfl, rfl, rfl, rfl⟩ rfl rfl rfl rfl rfl (by kernel_rfl) Tryz.func3 (by kernel_rfl)
    (of_decide_eq_true (by kernel_rfl)) (by unfold Func.isWrapper; first | (rw [if_pos (by decide +kernel)]; kernel_rfl) | (rw [if_neg (by decide +kernel)]; exact ⟨rfl, rfl⟩))
    (fun os started H enc _ => fnExactHandle_lifted os started H enc)

theorem fnExactHandle_holds : Rows.FnExactHandleSaid := fnExactHandle_over

end Go.Proofs.YtmkgbmmibjgeaaaGreat
