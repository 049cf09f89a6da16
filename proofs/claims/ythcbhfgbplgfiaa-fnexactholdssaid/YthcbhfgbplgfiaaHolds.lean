/- For every agent and flow the law FnExactHolds answers true, and the agent reads as it did: impl.Holds answers as the model's, and writes nothing into what it is handed. No conditions. -/
import Derived.Test.YthcbhfgbplgfiaaShA2
import Derived.Test.YthcbhfgbplgfiaaSAg5
import Derived.Deep.RegionHeld3
namespace Go.Proofs.Ythcbhfgbplgfiaa
open Go.ChangeShapes Go.WideShapes Go.ChangeAt Go.RowKit Go.Joins
set_option linter.unusedVariables false
set_option linter.unusedSimpArgs false

set_option maxRecDepth 100000 in
set_option maxHeartbeats 8000000 in
theorem lawFnExactHolds (v : Value) (m : Am) (a p : Int) (w : World) (hR : RdA w.heap.size w v m) (hl : m.c.length ≤ maxLen) (hg : m.t.length ≤ maxLen) :
    Calls Try.prog 10 #[v, flow a p] w fun e w' => e = .returned (.bool true) ∧ Below w.heap.size w w' := by
  have hR0 := hR
  by_cases hfit : m.c.length + m.t.length ≤ 1048576
  · have hf : m.c.length + m.t.length ≤ 1048576 := hfit
    have HS := hide (fun v w h hf => specHolds_sh v m a p w h hf)
    have HI := hide (fun v w h hf => implHolds_sh v m a p w h hf)
    generalize holdsB m a p = t at *
    obtain ⟨vca, vta, rfl, ⟨oca, cca, rfl, _⟩, ⟨ota, cta, rfl, _⟩⟩ := hR0
    obtain ⟨w0, hw0⟩ : ∃ W, ((w.alloc (.cells #[.int .i64 m.id, .int .i64 m.lim, .bool m.dr, .slice oca m.c.length cca, .slice ota m.t.length cta] 58)).alloc (.cells #[.int .i64 a, .int .i64 p] 66)) = W := ⟨_, rfl⟩
    have B_w0 : Below w.heap.size w w0 := by rw [← hw0]; exact (((Below.refl _ _).alloc (Nat.le_refl _) _).alloc (by simp) _)
    have hz_w0 : w.heap.size + 1 < w0.heap.size := by rw [← hw0]; simp
    have bxa : w0.heap[w.heap.size]? = some (.cells #[.int .i64 m.id, .int .i64 m.lim, .bool m.dr, .slice oca m.c.length cca, .slice ota m.t.length cta] 58 (0, 0)) := by
      have h := World.alloc_heap_new w (.cells #[.int .i64 m.id, .int .i64 m.lim, .bool m.dr, .slice oca m.c.length cca, .slice ota m.t.length cta] 58)
      (try rw [World.size_alloc] at h)
      rw [← hw0]
      refine (Below.heap_alloc _ _ _ (by simp)).trans ?_
      exact h
    have bxf : w0.heap[w.heap.size + 1]? = some (.cells #[.int .i64 a, .int .i64 p] 66 (0, 0)) := by
      have h := World.alloc_heap_new (w.alloc (.cells #[.int .i64 m.id, .int .i64 m.lim, .bool m.dr, .slice oca m.c.length cca, .slice ota m.t.length cta] 58)) (.cells #[.int .i64 a, .int .i64 p] 66)
      (try rw [World.size_alloc] at h)
      rw [← hw0]
      exact h
    have HR := hide hR
    clear hR
    have bxac0 : w0.cell? ⟨w.heap.size, 0, none⟩ = some (.int .i64 m.id) := block_cell1 bxa 0 _ rfl
    have bxac1 : w0.cell? ⟨w.heap.size, 1, none⟩ = some (.int .i64 m.lim) := block_cell1 bxa 1 _ rfl
    have bxac2 : w0.cell? ⟨w.heap.size, 2, none⟩ = some (.bool m.dr) := block_cell1 bxa 2 _ rfl
    have bxac3 : w0.cell? ⟨w.heap.size, 3, none⟩ = some (.slice oca m.c.length cca) := block_cell1 bxa 3 _ rfl
    have bxac4 : w0.cell? ⟨w.heap.size, 4, none⟩ = some (.slice ota m.t.length cta) := block_cell1 bxa 4 _ rfl
    have Hbxa := hide bxa
    clear bxa
    have Hbxf := hide bxf
    clear bxf
    have HB_ := hide B_w0
    clear B_w0
    go_enter Try.func10, Try.ntmps10
    go_wp2_with fail
    clear bxac0 bxac1 bxac2 bxac3 bxac4
    have bxa := Hbxa.out
    clear Hbxa
    have bxf := Hbxf.out
    clear Hbxf
    have B_w0 := HB_.out
    clear HB_
    clear hw0
    have hR := HR.out
    clear HR
    refine (szAgent_sh _ m w.heap.size w0 (hR.kept B_w0 (Nat.le_refl _)) hl hg).mono ?_
    rintro e w1 ⟨⟨nn, rfl, hpos, hneg, hn1, hn2⟩, hb_w1⟩
    have hnn := hpos hfit
    clear hpos hneg
    replace bxa := (hb_w1.block _ (by omega)).trans bxa
    replace bxf := (hb_w1.block _ (by omega)).trans bxf
    have B_w1 : Below w.heap.size w w1 := B_w0.trans (hb_w1.mono B_w0.size)
    have hs_w1 : w0.heap.size ≤ w1.heap.size := hb_w1.size
    clear hb_w1 B_w0
    have bxac0 : w1.cell? ⟨w.heap.size, 0, none⟩ = some (.int .i64 m.id) := block_cell1 bxa 0 _ rfl
    have bxac1 : w1.cell? ⟨w.heap.size, 1, none⟩ = some (.int .i64 m.lim) := block_cell1 bxa 1 _ rfl
    have bxac2 : w1.cell? ⟨w.heap.size, 2, none⟩ = some (.bool m.dr) := block_cell1 bxa 2 _ rfl
    have bxac3 : w1.cell? ⟨w.heap.size, 3, none⟩ = some (.slice oca m.c.length cca) := block_cell1 bxa 3 _ rfl
    have bxac4 : w1.cell? ⟨w.heap.size, 4, none⟩ = some (.slice ota m.t.length cta) := block_cell1 bxa 4 _ rfl
    have bxfc0 : w1.cell? ⟨w.heap.size + 1, 0, none⟩ = some (.int .i64 a) := block_cell1 bxf 0 _ rfl
    have bxfc1 : w1.cell? ⟨w.heap.size + 1, 1, none⟩ = some (.int .i64 p) := block_cell1 bxf 1 _ rfl
    have Hbxa := hide bxa
    clear bxa
    have Hbxf := hide bxf
    clear bxf
    have HB_ := hide B_w1
    clear B_w1
    go_wp2
    have hk_bxa : w.heap.size < w1.heap.size := by omega
    have hk_bxf : w.heap.size + 1 < w1.heap.size := by omega
    go_region_held3 (fun w' => w'.cell? ⟨w.heap.size, 0, none⟩ = some (.int .i64 m.id) ∧ w'.cell? ⟨w.heap.size, 1, none⟩ = some (.int .i64 m.lim) ∧ w'.cell? ⟨w.heap.size, 2, none⟩ = some (.bool m.dr) ∧ w'.cell? ⟨w.heap.size, 3, none⟩ = some (.slice oca m.c.length cca) ∧ w'.cell? ⟨w.heap.size, 4, none⟩ = some (.slice ota m.t.length cta) ∧ w'.cell? ⟨w.heap.size + 1, 0, none⟩ = some (.int .i64 a) ∧ w'.cell? ⟨w.heap.size + 1, 1, none⟩ = some (.int .i64 p)) (first | exact ⟨k2_0, k2_1, k2_2, k2_3, k2_4, k2_5, k2_6⟩ | exact ⟨k1_0, k1_1, k1_2, k1_3, k1_4, k1_5, k1_6⟩ | exact ⟨k0_0, k0_1, k0_2, k0_3, k0_4, k0_5, k0_6⟩ | exact ⟨bxac0, bxac1, bxac2, bxac3, bxac4, bxfc0, bxfc1⟩) (first | (go_at_call 29; refine (toAgent_sh _ m w1.drew ((hR.kept (Below.drew HB_.out) (Nat.le_refl _)).le HB_.out.size) hf).mono ?_; rintro e w2 ⟨v2, rfl, in2, hb⟩; have hx0 : Below w1.heap.size w1 w2 := (Below.drew (Below.refl _ _)).trans hb; clear hb; have k0_0 := (hx0.cell (p := ⟨w.heap.size, 0, none⟩) hk_bxa).trans bxac0; have k0_1 := (hx0.cell (p := ⟨w.heap.size, 1, none⟩) hk_bxa).trans bxac1; have k0_2 := (hx0.cell (p := ⟨w.heap.size, 2, none⟩) hk_bxa).trans bxac2; have k0_3 := (hx0.cell (p := ⟨w.heap.size, 3, none⟩) hk_bxa).trans bxac3; have k0_4 := (hx0.cell (p := ⟨w.heap.size, 4, none⟩) hk_bxa).trans bxac4; have k0_5 := (hx0.cell (p := ⟨w.heap.size + 1, 0, none⟩) hk_bxf).trans bxfc0; have k0_6 := (hx0.cell (p := ⟨w.heap.size + 1, 1, none⟩) hk_bxf).trans bxfc1) | (go_at_call 38; refine (toFlow_any a p w2).mono ?_; rintro e w3 ⟨rfl, hb⟩; have rd2 := in2.rd.kept hb (Nat.le_refl _); have sz2 := hb.size; have hx1 : Below w1.heap.size w1 w3 := hx0.trans (hb.mono hx0.size); clear hb; have k1_0 := (hx1.cell (p := ⟨w.heap.size, 0, none⟩) hk_bxa).trans bxac0; have k1_1 := (hx1.cell (p := ⟨w.heap.size, 1, none⟩) hk_bxa).trans bxac1; have k1_2 := (hx1.cell (p := ⟨w.heap.size, 2, none⟩) hk_bxa).trans bxac2; have k1_3 := (hx1.cell (p := ⟨w.heap.size, 3, none⟩) hk_bxa).trans bxac3; have k1_4 := (hx1.cell (p := ⟨w.heap.size, 4, none⟩) hk_bxa).trans bxac4; have k1_5 := (hx1.cell (p := ⟨w.heap.size + 1, 0, none⟩) hk_bxf).trans bxfc0; have k1_6 := (hx1.cell (p := ⟨w.heap.size + 1, 1, none⟩) hk_bxf).trans bxfc1) | (go_at_call 15; refine (HS.out _ w3 (rd2.le sz2) hf).mono ?_; rintro e w4 ⟨rfl, hb⟩; have hx2 : Below w1.heap.size w1 w4 := hx1.trans (hb.mono hx1.size); clear hb; have k2_0 := (hx2.cell (p := ⟨w.heap.size, 0, none⟩) hk_bxa).trans bxac0; have k2_1 := (hx2.cell (p := ⟨w.heap.size, 1, none⟩) hk_bxa).trans bxac1; have k2_2 := (hx2.cell (p := ⟨w.heap.size, 2, none⟩) hk_bxa).trans bxac2; have k2_3 := (hx2.cell (p := ⟨w.heap.size, 3, none⟩) hk_bxa).trans bxac3; have k2_4 := (hx2.cell (p := ⟨w.heap.size, 4, none⟩) hk_bxa).trans bxac4; have k2_5 := (hx2.cell (p := ⟨w.heap.size + 1, 0, none⟩) hk_bxf).trans bxfc0; have k2_6 := (hx2.cell (p := ⟨w.heap.size + 1, 1, none⟩) hk_bxf).trans bxfc1))
    clear k0_0 k0_1 k0_2 k0_3 k0_4 k0_5 k0_6
    clear k1_0 k1_1 k1_2 k1_3 k1_4 k1_5 k1_6
    clear k2_0 k2_1 k2_2 k2_3 k2_4 k2_5 k2_6
    clear hk_bxa hk_bxf hx0 hx1
    clear bxac0 bxac1 bxac2 bxac3 bxac4
    clear bxfc0 bxfc1
    have bxa := Hbxa.out
    clear Hbxa
    have bxf := Hbxf.out
    clear Hbxf
    have B_w1 := HB_.out
    clear HB_
    replace bxa := (hx2.block _ (by omega)).trans bxa
    replace bxf := (hx2.block _ (by omega)).trans bxf
    have B_w4 : Below w.heap.size w w4 := B_w1.trans (hx2.mono B_w1.size)
    have hs_w4 : w1.heap.size ≤ w4.heap.size := hx2.size
    clear hx2 B_w1
    clear rd2 sz2 in2
    have bxac0 : w4.cell? ⟨w.heap.size, 0, none⟩ = some (.int .i64 m.id) := block_cell1 bxa 0 _ rfl
    have bxac1 : w4.cell? ⟨w.heap.size, 1, none⟩ = some (.int .i64 m.lim) := block_cell1 bxa 1 _ rfl
    have bxac2 : w4.cell? ⟨w.heap.size, 2, none⟩ = some (.bool m.dr) := block_cell1 bxa 2 _ rfl
    have bxac3 : w4.cell? ⟨w.heap.size, 3, none⟩ = some (.slice oca m.c.length cca) := block_cell1 bxa 3 _ rfl
    have bxac4 : w4.cell? ⟨w.heap.size, 4, none⟩ = some (.slice ota m.t.length cta) := block_cell1 bxa 4 _ rfl
    have Hbxa := hide bxa
    clear bxa
    have Hbxf := hide bxf
    clear bxf
    have HB_ := hide B_w4
    clear B_w4
    go_wp2_with fail
    clear bxac0 bxac1 bxac2 bxac3 bxac4
    have bxa := Hbxa.out
    clear Hbxa
    have bxf := Hbxf.out
    clear Hbxf
    have B_w4 := HB_.out
    clear HB_
    refine (toAgent_sh _ m w4 ((hR.kept B_w4 (Nat.le_refl _)).le B_w4.size) hf).mono ?_
    rintro e w5 ⟨vx, rfl, inx, hb_w5⟩
    replace bxa := (hb_w5.block _ (by omega)).trans bxa
    replace bxf := (hb_w5.block _ (by omega)).trans bxf
    have B_w5 : Below w.heap.size w w5 := B_w4.trans (hb_w5.mono B_w4.size)
    have hs_w5 : w4.heap.size ≤ w5.heap.size := hb_w5.size
    clear hb_w5 B_w4
    obtain ⟨vcx, vtx, rfl, ⟨ocx, ccx, rfl, _⟩, ⟨otx, ctx, rfl, _⟩⟩ := inx.rd
    obtain ⟨w6, hW_w6⟩ : ∃ W, w5.alloc (.cells #[.int .i64 m.id, .int .i64 m.lim, .bool m.dr, .slice ocx m.c.length ccx, .slice otx m.t.length ctx] 27) = W := ⟨_, rfl⟩
    have bxx : w6.heap[w5.heap.size]? = some (.cells #[.int .i64 m.id, .int .i64 m.lim, .bool m.dr, .slice ocx m.c.length ccx, .slice otx m.t.length ctx] 27 (0, 0)) := by rw [← hW_w6]; exact World.alloc_heap_new w5 _
    have hb_w6 : Below w5.heap.size w5 w6 := by rw [← hW_w6]; exact (Below.refl _ _).alloc (Nat.le_refl _) _
    have hz_w6 : w5.heap.size < w6.heap.size := by rw [← hW_w6]; simp
    replace bxa := (hb_w6.block _ (by omega)).trans bxa
    replace bxf := (hb_w6.block _ (by omega)).trans bxf
    replace inx := inx.step (Stp.of (lo := 0) (hi := 0) hb_w6) (.inl (Nat.zero_le _))
    have B_w6 : Below w.heap.size w w6 := B_w5.trans (hb_w6.mono B_w5.size)
    have hs_w6 : w5.heap.size ≤ w6.heap.size := hb_w6.size
    clear hb_w6 B_w5
    have bxxc0 : w6.cell? ⟨w5.heap.size, 0, none⟩ = some (.int .i64 m.id) := block_cell1 bxx 0 _ rfl
    have bxxc1 : w6.cell? ⟨w5.heap.size, 1, none⟩ = some (.int .i64 m.lim) := block_cell1 bxx 1 _ rfl
    have bxxc2 : w6.cell? ⟨w5.heap.size, 2, none⟩ = some (.bool m.dr) := block_cell1 bxx 2 _ rfl
    have bxxc3 : w6.cell? ⟨w5.heap.size, 3, none⟩ = some (.slice ocx m.c.length ccx) := block_cell1 bxx 3 _ rfl
    have bxxc4 : w6.cell? ⟨w5.heap.size, 4, none⟩ = some (.slice otx m.t.length ctx) := block_cell1 bxx 4 _ rfl
    have bxfc0 : w6.cell? ⟨w.heap.size + 1, 0, none⟩ = some (.int .i64 a) := block_cell1 bxf 0 _ rfl
    have bxfc1 : w6.cell? ⟨w.heap.size + 1, 1, none⟩ = some (.int .i64 p) := block_cell1 bxf 1 _ rfl
    have Hbxa := hide bxa
    clear bxa
    have Hbxf := hide bxf
    clear bxf
    have Hinx := hide inx
    clear inx
    have Hbxx := hide bxx
    clear bxx
    have HB_ := hide B_w6
    clear B_w6
    go_wp2
    have hk_bxx : w5.heap.size < w6.heap.size := by omega
    have hk_bxf : w.heap.size + 1 < w6.heap.size := by omega
    go_region_held3 (fun w' => w'.cell? ⟨w5.heap.size, 0, none⟩ = some (.int .i64 m.id) ∧ w'.cell? ⟨w5.heap.size, 1, none⟩ = some (.int .i64 m.lim) ∧ w'.cell? ⟨w5.heap.size, 2, none⟩ = some (.bool m.dr) ∧ w'.cell? ⟨w5.heap.size, 3, none⟩ = some (.slice ocx m.c.length ccx) ∧ w'.cell? ⟨w5.heap.size, 4, none⟩ = some (.slice otx m.t.length ctx) ∧ w'.cell? ⟨w.heap.size + 1, 0, none⟩ = some (.int .i64 a) ∧ w'.cell? ⟨w.heap.size + 1, 1, none⟩ = some (.int .i64 p)) (first | exact ⟨k1_0, k1_1, k1_2, k1_3, k1_4, k1_5, k1_6⟩ | exact ⟨k0_0, k0_1, k0_2, k0_3, k0_4, k0_5, k0_6⟩ | exact ⟨bxxc0, bxxc1, bxxc2, bxxc3, bxxc4, bxfc0, bxfc1⟩) (first | (go_at_call 38; refine (toFlow_any a p w6.drew).mono ?_; rintro e w7 ⟨rfl, hb⟩; have rdx := (Hinx.out.rd.le (Nat.le_of_lt hk_bxx)).kept ((Below.drew (Below.refl _ _)).trans hb) (Nat.le_refl _); have szx := hb.size; have hx0 : Below w6.heap.size w6 w7 := (Below.drew (Below.refl _ _)).trans hb; clear hb; have k0_0 := (hx0.cell (p := ⟨w5.heap.size, 0, none⟩) hk_bxx).trans bxxc0; have k0_1 := (hx0.cell (p := ⟨w5.heap.size, 1, none⟩) hk_bxx).trans bxxc1; have k0_2 := (hx0.cell (p := ⟨w5.heap.size, 2, none⟩) hk_bxx).trans bxxc2; have k0_3 := (hx0.cell (p := ⟨w5.heap.size, 3, none⟩) hk_bxx).trans bxxc3; have k0_4 := (hx0.cell (p := ⟨w5.heap.size, 4, none⟩) hk_bxx).trans bxxc4; have k0_5 := (hx0.cell (p := ⟨w.heap.size + 1, 0, none⟩) hk_bxf).trans bxfc0; have k0_6 := (hx0.cell (p := ⟨w.heap.size + 1, 1, none⟩) hk_bxf).trans bxfc1) | (go_at_call 17; refine (HI.out _ w7 (rdx.le szx) hf).mono ?_; rintro e w8 ⟨rfl, hb⟩; have hx1 : Below w6.heap.size w6 w8 := hx0.trans (hb.mono hx0.size); clear hb; have k1_0 := (hx1.cell (p := ⟨w5.heap.size, 0, none⟩) hk_bxx).trans bxxc0; have k1_1 := (hx1.cell (p := ⟨w5.heap.size, 1, none⟩) hk_bxx).trans bxxc1; have k1_2 := (hx1.cell (p := ⟨w5.heap.size, 2, none⟩) hk_bxx).trans bxxc2; have k1_3 := (hx1.cell (p := ⟨w5.heap.size, 3, none⟩) hk_bxx).trans bxxc3; have k1_4 := (hx1.cell (p := ⟨w5.heap.size, 4, none⟩) hk_bxx).trans bxxc4; have k1_5 := (hx1.cell (p := ⟨w.heap.size + 1, 0, none⟩) hk_bxf).trans bxfc0; have k1_6 := (hx1.cell (p := ⟨w.heap.size + 1, 1, none⟩) hk_bxf).trans bxfc1))
    clear k0_0 k0_1 k0_2 k0_3 k0_4 k0_5 k0_6
    clear k1_0 k1_1 k1_2 k1_3 k1_4 k1_5 k1_6
    clear hk_bxx hk_bxf hx0
    clear bxxc0 bxxc1 bxxc2 bxxc3 bxxc4
    clear bxfc0 bxfc1
    have bxa := Hbxa.out
    clear Hbxa
    have bxf := Hbxf.out
    clear Hbxf
    have inx := Hinx.out
    clear Hinx
    have bxx := Hbxx.out
    clear Hbxx
    have B_w6 := HB_.out
    clear HB_
    replace bxa := (hx1.block _ (by omega)).trans bxa
    replace bxf := (hx1.block _ (by omega)).trans bxf
    replace inx := inx.step (Stp.of (lo := 0) (hi := 0) hx1) (.inl (Nat.zero_le _))
    replace bxx := (hx1.block _ (by omega)).trans bxx
    have B_w8 : Below w.heap.size w w8 := B_w6.trans (hx1.mono B_w6.size)
    have hs_w8 : w6.heap.size ≤ w8.heap.size := hx1.size
    clear hx1 B_w6
    clear rdx szx
    clear hW_w6
    have bxac0 : w8.cell? ⟨w.heap.size, 0, none⟩ = some (.int .i64 m.id) := block_cell1 bxa 0 _ rfl
    have bxac1 : w8.cell? ⟨w.heap.size, 1, none⟩ = some (.int .i64 m.lim) := block_cell1 bxa 1 _ rfl
    have bxac2 : w8.cell? ⟨w.heap.size, 2, none⟩ = some (.bool m.dr) := block_cell1 bxa 2 _ rfl
    have bxac3 : w8.cell? ⟨w.heap.size, 3, none⟩ = some (.slice oca m.c.length cca) := block_cell1 bxa 3 _ rfl
    have bxac4 : w8.cell? ⟨w.heap.size, 4, none⟩ = some (.slice ota m.t.length cta) := block_cell1 bxa 4 _ rfl
    have bxxc0 : w8.cell? ⟨w5.heap.size, 0, none⟩ = some (.int .i64 m.id) := block_cell1 bxx 0 _ rfl
    have bxxc1 : w8.cell? ⟨w5.heap.size, 1, none⟩ = some (.int .i64 m.lim) := block_cell1 bxx 1 _ rfl
    have bxxc2 : w8.cell? ⟨w5.heap.size, 2, none⟩ = some (.bool m.dr) := block_cell1 bxx 2 _ rfl
    have bxxc3 : w8.cell? ⟨w5.heap.size, 3, none⟩ = some (.slice ocx m.c.length ccx) := block_cell1 bxx 3 _ rfl
    have bxxc4 : w8.cell? ⟨w5.heap.size, 4, none⟩ = some (.slice otx m.t.length ctx) := block_cell1 bxx 4 _ rfl
    have Hbxa := hide bxa
    clear bxa
    have Hbxf := hide bxf
    clear bxf
    have Hinx := hide inx
    clear inx
    have Hbxx := hide bxx
    clear bxx
    have HB_ := hide B_w8
    clear B_w8
    go_wp2
    have hk_bxa : w.heap.size < w8.heap.size := by omega
    have hk_bxx : w5.heap.size < w8.heap.size := by omega
    go_region_held3 (fun w' => w'.cell? ⟨w.heap.size, 0, none⟩ = some (.int .i64 m.id) ∧ w'.cell? ⟨w.heap.size, 1, none⟩ = some (.int .i64 m.lim) ∧ w'.cell? ⟨w.heap.size, 2, none⟩ = some (.bool m.dr) ∧ w'.cell? ⟨w.heap.size, 3, none⟩ = some (.slice oca m.c.length cca) ∧ w'.cell? ⟨w.heap.size, 4, none⟩ = some (.slice ota m.t.length cta) ∧ w'.cell? ⟨w5.heap.size, 0, none⟩ = some (.int .i64 m.id) ∧ w'.cell? ⟨w5.heap.size, 1, none⟩ = some (.int .i64 m.lim) ∧ w'.cell? ⟨w5.heap.size, 2, none⟩ = some (.bool m.dr) ∧ w'.cell? ⟨w5.heap.size, 3, none⟩ = some (.slice ocx m.c.length ccx) ∧ w'.cell? ⟨w5.heap.size, 4, none⟩ = some (.slice otx m.t.length ctx)) (first | exact ⟨k1_0, k1_1, k1_2, k1_3, k1_4, k1_5, k1_6, k1_7, k1_8, k1_9⟩ | exact ⟨k0_0, k0_1, k0_2, k0_3, k0_4, k0_5, k0_6, k0_7, k0_8, k0_9⟩ | exact ⟨bxac0, bxac1, bxac2, bxac3, bxac4, bxxc0, bxxc1, bxxc2, bxxc3, bxxc4⟩) (first | (go_at_call 29; refine (toAgent_sh _ m w8.drew ((hR.kept (Below.drew HB_.out) (Nat.le_refl _)).le HB_.out.size) hf).mono ?_; rintro e w9 ⟨va, rfl, ina, hb⟩; have hbx : Below w8.heap.size w8 w9 := (Below.drew (Below.refl _ _)).trans hb; have rdx := Hinx.out.rd.kept hbx (by omega); have szx := hbx.size; have hx0 : Below w8.heap.size w8 w9 := (Below.drew (Below.refl _ _)).trans hb; clear hb; have k0_0 := (hx0.cell (p := ⟨w.heap.size, 0, none⟩) hk_bxa).trans bxac0; have k0_1 := (hx0.cell (p := ⟨w.heap.size, 1, none⟩) hk_bxa).trans bxac1; have k0_2 := (hx0.cell (p := ⟨w.heap.size, 2, none⟩) hk_bxa).trans bxac2; have k0_3 := (hx0.cell (p := ⟨w.heap.size, 3, none⟩) hk_bxa).trans bxac3; have k0_4 := (hx0.cell (p := ⟨w.heap.size, 4, none⟩) hk_bxa).trans bxac4; have k0_5 := (hx0.cell (p := ⟨w5.heap.size, 0, none⟩) hk_bxx).trans bxxc0; have k0_6 := (hx0.cell (p := ⟨w5.heap.size, 1, none⟩) hk_bxx).trans bxxc1; have k0_7 := (hx0.cell (p := ⟨w5.heap.size, 2, none⟩) hk_bxx).trans bxxc2; have k0_8 := (hx0.cell (p := ⟨w5.heap.size, 3, none⟩) hk_bxx).trans bxxc3; have k0_9 := (hx0.cell (p := ⟨w5.heap.size, 4, none⟩) hk_bxx).trans bxxc4) | (go_at_call 30; refine (eqAgent_sh _ _ m w9 (rdx.le (by omega)) (ina.rd.le (Nat.le_refl _)) (by omega)).mono ?_; rintro e w10 ⟨rfl, hb⟩; have hx1 : Below w8.heap.size w8 w10 := hx0.trans (hb.mono hx0.size); clear hb; have k1_0 := (hx1.cell (p := ⟨w.heap.size, 0, none⟩) hk_bxa).trans bxac0; have k1_1 := (hx1.cell (p := ⟨w.heap.size, 1, none⟩) hk_bxa).trans bxac1; have k1_2 := (hx1.cell (p := ⟨w.heap.size, 2, none⟩) hk_bxa).trans bxac2; have k1_3 := (hx1.cell (p := ⟨w.heap.size, 3, none⟩) hk_bxa).trans bxac3; have k1_4 := (hx1.cell (p := ⟨w.heap.size, 4, none⟩) hk_bxa).trans bxac4; have k1_5 := (hx1.cell (p := ⟨w5.heap.size, 0, none⟩) hk_bxx).trans bxxc0; have k1_6 := (hx1.cell (p := ⟨w5.heap.size, 1, none⟩) hk_bxx).trans bxxc1; have k1_7 := (hx1.cell (p := ⟨w5.heap.size, 2, none⟩) hk_bxx).trans bxxc2; have k1_8 := (hx1.cell (p := ⟨w5.heap.size, 3, none⟩) hk_bxx).trans bxxc3; have k1_9 := (hx1.cell (p := ⟨w5.heap.size, 4, none⟩) hk_bxx).trans bxxc4))
    clear k0_0 k0_1 k0_2 k0_3 k0_4 k0_5 k0_6 k0_7 k0_8 k0_9
    clear k1_0 k1_1 k1_2 k1_3 k1_4 k1_5 k1_6 k1_7 k1_8 k1_9
    clear hk_bxa hk_bxx hx0
    clear bxac0 bxac1 bxac2 bxac3 bxac4
    clear bxxc0 bxxc1 bxxc2 bxxc3 bxxc4
    have bxa := Hbxa.out
    clear Hbxa
    have bxf := Hbxf.out
    clear Hbxf
    have inx := Hinx.out
    clear Hinx
    have bxx := Hbxx.out
    clear Hbxx
    have B_w8 := HB_.out
    clear HB_
    replace bxa := (hx1.block _ (by omega)).trans bxa
    replace bxf := (hx1.block _ (by omega)).trans bxf
    replace inx := inx.step (Stp.of (lo := 0) (hi := 0) hx1) (.inl (Nat.zero_le _))
    replace bxx := (hx1.block _ (by omega)).trans bxx
    have B_w10 : Below w.heap.size w w10 := B_w8.trans (hx1.mono B_w8.size)
    have hs_w10 : w8.heap.size ≤ w10.heap.size := hx1.size
    clear hx1 B_w8
    clear rdx szx ina hbx
    have Hbxa := hide bxa
    clear bxa
    have Hbxf := hide bxf
    clear bxf
    have Hinx := hide inx
    clear inx
    have Hbxx := hide bxx
    clear bxx
    have HB_ := hide B_w10
    clear B_w10
    go_wp2
    go_ret
    exact ⟨rfl, HB_.out⟩
  · skip
    obtain ⟨vca, vta, rfl, ⟨oca, cca, rfl, _⟩, ⟨ota, cta, rfl, _⟩⟩ := hR0
    obtain ⟨w0, hw0⟩ : ∃ W, ((w.alloc (.cells #[.int .i64 m.id, .int .i64 m.lim, .bool m.dr, .slice oca m.c.length cca, .slice ota m.t.length cta] 58)).alloc (.cells #[.int .i64 a, .int .i64 p] 66)) = W := ⟨_, rfl⟩
    have B_w0 : Below w.heap.size w w0 := by rw [← hw0]; exact (((Below.refl _ _).alloc (Nat.le_refl _) _).alloc (by simp) _)
    have Hb_ := hide B_w0
    have HR := hide hR
    clear B_w0 hR
    have bxac0 : w0.cell? ⟨w.heap.size, 0, none⟩ = some (.int .i64 m.id) := by rw [← hw0]; simp [go_sem]
    have bxac1 : w0.cell? ⟨w.heap.size, 1, none⟩ = some (.int .i64 m.lim) := by rw [← hw0]; simp [go_sem]
    have bxac2 : w0.cell? ⟨w.heap.size, 2, none⟩ = some (.bool m.dr) := by rw [← hw0]; simp [go_sem]
    have bxac3 : w0.cell? ⟨w.heap.size, 3, none⟩ = some (.slice oca m.c.length cca) := by rw [← hw0]; simp [go_sem]
    have bxac4 : w0.cell? ⟨w.heap.size, 4, none⟩ = some (.slice ota m.t.length cta) := by rw [← hw0]; simp [go_sem]
    have bxfc0 : w0.cell? ⟨w.heap.size + 1, 0, none⟩ = some (.int .i64 a) := by rw [← hw0]; simp [go_sem]
    have bxfc1 : w0.cell? ⟨w.heap.size + 1, 1, none⟩ = some (.int .i64 p) := by rw [← hw0]; simp [go_sem]
    go_enter Try.func10, Try.ntmps10
    go_wp2_with fail
    have hR := HR.out
    refine (szAgent_sh _ m w.heap.size w0 (hR.kept Hb_.out (Nat.le_refl _)) hl hg).mono ?_
    rintro e w1 ⟨⟨nn, rfl, hpos, hneg, hn1, hn2⟩, hb_w1⟩
    have hnn := hneg hfit
    have HB := hide (Hb_.out.trans (hb_w1.mono Hb_.out.size))
    clear hpos hneg hb_w1
    go_wp2
    go_ret
    exact ⟨rfl, HB.out⟩

theorem walkFnExactHolds (v : Value) (m : Am) (a p : Int) (w : World) (hR : RdA w.heap.size w v m) (hl : m.c.length ≤ maxLen) (hg : m.t.length ≤ maxLen) :
    Calls Try.prog 10 #[v, flow a p] w fun e w' => e = .returned (.bool true) ∧ Below w.heap.size w w' :=
  lawFnExactHolds v m a p w hR hl hg

set_option maxRecDepth 100000 in
theorem fnExactHolds_lifted (os : Os) (started : os.Started) (H : Type) (enc : TypeId × Value → H) :
    ReturnsInHanded {} Try.checked os 10 .any (Rows.fnExactHoldsSpec.pre6 enc Try.prog Try.f10 Rows.fnExactHoldsRow.domain false) (Rows.fnExactHoldsSpec.post enc Try.prog Try.f10 false true false false) := by
  refine returnsInHanded_of_change (C := Try.checked) own started (by kernel_rfl) Try.func10
    (ChangeSpec.witness6 (enc := enc) (C := Try.checked) false ⟨#[], #[.agg #[.int .i64 0, .int .i64 0, .bool false, .slice none 0 0, .slice none 0 0], .agg #[.int .i64 0, .int .i64 0]], []⟩ 8 (by kernel_rfl) (by kernel_rfl) (by kernel_rfl) (by kernel_rfl)) ?_
  intro W base args ds gs before hval0 hW hcnd _
  have hval : ∀ (j : Nat) t v, Try.f10.params[j]? = some t → args[j]? = some v → Value.okWide Try.prog W .any base t v := hval0
  have hW' := hW
  obtain ⟨p, q, hA0, hV, rfl, hfz, hnd⟩ := hW
  have hA : DataW.TrodAll enc Try.prog W 0 (fun _ => true) true Try.f10.params.toList args.toList ds p := hA0
  rw [Try.params10] at hA hval
  obtain ⟨v0, vs0, d0, ds0, p0, q0, hargs, rfl, rfl, h0, r0⟩ := trodAll_cons hA
  obtain ⟨v1, vs1, d1, ds1, p1, q1, rfl, rfl, rfl, h1, r1⟩ := trodAll_cons r0
  obtain ⟨rfl, rfl, rfl⟩ := trodAll_nil r1
  obtain rfl : args = #[v0, v1] := by cases args; simp_all
  obtain ⟨rfl, rfl⟩ := trodVars_none hV
  have k0 := h0
  have lt0 : ∀ x ∈ p0, x.block < W.heap.size := by obtain ⟨m, hm⟩ := k0; exact DataW.trod_lt m _ _ _ hm
  have k1 := h1
  have lt1 : ∀ x ∈ p1, x.block < W.heap.size := by obtain ⟨m, hm⟩ := k1; exact DataW.trod_lt m _ _ _ hm
  obtain ⟨m0, hR0, hl0, hg0⟩ := open_agent (hval 0 58 v0 rfl rfl) h0
  obtain ⟨a1, b1, rfl⟩ := open_flow (hval 1 66 v1 rfl rfl) h1
  clear hA0 hval0
  refine (walkFnExactHolds v0 m0 a1 b1 W hR0 hl0 hg0  ).mono fun e W' ⟨he, bel⟩ => ?_
  subst he
  exact ⟨_, rfl, _, _, _, [], _, [], hW', trodAll_mk1 (shut_bool Try.underlying4 _), (trodAll_cons_mk (Below.trod laidOut (by kernel_rfl) (of_decide_eq_true (by kernel_rfl)) k0 bel lt0) (trodAll_cons_mk (Below.trod laidOut (by kernel_rfl) (of_decide_eq_true (by kernel_rfl)) k1 bel lt1) trodAll_mk0)), rfl, bel.frame _, fun h => by cases h⟩

theorem fnExactHolds_over : Rows.fnExactHoldsRow.holds Try.pinned (OpenSpec.ofChange Rows.fnExactHoldsSpec) :=
  OpenClaim.holds_of_wide 10 Try.f10 rfl rfl rfl rfl rfl rfl rfl ⟨rfl, rfl, rfl, rfl, rfl⟩ rfl rfl rfl rfl rfl (by kernel_rfl) Try.func10 (by kernel_rfl)
    (of_decide_eq_true (by kernel_rfl)) (by unfold Func.isWrapper; first | (rw [if_pos (by decide +kernel)]; kernel_rfl) | (rw [if_neg (by decide +kernel)]; exact ⟨rfl, rfl⟩))
    (fun os started H enc _ => fnExactHolds_lifted os started H enc)

theorem fnExactHolds_holds : Rows.FnExactHoldsSaid := fnExactHolds_over

end Go.Proofs.Ythcbhfgbplgfiaa
