/- For every table and number the law FnExactExpire answers true, and the table reads as it did: impl.Expire answers as the model's, writes nothing into what it is handed, and its answer owns its memory. No conditions. -/
import Derived.Test.YtncdjmniphnpgaaSExp2
import Derived.Deep.RegionHeld3
import Derived.Deep.CutRange
namespace Go.Proofs.Ytncdjmniphnpgaa
open Go.ChangeShapes Go.WideShapes Go.ChangeAt Go.RowKit Go.Joins
set_option linter.unusedVariables false
set_option linter.unusedSimpArgs false

set_option maxRecDepth 100000 in
set_option maxHeartbeats 16000000 in
theorem lawFnExactExpire (v : Value) (m : List Sl) (x : Int) (w : World) (hR : RdT w.heap.size w v m) (hl : m.length ≤ maxLen) :
    Calls Try.prog 13 #[v, .int .i64 x] w fun e w' => e = .returned (.bool true) ∧ Below w.heap.size w w' := by
  have hR0 := hR
  by_cases hfit : m.length ≤ 1048576
  · have hf : m.length ≤ 1048576 := hfit
    have HS := hide (fun v w h hf => specExpire_sh v m x w h hf)
    have HI := hide (fun v w h hf => implExpire_sh v m x w h hf)
    have hmr := expM_len m x
    generalize expM m x = mr at *
    generalize expN m x = t at *
    obtain ⟨vla, rfl, oa, ca, rfl, _⟩ := hR0
    obtain ⟨w0, hw0⟩ : ∃ W, (w.alloc (.cells #[.slice oa m.length ca] 59)) = W := ⟨_, rfl⟩
    have B_w0 : Below w.heap.size w w0 := by rw [← hw0]; exact ((Below.refl _ _).alloc (Nat.le_refl _) _)
    have hz_w0 : w.heap.size < w0.heap.size := by rw [← hw0]; simp
    have bxa : w0.heap[w.heap.size]? = some (.cells #[.slice oa m.length ca] 59 (0, 0)) := by
      have h := World.alloc_heap_new w (.cells #[.slice oa m.length ca] 59)
      (try rw [World.size_alloc] at h)
      rw [← hw0]
      exact h
    have HR := hide hR
    clear hR
    have bxac0 : w0.cell? ⟨w.heap.size, 0, none⟩ = some (.slice oa m.length ca) := block_cell1 bxa 0 _ rfl
    have Hbxa := hide bxa
    clear bxa
    have HB_ := hide B_w0
    clear B_w0
    go_enter Try.func13, Try.ntmps13
    go_wp2_with fail
    clear bxac0
    have bxa := Hbxa.out
    clear Hbxa
    have B_w0 := HB_.out
    clear HB_
    clear hw0
    have hR := HR.out
    clear HR
    refine (szTable_sh _ m w.heap.size w0 (hR.kept B_w0 (Nat.le_refl _)) hl).mono ?_
    rintro e w1 ⟨⟨nn, rfl, hpos, hneg, hn1, hn2⟩, hb_w1⟩
    have hnn := hpos hfit
    clear hpos hneg
    replace bxa := (hb_w1.block _ (by omega)).trans bxa
    have B_w1 : Below w.heap.size w w1 := B_w0.trans (hb_w1.mono B_w0.size)
    have hs_w1 : w0.heap.size ≤ w1.heap.size := hb_w1.size
    clear hb_w1 B_w0
    have bxac0 : w1.cell? ⟨w.heap.size, 0, none⟩ = some (.slice oa m.length ca) := block_cell1 bxa 0 _ rfl
    have Hbxa := hide bxa
    clear bxa
    have HB_ := hide B_w1
    clear B_w1
    go_wp2_with fail
    clear bxac0
    have bxa := Hbxa.out
    clear Hbxa
    have B_w1 := HB_.out
    clear HB_
    refine (toTable_sh _ m w1 ((hR.kept B_w1 (Nat.le_refl _)).le B_w1.size) hf).mono ?_
    rintro e w2 ⟨v2, rfl, in2, hb_w2⟩
    replace bxa := (hb_w2.block _ (by omega)).trans bxa
    have B_w2 : Below w.heap.size w w2 := B_w1.trans (hb_w2.mono B_w1.size)
    have hs_w2 : w1.heap.size ≤ w2.heap.size := hb_w2.size
    clear hb_w2 B_w1
    have Hbxa := hide bxa
    clear bxa
    have Hin2 := hide in2
    clear in2
    have HB_ := hide B_w2
    clear B_w2
    go_wp2_with fail
    have bxa := Hbxa.out
    clear Hbxa
    have in2 := Hin2.out
    clear Hin2
    have B_w2 := HB_.out
    clear HB_
    refine (HS.out _ w2 (in2.rd.le (by omega)) hf).mono ?_
    rintro e w3 ⟨vw, rfl, inw, hb_w3⟩
    replace bxa := (hb_w3.block _ (by omega)).trans bxa
    replace in2 := in2.step (Stp.of (lo := 0) (hi := 0) hb_w3) (.inl (Nat.zero_le _))
    have B_w3 : Below w.heap.size w w3 := B_w2.trans (hb_w3.mono B_w2.size)
    have hs_w3 : w2.heap.size ≤ w3.heap.size := hb_w3.size
    clear hb_w3 B_w2
    obtain ⟨vlw, rfl, ow, cw, rfl, _⟩ := inw.rd
    obtain ⟨w4, hW_w4⟩ : ∃ W, w3.alloc (.cells #[.slice ow mr.length cw] 25) = W := ⟨_, rfl⟩
    have bxw : w4.heap[w3.heap.size]? = some (.cells #[.slice ow mr.length cw] 25 (0, 0)) := by rw [← hW_w4]; exact World.alloc_heap_new w3 _
    have hb_w4 : Below w3.heap.size w3 w4 := by rw [← hW_w4]; exact (Below.refl _ _).alloc (Nat.le_refl _) _
    have hz_w4 : w3.heap.size < w4.heap.size := by rw [← hW_w4]; simp
    replace bxa := (hb_w4.block _ (by omega)).trans bxa
    replace in2 := in2.step (Stp.of (lo := 0) (hi := 0) hb_w4) (.inl (Nat.zero_le _))
    replace inw := inw.step (Stp.of (lo := 0) (hi := 0) hb_w4) (.inl (Nat.zero_le _))
    have B_w4 : Below w.heap.size w w4 := B_w3.trans (hb_w4.mono B_w3.size)
    have hs_w4 : w3.heap.size ≤ w4.heap.size := hb_w4.size
    clear hb_w4 B_w3
    clear in2
    have bxac0 : w4.cell? ⟨w.heap.size, 0, none⟩ = some (.slice oa m.length ca) := block_cell1 bxa 0 _ rfl
    have Hbxa := hide bxa
    clear bxa
    have Hinw := hide inw
    clear inw
    have Hbxw := hide bxw
    clear bxw
    have HB_ := hide B_w4
    clear B_w4
    go_wp2_with fail
    clear bxac0
    have bxa := Hbxa.out
    clear Hbxa
    have inw := Hinw.out
    clear Hinw
    have bxw := Hbxw.out
    clear Hbxw
    have B_w4 := HB_.out
    clear HB_
    refine (toTable_sh _ m w4 ((hR.kept B_w4 (Nat.le_refl _)).le B_w4.size) hf).mono ?_
    rintro e w5 ⟨vx, rfl, inx, hb_w5⟩
    replace bxa := (hb_w5.block _ (by omega)).trans bxa
    replace inw := inw.step (Stp.of (lo := 0) (hi := 0) hb_w5) (.inl (Nat.zero_le _))
    replace bxw := (hb_w5.block _ (by omega)).trans bxw
    have B_w5 : Below w.heap.size w w5 := B_w4.trans (hb_w5.mono B_w4.size)
    have hs_w5 : w4.heap.size ≤ w5.heap.size := hb_w5.size
    clear hb_w5 B_w4
    obtain ⟨vlx, rfl, ox, cx, rfl, _⟩ := inx.rd
    obtain ⟨w6, hW_w6⟩ : ∃ W, w5.alloc (.cells #[.slice ox m.length cx] 25) = W := ⟨_, rfl⟩
    have bxx : w6.heap[w5.heap.size]? = some (.cells #[.slice ox m.length cx] 25 (0, 0)) := by rw [← hW_w6]; exact World.alloc_heap_new w5 _
    have hb_w6 : Below w5.heap.size w5 w6 := by rw [← hW_w6]; exact (Below.refl _ _).alloc (Nat.le_refl _) _
    have hz_w6 : w5.heap.size < w6.heap.size := by rw [← hW_w6]; simp
    replace bxa := (hb_w6.block _ (by omega)).trans bxa
    replace inw := inw.step (Stp.of (lo := 0) (hi := 0) hb_w6) (.inl (Nat.zero_le _))
    replace bxw := (hb_w6.block _ (by omega)).trans bxw
    replace inx := inx.step (Stp.of (lo := 0) (hi := 0) hb_w6) (.inl (Nat.zero_le _))
    have B_w6 : Below w.heap.size w w6 := B_w5.trans (hb_w6.mono B_w5.size)
    have hs_w6 : w5.heap.size ≤ w6.heap.size := hb_w6.size
    clear hb_w6 B_w5
    have bxxc0 : w6.cell? ⟨w5.heap.size, 0, none⟩ = some (.slice ox m.length cx) := block_cell1 bxx 0 _ rfl
    have Hbxa := hide bxa
    clear bxa
    have Hinw := hide inw
    clear inw
    have Hbxw := hide bxw
    clear bxw
    have Hinx := hide inx
    clear inx
    have Hbxx := hide bxx
    clear bxx
    have HB_ := hide B_w6
    clear B_w6
    go_wp2_with fail
    clear bxxc0
    have bxa := Hbxa.out
    clear Hbxa
    have inw := Hinw.out
    clear Hinw
    have bxw := Hbxw.out
    clear Hbxw
    have inx := Hinx.out
    clear Hinx
    have bxx := Hbxx.out
    clear Hbxx
    have B_w6 := HB_.out
    clear HB_
    refine (HI.out _ w6 (inx.rd.le (by omega)) hf).mono ?_
    rintro e w7 ⟨vg, rfl, ing, hb_w7⟩
    replace bxa := (hb_w7.block _ (by omega)).trans bxa
    replace inw := inw.step (Stp.of (lo := 0) (hi := 0) hb_w7) (.inl (Nat.zero_le _))
    replace bxw := (hb_w7.block _ (by omega)).trans bxw
    replace inx := inx.step (Stp.of (lo := 0) (hi := 0) hb_w7) (.inl (Nat.zero_le _))
    replace bxx := (hb_w7.block _ (by omega)).trans bxx
    have B_w7 : Below w.heap.size w w7 := B_w6.trans (hb_w7.mono B_w6.size)
    have hs_w7 : w6.heap.size ≤ w7.heap.size := hb_w7.size
    clear hb_w7 B_w6
    obtain ⟨vlg, rfl, og, cg, rfl, _⟩ := ing.rd
    obtain ⟨w8, hW_w8⟩ : ∃ W, w7.alloc (.cells #[.slice og mr.length cg] 25) = W := ⟨_, rfl⟩
    have bxg : w8.heap[w7.heap.size]? = some (.cells #[.slice og mr.length cg] 25 (0, 0)) := by rw [← hW_w8]; exact World.alloc_heap_new w7 _
    have hb_w8 : Below w7.heap.size w7 w8 := by rw [← hW_w8]; exact (Below.refl _ _).alloc (Nat.le_refl _) _
    have hz_w8 : w7.heap.size < w8.heap.size := by rw [← hW_w8]; simp
    replace bxa := (hb_w8.block _ (by omega)).trans bxa
    replace inw := inw.step (Stp.of (lo := 0) (hi := 0) hb_w8) (.inl (Nat.zero_le _))
    replace bxw := (hb_w8.block _ (by omega)).trans bxw
    replace inx := inx.step (Stp.of (lo := 0) (hi := 0) hb_w8) (.inl (Nat.zero_le _))
    replace bxx := (hb_w8.block _ (by omega)).trans bxx
    replace ing := ing.step (Stp.of (lo := 0) (hi := 0) hb_w8) (.inl (Nat.zero_le _))
    have B_w8 : Below w.heap.size w w8 := B_w7.trans (hb_w8.mono B_w7.size)
    have hs_w8 : w7.heap.size ≤ w8.heap.size := hb_w8.size
    clear hb_w8 B_w7
    have bxgc0 : w8.cell? ⟨w7.heap.size, 0, none⟩ = some (.slice og mr.length cg) := block_cell1 bxg 0 _ rfl
    have bxwc0 : w8.cell? ⟨w3.heap.size, 0, none⟩ = some (.slice ow mr.length cw) := block_cell1 bxw 0 _ rfl
    have Hbxa := hide bxa
    clear bxa
    have Hinw := hide inw
    clear inw
    have Hbxw := hide bxw
    clear bxw
    have Hinx := hide inx
    clear inx
    have Hbxx := hide bxx
    clear bxx
    have Hing := hide ing
    clear ing
    have Hbxg := hide bxg
    clear bxg
    have HB_ := hide B_w8
    clear B_w8
    go_wp2_with fail
    clear bxgc0
    clear bxwc0
    have bxa := Hbxa.out
    clear Hbxa
    have inw := Hinw.out
    clear Hinw
    have bxw := Hbxw.out
    clear Hbxw
    have inx := Hinx.out
    clear Hinx
    have bxx := Hbxx.out
    clear Hbxx
    have ing := Hing.out
    clear Hing
    have bxg := Hbxg.out
    clear Hbxg
    have B_w8 := HB_.out
    clear HB_
    refine (eqTable_sh _ _ mr w8 (ing.rd.le (by omega)) (inw.rd.le (by omega)) (by omega)).mono ?_
    rintro e w9 ⟨rfl, hb_w9⟩
    replace bxa := (hb_w9.block _ (by omega)).trans bxa
    replace inw := inw.step (Stp.of (lo := 0) (hi := 0) hb_w9) (.inl (Nat.zero_le _))
    replace bxw := (hb_w9.block _ (by omega)).trans bxw
    replace inx := inx.step (Stp.of (lo := 0) (hi := 0) hb_w9) (.inl (Nat.zero_le _))
    replace bxx := (hb_w9.block _ (by omega)).trans bxx
    replace ing := ing.step (Stp.of (lo := 0) (hi := 0) hb_w9) (.inl (Nat.zero_le _))
    replace bxg := (hb_w9.block _ (by omega)).trans bxg
    have B_w9 : Below w.heap.size w w9 := B_w8.trans (hb_w9.mono B_w8.size)
    have hs_w9 : w8.heap.size ≤ w9.heap.size := hb_w9.size
    clear hb_w9 B_w8
    have bxac0 : w9.cell? ⟨w.heap.size, 0, none⟩ = some (.slice oa m.length ca) := block_cell1 bxa 0 _ rfl
    have bxxc0 : w9.cell? ⟨w5.heap.size, 0, none⟩ = some (.slice ox m.length cx) := block_cell1 bxx 0 _ rfl
    have Hbxa := hide bxa
    clear bxa
    have Hinw := hide inw
    clear inw
    have Hbxw := hide bxw
    clear bxw
    have Hinx := hide inx
    clear inx
    have Hbxx := hide bxx
    clear bxx
    have Hing := hide ing
    clear ing
    have Hbxg := hide bxg
    clear bxg
    have HB_ := hide B_w9
    clear B_w9
    go_wp2
    have hk_bxa : w.heap.size < w9.heap.size := by omega
    have hk_bxx : w5.heap.size < w9.heap.size := by omega
    go_region_held3 (fun w' => w'.cell? ⟨w.heap.size, 0, none⟩ = some (.slice oa m.length ca) ∧ w'.cell? ⟨w5.heap.size, 0, none⟩ = some (.slice ox m.length cx)) (first | exact ⟨k1_0, k1_1⟩ | exact ⟨k0_0, k0_1⟩ | exact ⟨bxac0, bxxc0⟩) (first | (go_at_call 42; refine (toTable_sh _ m w9.drew ((hR.kept (Below.drew HB_.out) (Nat.le_refl _)).le HB_.out.size) hf).mono ?_; rintro e w10 ⟨va, rfl, ina, hb⟩; have hbx : Below w9.heap.size w9 w10 := (Below.drew (Below.refl _ _)).trans hb; have rdx := Hinx.out.rd.kept hbx (by omega); have szx := hbx.size; have hx0 : Below w9.heap.size w9 w10 := (Below.drew (Below.refl _ _)).trans hb; clear hb; have k0_0 := (hx0.cell (p := ⟨w.heap.size, 0, none⟩) hk_bxa).trans bxac0; have k0_1 := (hx0.cell (p := ⟨w5.heap.size, 0, none⟩) hk_bxx).trans bxxc0) | (go_at_call 38; refine (eqTable_sh _ _ m w10 (rdx.le (by omega)) (ina.rd.le (Nat.le_refl _)) (by omega)).mono ?_; rintro e w11 ⟨rfl, hb⟩; have hx1 : Below w9.heap.size w9 w11 := hx0.trans (hb.mono hx0.size); clear hb; have k1_0 := (hx1.cell (p := ⟨w.heap.size, 0, none⟩) hk_bxa).trans bxac0; have k1_1 := (hx1.cell (p := ⟨w5.heap.size, 0, none⟩) hk_bxx).trans bxxc0))
    clear k0_0 k0_1
    clear k1_0 k1_1
    clear hk_bxa hk_bxx hx0
    clear bxac0
    clear bxxc0
    have bxa := Hbxa.out
    clear Hbxa
    have inw := Hinw.out
    clear Hinw
    have bxw := Hbxw.out
    clear Hbxw
    have inx := Hinx.out
    clear Hinx
    have bxx := Hbxx.out
    clear Hbxx
    have ing := Hing.out
    clear Hing
    have bxg := Hbxg.out
    clear Hbxg
    have B_w9 := HB_.out
    clear HB_
    replace bxa := (hx1.block _ (by omega)).trans bxa
    replace inw := inw.step (Stp.of (lo := 0) (hi := 0) hx1) (.inl (Nat.zero_le _))
    replace bxw := (hx1.block _ (by omega)).trans bxw
    replace inx := inx.step (Stp.of (lo := 0) (hi := 0) hx1) (.inl (Nat.zero_le _))
    replace bxx := (hx1.block _ (by omega)).trans bxx
    replace ing := ing.step (Stp.of (lo := 0) (hi := 0) hx1) (.inl (Nat.zero_le _))
    replace bxg := (hx1.block _ (by omega)).trans bxg
    have B_w11 : Below w.heap.size w w11 := B_w9.trans (hx1.mono B_w9.size)
    have hs_w11 : w9.heap.size ≤ w11.heap.size := hx1.size
    clear hx1 B_w9
    clear rdx szx ina hbx
    have bxxc0 : w11.cell? ⟨w5.heap.size, 0, none⟩ = some (.slice ox m.length cx) := block_cell1 bxx 0 _ rfl
    have Hbxa := hide bxa
    clear bxa
    have Hinw := hide inw
    clear inw
    have Hbxw := hide bxw
    clear bxw
    have Hinx := hide inx
    clear inx
    have Hbxx := hide bxx
    clear bxx
    have Hing := hide ing
    clear ing
    have Hbxg := hide bxg
    clear bxg
    have HB_ := hide B_w11
    clear B_w11
    go_wp2_with fail
    clear bxxc0
    have bxa := Hbxa.out
    clear Hbxa
    have inw := Hinw.out
    clear Hinw
    have bxw := Hbxw.out
    clear Hbxw
    have inx := Hinx.out
    clear Hinx
    have bxx := Hbxx.out
    clear Hbxx
    have ing := Hing.out
    clear Hing
    have bxg := Hbxg.out
    clear Hbxg
    have B_w11 := HB_.out
    clear HB_
    refine (markTable_sh w4.heap.size w5.heap.size _ m 1 w11 inx (by omega) (by omega) (by omega)).mono ?_
    rintro e w12 ⟨rfl, inx', sp_w12⟩
    replace bxa := sp_w12.box bxa (by omega)
    replace inw := inw.step sp_w12 (by omega)
    replace bxw := sp_w12.box bxw (by omega)
    replace bxx := sp_w12.box bxx (by omega)
    replace ing := ing.step sp_w12 (by omega)
    replace bxg := sp_w12.box bxg (by omega)
    have B_w12 : Below w.heap.size w w12 := B_w11.trans (sp_w12.below (by omega) (by omega))
    have hs_w12 : w11.heap.size ≤ w12.heap.size := sp_w12.size
    clear sp_w12 B_w11
    clear inx
    have inx := inx'
    clear inx'
    clear inx
    clear bxx
    have hk1 : (0 : Int) ≤ 1 + 5 * (m.length : Int) := by omega
    have bxgc0 : w12.cell? ⟨w7.heap.size, 0, none⟩ = some (.slice og mr.length cg) := block_cell1 bxg 0 _ rfl
    have bxwc0 : w12.cell? ⟨w3.heap.size, 0, none⟩ = some (.slice ow mr.length cw) := block_cell1 bxw 0 _ rfl
    have Hbxa := hide bxa
    clear bxa
    have Hinw := hide inw
    clear inw
    have Hbxw := hide bxw
    clear bxw
    have Hing := hide ing
    clear ing
    have Hbxg := hide bxg
    clear bxg
    have HB_ := hide B_w12
    clear B_w12
    go_wp2_with fail
    clear bxgc0
    clear bxwc0
    have bxa := Hbxa.out
    clear Hbxa
    have inw := Hinw.out
    clear Hinw
    have bxw := Hbxw.out
    clear Hbxw
    have ing := Hing.out
    clear Hing
    have bxg := Hbxg.out
    clear Hbxg
    have B_w12 := HB_.out
    clear HB_
    refine (eqTable_sh _ _ mr w12 (ing.rd.le (by omega)) (inw.rd.le (by omega)) (by omega)).mono ?_
    rintro e w13 ⟨rfl, hb_w13⟩
    replace bxa := (hb_w13.block _ (by omega)).trans bxa
    replace inw := inw.step (Stp.of (lo := 0) (hi := 0) hb_w13) (.inl (Nat.zero_le _))
    replace bxw := (hb_w13.block _ (by omega)).trans bxw
    replace ing := ing.step (Stp.of (lo := 0) (hi := 0) hb_w13) (.inl (Nat.zero_le _))
    replace bxg := (hb_w13.block _ (by omega)).trans bxg
    have B_w13 : Below w.heap.size w w13 := B_w12.trans (hb_w13.mono B_w12.size)
    have hs_w13 : w12.heap.size ≤ w13.heap.size := hb_w13.size
    clear hb_w13 B_w12
    have hk2 : (0 : Int) ≤ 1 + 5 * (mr.length : Int) ∧ 1 + 5 * (mr.length : Int) ≤ 10000000 := by omega
    have bxgc0 : w13.cell? ⟨w7.heap.size, 0, none⟩ = some (.slice og mr.length cg) := block_cell1 bxg 0 _ rfl
    have Hbxa := hide bxa
    clear bxa
    have Hinw := hide inw
    clear inw
    have Hbxw := hide bxw
    clear bxw
    have Hing := hide ing
    clear ing
    have Hbxg := hide bxg
    clear bxg
    have HB_ := hide B_w13
    clear B_w13
    go_wp2_with fail
    clear bxgc0
    have bxa := Hbxa.out
    clear Hbxa
    have inw := Hinw.out
    clear Hinw
    have bxw := Hbxw.out
    clear Hbxw
    have ing := Hing.out
    clear Hing
    have bxg := Hbxg.out
    clear Hbxg
    have B_w13 := HB_.out
    clear HB_
    refine (markTable_sh w6.heap.size w7.heap.size _ mr 1 w13 ing (by omega) (by omega) (by omega)).mono ?_
    rintro e w14 ⟨rfl, ing', sp_w14⟩
    replace bxa := sp_w14.box bxa (by omega)
    replace inw := inw.step sp_w14 (by omega)
    replace bxw := sp_w14.box bxw (by omega)
    replace bxg := sp_w14.box bxg (by omega)
    have B_w14 : Below w.heap.size w w14 := B_w13.trans (sp_w14.below (by omega) (by omega))
    have hs_w14 : w13.heap.size ≤ w14.heap.size := sp_w14.size
    clear sp_w14 B_w13
    clear ing
    have ing := ing'
    clear ing'
    have bxgc0 : w14.cell? ⟨w7.heap.size, 0, none⟩ = some (.slice og mr.length cg) := block_cell1 bxg 0 _ rfl
    have Hbxa := hide bxa
    clear bxa
    have Hinw := hide inw
    clear inw
    have Hbxw := hide bxw
    clear bxw
    have Hing := hide ing
    clear ing
    have Hbxg := hide bxg
    clear bxg
    have HB_ := hide B_w14
    clear B_w14
    go_wp2_with fail
    clear bxgc0
    have bxa := Hbxa.out
    clear Hbxa
    have inw := Hinw.out
    clear Hinw
    have bxw := Hbxw.out
    clear Hbxw
    have ing := Hing.out
    clear Hing
    have bxg := Hbxg.out
    clear Hbxg
    have B_w14 := HB_.out
    clear HB_
    refine (heldTable_sh _ mr 1 w14 (ing.rd.le (by omega)) (by omega) (by omega) (by omega)).mono ?_
    rintro e w15 ⟨rfl, hb_w15⟩
    replace bxa := (hb_w15.block _ (by omega)).trans bxa
    replace inw := inw.step (Stp.of (lo := 0) (hi := 0) hb_w15) (.inl (Nat.zero_le _))
    replace bxw := (hb_w15.block _ (by omega)).trans bxw
    replace ing := ing.step (Stp.of (lo := 0) (hi := 0) hb_w15) (.inl (Nat.zero_le _))
    replace bxg := (hb_w15.block _ (by omega)).trans bxg
    have B_w15 : Below w.heap.size w w15 := B_w14.trans (hb_w15.mono B_w14.size)
    have hs_w15 : w14.heap.size ≤ w15.heap.size := hb_w15.size
    clear hb_w15 B_w14
    have bxac0 : w15.cell? ⟨w.heap.size, 0, none⟩ = some (.slice oa m.length ca) := block_cell1 bxa 0 _ rfl
    have Hbxa := hide bxa
    clear bxa
    have Hinw := hide inw
    clear inw
    have Hbxw := hide bxw
    clear bxw
    have Hing := hide ing
    clear ing
    have Hbxg := hide bxg
    clear bxg
    have HB_ := hide B_w15
    clear B_w15
    go_wp2_with fail
    clear bxac0
    have bxa := Hbxa.out
    clear Hbxa
    have inw := Hinw.out
    clear Hinw
    have bxw := Hbxw.out
    clear Hbxw
    have ing := Hing.out
    clear Hing
    have bxg := Hbxg.out
    clear Hbxg
    have B_w15 := HB_.out
    clear HB_
    refine (toTable_sh _ m w15 ((hR.kept B_w15 (Nat.le_refl _)).le B_w15.size) hf).mono ?_
    rintro e w16 ⟨v3, rfl, in3, hb_w16⟩
    replace bxa := (hb_w16.block _ (by omega)).trans bxa
    replace inw := inw.step (Stp.of (lo := 0) (hi := 0) hb_w16) (.inl (Nat.zero_le _))
    replace bxw := (hb_w16.block _ (by omega)).trans bxw
    replace ing := ing.step (Stp.of (lo := 0) (hi := 0) hb_w16) (.inl (Nat.zero_le _))
    replace bxg := (hb_w16.block _ (by omega)).trans bxg
    have B_w16 : Below w.heap.size w w16 := B_w15.trans (hb_w16.mono B_w15.size)
    have hs_w16 : w15.heap.size ≤ w16.heap.size := hb_w16.size
    clear hb_w16 B_w15
    have Hbxa := hide bxa
    clear bxa
    have Hinw := hide inw
    clear inw
    have Hbxw := hide bxw
    clear bxw
    have Hing := hide ing
    clear ing
    have Hbxg := hide bxg
    clear bxg
    have Hin3 := hide in3
    clear in3
    have HB_ := hide B_w16
    clear B_w16
    go_wp2_with fail
    have bxa := Hbxa.out
    clear Hbxa
    have inw := Hinw.out
    clear Hinw
    have bxw := Hbxw.out
    clear Hbxw
    have ing := Hing.out
    clear Hing
    have bxg := Hbxg.out
    clear Hbxg
    have in3 := Hin3.out
    clear Hin3
    have B_w16 := HB_.out
    clear HB_
    refine (HI.out _ w16 (in3.rd.le (by omega)) hf).mono ?_
    rintro e w17 ⟨vh, rfl, inh, hb_w17⟩
    replace bxa := (hb_w17.block _ (by omega)).trans bxa
    replace inw := inw.step (Stp.of (lo := 0) (hi := 0) hb_w17) (.inl (Nat.zero_le _))
    replace bxw := (hb_w17.block _ (by omega)).trans bxw
    replace ing := ing.step (Stp.of (lo := 0) (hi := 0) hb_w17) (.inl (Nat.zero_le _))
    replace bxg := (hb_w17.block _ (by omega)).trans bxg
    replace in3 := in3.step (Stp.of (lo := 0) (hi := 0) hb_w17) (.inl (Nat.zero_le _))
    have B_w17 : Below w.heap.size w w17 := B_w16.trans (hb_w17.mono B_w16.size)
    have hs_w17 : w16.heap.size ≤ w17.heap.size := hb_w17.size
    clear hb_w17 B_w16
    obtain ⟨vlh, rfl, oh, ch, rfl, _⟩ := inh.rd
    obtain ⟨w18, hW_w18⟩ : ∃ W, w17.alloc (.cells #[.slice oh mr.length ch] 25) = W := ⟨_, rfl⟩
    have bxh : w18.heap[w17.heap.size]? = some (.cells #[.slice oh mr.length ch] 25 (0, 0)) := by rw [← hW_w18]; exact World.alloc_heap_new w17 _
    have hb_w18 : Below w17.heap.size w17 w18 := by rw [← hW_w18]; exact (Below.refl _ _).alloc (Nat.le_refl _) _
    have hz_w18 : w17.heap.size < w18.heap.size := by rw [← hW_w18]; simp
    replace bxa := (hb_w18.block _ (by omega)).trans bxa
    replace inw := inw.step (Stp.of (lo := 0) (hi := 0) hb_w18) (.inl (Nat.zero_le _))
    replace bxw := (hb_w18.block _ (by omega)).trans bxw
    replace ing := ing.step (Stp.of (lo := 0) (hi := 0) hb_w18) (.inl (Nat.zero_le _))
    replace bxg := (hb_w18.block _ (by omega)).trans bxg
    replace in3 := in3.step (Stp.of (lo := 0) (hi := 0) hb_w18) (.inl (Nat.zero_le _))
    replace inh := inh.step (Stp.of (lo := 0) (hi := 0) hb_w18) (.inl (Nat.zero_le _))
    have B_w18 : Below w.heap.size w w18 := B_w17.trans (hb_w18.mono B_w17.size)
    have hs_w18 : w17.heap.size ≤ w18.heap.size := hb_w18.size
    clear hb_w18 B_w17
    clear in3
    have bxhc0 : w18.cell? ⟨w17.heap.size, 0, none⟩ = some (.slice oh mr.length ch) := block_cell1 bxh 0 _ rfl
    have bxwc0 : w18.cell? ⟨w3.heap.size, 0, none⟩ = some (.slice ow mr.length cw) := block_cell1 bxw 0 _ rfl
    have Hbxa := hide bxa
    clear bxa
    have Hinw := hide inw
    clear inw
    have Hbxw := hide bxw
    clear bxw
    have Hing := hide ing
    clear ing
    have Hbxg := hide bxg
    clear bxg
    have Hinh := hide inh
    clear inh
    have Hbxh := hide bxh
    clear bxh
    have HB_ := hide B_w18
    clear B_w18
    go_wp2_with fail
    clear bxhc0
    clear bxwc0
    have bxa := Hbxa.out
    clear Hbxa
    have inw := Hinw.out
    clear Hinw
    have bxw := Hbxw.out
    clear Hbxw
    have ing := Hing.out
    clear Hing
    have bxg := Hbxg.out
    clear Hbxg
    have inh := Hinh.out
    clear Hinh
    have bxh := Hbxh.out
    clear Hbxh
    have B_w18 := HB_.out
    clear HB_
    refine (eqTable_sh _ _ mr w18 (inh.rd.le (by omega)) (inw.rd.le (by omega)) (by omega)).mono ?_
    rintro e w19 ⟨rfl, hb_w19⟩
    replace bxa := (hb_w19.block _ (by omega)).trans bxa
    replace inw := inw.step (Stp.of (lo := 0) (hi := 0) hb_w19) (.inl (Nat.zero_le _))
    replace bxw := (hb_w19.block _ (by omega)).trans bxw
    replace ing := ing.step (Stp.of (lo := 0) (hi := 0) hb_w19) (.inl (Nat.zero_le _))
    replace bxg := (hb_w19.block _ (by omega)).trans bxg
    replace inh := inh.step (Stp.of (lo := 0) (hi := 0) hb_w19) (.inl (Nat.zero_le _))
    replace bxh := (hb_w19.block _ (by omega)).trans bxh
    have B_w19 : Below w.heap.size w w19 := B_w18.trans (hb_w19.mono B_w18.size)
    have hs_w19 : w18.heap.size ≤ w19.heap.size := hb_w19.size
    clear hb_w19 B_w18
    clear inh
    clear bxh
    have bxgc0 : w19.cell? ⟨w7.heap.size, 0, none⟩ = some (.slice og mr.length cg) := block_cell1 bxg 0 _ rfl
    have Hbxa := hide bxa
    clear bxa
    have Hinw := hide inw
    clear inw
    have Hbxw := hide bxw
    clear bxw
    have Hing := hide ing
    clear ing
    have Hbxg := hide bxg
    clear bxg
    have HB_ := hide B_w19
    clear B_w19
    go_wp2_with fail
    clear bxgc0
    have bxa := Hbxa.out
    clear Hbxa
    have inw := Hinw.out
    clear Hinw
    have bxw := Hbxw.out
    clear Hbxw
    have ing := Hing.out
    clear Hing
    have bxg := Hbxg.out
    clear Hbxg
    have B_w19 := HB_.out
    clear HB_
    refine (heldTable_sh _ mr 1 w19 (ing.rd.le (by omega)) (by omega) (by omega) (by omega)).mono ?_
    rintro e w20 ⟨rfl, hb_w20⟩
    replace bxa := (hb_w20.block _ (by omega)).trans bxa
    replace inw := inw.step (Stp.of (lo := 0) (hi := 0) hb_w20) (.inl (Nat.zero_le _))
    replace bxw := (hb_w20.block _ (by omega)).trans bxw
    replace ing := ing.step (Stp.of (lo := 0) (hi := 0) hb_w20) (.inl (Nat.zero_le _))
    replace bxg := (hb_w20.block _ (by omega)).trans bxg
    have B_w20 : Below w.heap.size w w20 := B_w19.trans (hb_w20.mono B_w19.size)
    have hs_w20 : w19.heap.size ≤ w20.heap.size := hb_w20.size
    clear hb_w20 B_w19
    have Hbxa := hide bxa
    clear bxa
    have Hinw := hide inw
    clear inw
    have Hbxw := hide bxw
    clear bxw
    have Hing := hide ing
    clear ing
    have Hbxg := hide bxg
    clear bxg
    have HB_ := hide B_w20
    clear B_w20
    go_wp2
    go_ret
    exact ⟨rfl, HB_.out⟩
  · skip
    obtain ⟨vla, rfl, oa, ca, rfl, _⟩ := hR0
    obtain ⟨w0, hw0⟩ : ∃ W, (w.alloc (.cells #[.slice oa m.length ca] 59)) = W := ⟨_, rfl⟩
    have B_w0 : Below w.heap.size w w0 := by rw [← hw0]; exact ((Below.refl _ _).alloc (Nat.le_refl _) _)
    have Hb_ := hide B_w0
    have HR := hide hR
    clear B_w0 hR
    have bxac0 : w0.cell? ⟨w.heap.size, 0, none⟩ = some (.slice oa m.length ca) := by rw [← hw0]; simp [go_sem]
    go_enter Try.func13, Try.ntmps13
    go_wp2_with fail
    have hR := HR.out
    refine (szTable_sh _ m w.heap.size w0 (hR.kept Hb_.out (Nat.le_refl _)) hl).mono ?_
    rintro e w1 ⟨⟨nn, rfl, hpos, hneg, hn1, hn2⟩, hb_w1⟩
    have hnn := hneg hfit
    have HB := hide (Hb_.out.trans (hb_w1.mono Hb_.out.size))
    clear hpos hneg hb_w1
    go_wp2
    go_ret
    exact ⟨rfl, HB.out⟩

theorem walkFnExactExpire (o : Option Addr) (cap : Nat) (l : List Sl) (x : Int) (w : World) (hm : l.length ≤ maxLen) (hR : RdS w.heap.size w o l) :
    Calls Try.prog 13 #[tab (.slice o l.length cap), .int .i64 x] w fun e w' => e = .returned (.bool true) ∧ Below w.heap.size w w' :=
  lawFnExactExpire _ l x w ⟨_, rfl, o, cap, rfl, hR⟩ hm

set_option maxRecDepth 100000 in
theorem fnExactExpire_lifted (os : Os) (started : os.Started) (H : Type) (enc : TypeId × Value → H) :
    ReturnsInHanded {} Try.checked os 13 .any (Rows.fnExactExpireSpec.pre6 enc Try.prog Try.f13 Rows.fnExactExpireRow.domain false) (Rows.fnExactExpireSpec.post enc Try.prog Try.f13 false true false false) := by
  refine returnsInHanded_of_change (C := Try.checked) own started (by kernel_rfl) Try.func13
    (ChangeSpec.witness6 (enc := enc) (C := Try.checked) false ⟨#[], #[.agg #[.slice none 0 0], .int .i64 0], []⟩ 8 (by kernel_rfl) (by kernel_rfl) (by kernel_rfl) (by kernel_rfl)) ?_
  intro W base args ds gs before hval0 hW hcnd _
  have hval : ∀ (j : Nat) t v, Try.f13.params[j]? = some t → args[j]? = some v → Value.okWide Try.prog W .any base t v := hval0
  have hW' := hW
  obtain ⟨p, q, hA0, hV, rfl, hfz, hnd⟩ := hW
  have hA : DataW.TrodAll enc Try.prog W 0 (fun _ => true) true Try.f13.params.toList args.toList ds p := hA0
  rw [Try.params13] at hA hval
  obtain ⟨v0, vs0, d0, ds0, p0, q0, hargs, rfl, rfl, h0, r0⟩ := trodAll_cons hA
  obtain ⟨v1, vs1, d1, ds1, p1, q1, rfl, rfl, rfl, h1, r1⟩ := trodAll_cons r0
  obtain ⟨rfl, rfl, rfl⟩ := trodAll_nil r1
  obtain rfl : args = #[v0, v1] := by cases args; simp_all
  obtain ⟨rfl, rfl⟩ := trodVars_none hV
  have k0 := h0
  have lt0 : ∀ x ∈ p0, x.block < W.heap.size := by obtain ⟨m, hm⟩ := k0; exact DataW.trod_lt m _ _ _ hm
  have k1 := h1
  have lt1 : ∀ x ∈ p1, x.block < W.heap.size := by obtain ⟨m, hm⟩ := k1; exact DataW.trod_lt m _ _ _ hm
  obtain ⟨o0, cap0, l0, rfl, hm0, hR0⟩ := open_table (hval 0 59 v0 rfl rfl) h0
  obtain ⟨a1, rfl, _, _, w1⟩ := open_int Try.underlying3 (hval 1 3 v1 rfl rfl) h1
  clear hA0 hval0
  refine (walkFnExactExpire o0 cap0 l0 a1 W hm0 hR0  ).mono fun e W' ⟨he, bel⟩ => ?_
  subst he
  exact ⟨_, rfl, _, _, _, [], _, [], hW', trodAll_mk1 (shut_bool Try.underlying4 _), (trodAll_cons_mk (Below.trod laidOut (by kernel_rfl) (of_decide_eq_true (by kernel_rfl)) k0 bel lt0) (trodAll_cons_mk (Below.trod laidOut (by kernel_rfl) (of_decide_eq_true (by kernel_rfl)) k1 bel lt1) trodAll_mk0)), rfl, bel.frame _, fun h => by cases h⟩

theorem fnExactExpire_over : Rows.fnExactExpireRow.holds Try.pinned (OpenSpec.ofChange Rows.fnExactExpireSpec) :=
  OpenClaim.holds_of_wide 13 Try.f13 rfl rfl rfl rfl rfl rfl rfl ⟨rfl, rfl, rfl, rfl, rfl⟩ rfl rfl rfl rfl rfl (by kernel_rfl) Try.func13 (by kernel_rfl)
    (of_decide_eq_true (by kernel_rfl)) (by unfold Func.isWrapper; first | (rw [if_pos (by decide +kernel)]; kernel_rfl) | (rw [if_neg (by decide +kernel)]; exact ⟨rfl, rfl⟩))
    (fun os started H enc _ => fnExactExpire_lifted os started H enc)

theorem fnExactExpire_holds : Rows.FnExactExpireSaid := fnExactExpire_over

end Go.Proofs.Ytncdjmniphnpgaa
