/- For every table the law FnExactFlowsOf answers true, and the table reads as it did: impl.FlowsOf answers as the model's, writes nothing into what it is handed, and its answer owns its memory. No conditions. -/
import Derived.Test.YtncdjmniphnpgaaSFlowsI
import Derived.Deep.RegionHeld3
namespace Go.Proofs.Ytncdjmniphnpgaa
open Go.ChangeShapes Go.WideShapes Go.ChangeAt Go.RowKit Go.Joins
set_option linter.unusedVariables false
set_option linter.unusedSimpArgs false

set_option maxRecDepth 100000 in
set_option maxHeartbeats 8000000 in
theorem lawFnExactFlowsOf (v : Value) (m : List Sl) (w : World) (hR : RdT w.heap.size w v m) (hl : m.length ≤ maxLen) :
    Calls Try.prog 16 #[v] w fun e w' => e = .returned (.bool true) ∧ Below w.heap.size w w' := by
  have hR0 := hR
  by_cases hfit : m.length ≤ 1048576
  · have hf : m.length ≤ 1048576 := hfit
    have HS := hide (fun v w h (hc : capT v) => specFlowsOf_sh v m w h hf)
    have HI := hide (fun v w h (hc : capT v) => implFlowsOf_sh v m w h hf)
    have hmr := flowsM_len m
    generalize flowsM m = mr at *
    obtain ⟨vla, rfl, oa, ca, rfl, _⟩ := hR0
    have bxa : (w.alloc (.cells #[.slice oa m.length ca] 59)).heap[w.heap.size]? = some (.cells #[.slice oa m.length ca] 59 (0, 0)) := World.alloc_heap_new w (.cells #[.slice oa m.length ca] 59)
    have hb_w0 : Below w.heap.size w (w.alloc (.cells #[.slice oa m.length ca] 59)) := (Below.refl _ _).alloc (Nat.le_refl _) _
    have hz_w0 : w.heap.size < (w.alloc (.cells #[.slice oa m.length ca] 59)).heap.size := by simp
    have Hbxa := hide bxa
    have Hb_ := hide hb_w0
    have HR := hide hR
    clear bxa hb_w0 hR
    go_enter Try.func16, Try.ntmps16
    go_wp2_with fail
    have bxa := Hbxa.out
    have hb_w0 := Hb_.out
    have hR := HR.out
    clear Hbxa Hb_ HR
    generalize w.alloc (.cells #[.slice oa m.length ca] 59) = w0 at *
    have B_w0 := hb_w0
    clear hb_w0
    refine (szTable_sh _ m w.heap.size w0 (hR.kept B_w0 (Nat.le_refl _)) hl).mono ?_
    rintro e w1 ⟨⟨nn, rfl, hpos, hneg, hn1, hn2⟩, hb_w1⟩
    have hnn := hpos hfit
    clear hpos hneg
    replace bxa := (hb_w1.block _ (by omega)).trans bxa
    have B_w1 : Below w.heap.size w w1 := B_w0.trans (hb_w1.mono B_w0.size)
    have hs_w1 : w0.heap.size ≤ w1.heap.size := hb_w1.size
    clear hb_w1 B_w0
    have bxac0 : w1.cell? ⟨w.heap.size, 0, none⟩ = some (.slice oa m.length ca) := block_cell1 bxa 0 _ rfl
    have Hbxa := hide bxa
    clear bxa
    have HB_ := hide B_w1
    clear B_w1
    go_wp2_with fail
    clear bxac0
    have bxa := Hbxa.out
    clear Hbxa
    have B_w1 := HB_.out
    clear HB_
    refine (toTable_sh _ m w1 ((hR.kept B_w1 (Nat.le_refl _)).le B_w1.size) hf).mono ?_
    rintro e w2 ⟨v2, rfl, in2, hb_w2⟩
    replace bxa := (hb_w2.block _ (by omega)).trans bxa
    have B_w2 : Below w.heap.size w w2 := B_w1.trans (hb_w2.mono B_w1.size)
    have hs_w2 : w1.heap.size ≤ w2.heap.size := hb_w2.size
    clear hb_w2 B_w1
    have Hbxa := hide bxa
    clear bxa
    have Hin2 := hide in2
    clear in2
    have HB_ := hide B_w2
    clear B_w2
    go_wp2_with fail
    have bxa := Hbxa.out
    clear Hbxa
    have in2 := Hin2.out
    clear Hin2
    have B_w2 := HB_.out
    clear HB_
    refine (HS.out _ w2 (in2.rd.le (by omega)) in2.cap).mono ?_
    rintro e w3 ⟨vw, rfl, inw, hb_w3⟩
    replace bxa := (hb_w3.block _ (by omega)).trans bxa
    replace in2 := in2.step (Stp.of (lo := 0) (hi := 0) hb_w3) (.inl (Nat.zero_le _))
    have B_w3 : Below w.heap.size w w3 := B_w2.trans (hb_w3.mono B_w2.size)
    have hs_w3 : w2.heap.size ≤ w3.heap.size := hb_w3.size
    clear hb_w3 B_w2
    clear in2
    have bxac0 : w3.cell? ⟨w.heap.size, 0, none⟩ = some (.slice oa m.length ca) := block_cell1 bxa 0 _ rfl
    have Hbxa := hide bxa
    clear bxa
    have Hinw := hide inw
    clear inw
    have HB_ := hide B_w3
    clear B_w3
    go_wp2_with fail
    clear bxac0
    have bxa := Hbxa.out
    clear Hbxa
    have inw := Hinw.out
    clear Hinw
    have B_w3 := HB_.out
    clear HB_
    refine (toTable_sh _ m w3 ((hR.kept B_w3 (Nat.le_refl _)).le B_w3.size) hf).mono ?_
    rintro e w4 ⟨vx, rfl, inx, hb_w4⟩
    replace bxa := (hb_w4.block _ (by omega)).trans bxa
    replace inw := inw.step (Stp.of (lo := 0) (hi := 0) hb_w4) (.inl (Nat.zero_le _))
    have B_w4 : Below w.heap.size w w4 := B_w3.trans (hb_w4.mono B_w3.size)
    have hs_w4 : w3.heap.size ≤ w4.heap.size := hb_w4.size
    clear hb_w4 B_w3
    obtain ⟨vlx, rfl, ox, cx, rfl, _⟩ := inx.rd
    have bxx : (w4.alloc (.cells #[.slice ox m.length cx] 25)).heap[w4.heap.size]? = some (.cells #[.slice ox m.length cx] 25 (0, 0)) := World.alloc_heap_new w4 (.cells #[.slice ox m.length cx] 25)
    have hb_w5 : Below w4.heap.size w4 (w4.alloc (.cells #[.slice ox m.length cx] 25)) := (Below.refl _ _).alloc (Nat.le_refl _) _
    have hz_w5 : w4.heap.size < (w4.alloc (.cells #[.slice ox m.length cx] 25)).heap.size := by simp
    have bxxc0 : (w4.alloc (.cells #[.slice ox m.length cx] 25)).cell? ⟨w4.heap.size, 0, none⟩ = some (.slice ox m.length cx) := block_cell1 bxx 0 _ rfl
    have Hbxx := hide bxx
    have Hb_ := hide hb_w5
    clear bxx hb_w5
    have Hbxa := hide bxa
    clear bxa
    have Hinw := hide inw
    clear inw
    have Hinx := hide inx
    clear inx
    have HB_ := hide B_w4
    clear B_w4
    go_wp2_with fail
    clear bxxc0
    have bxa := Hbxa.out
    clear Hbxa
    have inw := Hinw.out
    clear Hinw
    have inx := Hinx.out
    clear Hinx
    have B_w4 := HB_.out
    clear HB_
    have bxx := Hbxx.out
    have hb_w5 := Hb_.out
    clear Hbxx Hb_
    generalize w4.alloc (.cells #[.slice ox m.length cx] 25) = w5 at *
    replace bxa := (hb_w5.block _ (by omega)).trans bxa
    replace inw := inw.step (Stp.of (lo := 0) (hi := 0) hb_w5) (.inl (Nat.zero_le _))
    replace inx := inx.step (Stp.of (lo := 0) (hi := 0) hb_w5) (.inl (Nat.zero_le _))
    have B_w5 : Below w.heap.size w w5 := B_w4.trans (hb_w5.mono B_w4.size)
    have hs_w5 : w4.heap.size ≤ w5.heap.size := hb_w5.size
    clear hb_w5 B_w4
    refine (HI.out _ w5 (inx.rd.le (by omega)) inx.cap).mono ?_
    rintro e w6 ⟨vg, rfl, ing, hb_w6⟩
    replace bxa := (hb_w6.block _ (by omega)).trans bxa
    replace inw := inw.step (Stp.of (lo := 0) (hi := 0) hb_w6) (.inl (Nat.zero_le _))
    replace inx := inx.step (Stp.of (lo := 0) (hi := 0) hb_w6) (.inl (Nat.zero_le _))
    replace bxx := (hb_w6.block _ (by omega)).trans bxx
    have B_w6 : Below w.heap.size w w6 := B_w5.trans (hb_w6.mono B_w5.size)
    have hs_w6 : w5.heap.size ≤ w6.heap.size := hb_w6.size
    clear hb_w6 B_w5
    have Hbxa := hide bxa
    clear bxa
    have Hinw := hide inw
    clear inw
    have Hinx := hide inx
    clear inx
    have Hbxx := hide bxx
    clear bxx
    have Hing := hide ing
    clear ing
    have HB_ := hide B_w6
    clear B_w6
    go_wp2_with fail
    have bxa := Hbxa.out
    clear Hbxa
    have inw := Hinw.out
    clear Hinw
    have inx := Hinx.out
    clear Hinx
    have bxx := Hbxx.out
    clear Hbxx
    have ing := Hing.out
    clear Hing
    have B_w6 := HB_.out
    clear HB_
    refine (eqFlowS_sh _ _ mr w6 (ing.rd.le (by omega)) (inw.rd.le (by omega)) (by omega)).mono ?_
    rintro e w7 ⟨rfl, hb_w7⟩
    replace bxa := (hb_w7.block _ (by omega)).trans bxa
    replace inw := inw.step (Stp.of (lo := 0) (hi := 0) hb_w7) (.inl (Nat.zero_le _))
    replace inx := inx.step (Stp.of (lo := 0) (hi := 0) hb_w7) (.inl (Nat.zero_le _))
    replace bxx := (hb_w7.block _ (by omega)).trans bxx
    replace ing := ing.step (Stp.of (lo := 0) (hi := 0) hb_w7) (.inl (Nat.zero_le _))
    have B_w7 : Below w.heap.size w w7 := B_w6.trans (hb_w7.mono B_w6.size)
    have hs_w7 : w6.heap.size ≤ w7.heap.size := hb_w7.size
    clear hb_w7 B_w6
    have bxac0 : w7.cell? ⟨w.heap.size, 0, none⟩ = some (.slice oa m.length ca) := block_cell1 bxa 0 _ rfl
    have bxxc0 : w7.cell? ⟨w4.heap.size, 0, none⟩ = some (.slice ox m.length cx) := block_cell1 bxx 0 _ rfl
    have Hbxa := hide bxa
    clear bxa
    have Hinw := hide inw
    clear inw
    have Hinx := hide inx
    clear inx
    have Hbxx := hide bxx
    clear bxx
    have Hing := hide ing
    clear ing
    have HB_ := hide B_w7
    clear B_w7
    go_wp2
    have hka : w.heap.size < w7.heap.size := by omega
    have hkx : w4.heap.size < w7.heap.size := by omega
    go_region_held3 (fun w' => w'.cell? ⟨w.heap.size, 0, none⟩ = some (.slice oa m.length ca) ∧ w'.cell? ⟨w4.heap.size, 0, none⟩ = some (.slice ox m.length cx)) (first | exact ⟨q0, q1⟩ | exact ⟨p0, p1⟩ | exact ⟨bxac0, bxxc0⟩) (first | (go_at_call 42; refine (toTable_sh _ m w7.drew ((hR.kept (Below.drew HB_.out) (Nat.le_refl _)).le HB_.out.size) hf).mono ?_; rintro e w8 ⟨va, rfl, ina, hba⟩; replace hba : Below w7.heap.size w7 w8 := (Below.drew (Below.refl _ _)).trans hba; have p0 := (hba.cell (p := ⟨w.heap.size, 0, none⟩) hka).trans bxac0; have p1 := (hba.cell (p := ⟨w4.heap.size, 0, none⟩) hkx).trans bxxc0) | (go_at_call 38; refine (eqTable_sh _ _ m w8 ((Hinx.out.rd.kept hba (by omega)).le (by have := hba.size; omega)) (ina.rd.le (Nat.le_refl _)) (by omega)).mono ?_; rintro e w9 ⟨rfl, hbb⟩; replace hbb : Below w7.heap.size w7 w9 := hba.trans (hbb.mono hba.size); have q0 := (hbb.cell (p := ⟨w.heap.size, 0, none⟩) hka).trans bxac0; have q1 := (hbb.cell (p := ⟨w4.heap.size, 0, none⟩) hkx).trans bxxc0))
    clear p0 q0 p1 q1 hka hkx ina hba
    clear bxac0
    clear bxxc0
    have bxa := Hbxa.out
    clear Hbxa
    have inw := Hinw.out
    clear Hinw
    have inx := Hinx.out
    clear Hinx
    have bxx := Hbxx.out
    clear Hbxx
    have ing := Hing.out
    clear Hing
    have B_w7 := HB_.out
    clear HB_
    replace bxa := (hbb.block _ (by omega)).trans bxa
    replace inw := inw.step (Stp.of (lo := 0) (hi := 0) hbb) (.inl (Nat.zero_le _))
    replace inx := inx.step (Stp.of (lo := 0) (hi := 0) hbb) (.inl (Nat.zero_le _))
    replace bxx := (hbb.block _ (by omega)).trans bxx
    replace ing := ing.step (Stp.of (lo := 0) (hi := 0) hbb) (.inl (Nat.zero_le _))
    have B_w9 : Below w.heap.size w w9 := B_w7.trans (hbb.mono B_w7.size)
    have hs_w9 : w7.heap.size ≤ w9.heap.size := hbb.size
    clear hbb B_w7
    have bxxc0 : w9.cell? ⟨w4.heap.size, 0, none⟩ = some (.slice ox m.length cx) := block_cell1 bxx 0 _ rfl
    have Hbxa := hide bxa
    clear bxa
    have Hinw := hide inw
    clear inw
    have Hinx := hide inx
    clear inx
    have Hbxx := hide bxx
    clear bxx
    have Hing := hide ing
    clear ing
    have HB_ := hide B_w9
    clear B_w9
    go_wp2_with fail
    clear bxxc0
    have bxa := Hbxa.out
    clear Hbxa
    have inw := Hinw.out
    clear Hinw
    have inx := Hinx.out
    clear Hinx
    have bxx := Hbxx.out
    clear Hbxx
    have ing := Hing.out
    clear Hing
    have B_w9 := HB_.out
    clear HB_
    refine (markTable_sh w3.heap.size w4.heap.size _ m 1 w9 inx (by omega) (by omega) (by omega)).mono ?_
    rintro e w10 ⟨rfl, _, sp_w10⟩
    clear bxx
    replace bxa := sp_w10.box bxa (by omega)
    replace inw := inw.step sp_w10 (by omega)
    replace ing := ing.step sp_w10 (by omega)
    have B_w10 : Below w.heap.size w w10 := B_w9.trans (sp_w10.below (by omega) (by omega))
    have hs_w10 : w9.heap.size ≤ w10.heap.size := sp_w10.size
    clear sp_w10 B_w9
    clear inx
    have hk1 : (0 : Int) ≤ 1 + 5 * (m.length : Int) := by omega
    have Hbxa := hide bxa
    clear bxa
    have Hinw := hide inw
    clear inw
    have Hing := hide ing
    clear ing
    have HB_ := hide B_w10
    clear B_w10
    go_wp2_with fail
    have bxa := Hbxa.out
    clear Hbxa
    have inw := Hinw.out
    clear Hinw
    have ing := Hing.out
    clear Hing
    have B_w10 := HB_.out
    clear HB_
    refine (eqFlowS_sh _ _ mr w10 (ing.rd.le (by omega)) (inw.rd.le (by omega)) (by omega)).mono ?_
    rintro e w11 ⟨rfl, hb_w11⟩
    replace bxa := (hb_w11.block _ (by omega)).trans bxa
    replace inw := inw.step (Stp.of (lo := 0) (hi := 0) hb_w11) (.inl (Nat.zero_le _))
    replace ing := ing.step (Stp.of (lo := 0) (hi := 0) hb_w11) (.inl (Nat.zero_le _))
    have B_w11 : Below w.heap.size w w11 := B_w10.trans (hb_w11.mono B_w10.size)
    have hs_w11 : w10.heap.size ≤ w11.heap.size := hb_w11.size
    clear hb_w11 B_w10
    have Hbxa := hide bxa
    clear bxa
    have Hinw := hide inw
    clear inw
    have Hing := hide ing
    clear ing
    have HB_ := hide B_w11
    clear B_w11
    go_wp2_with fail
    have bxa := Hbxa.out
    clear Hbxa
    have inw := Hinw.out
    clear Hinw
    have ing := Hing.out
    clear Hing
    have B_w11 := HB_.out
    clear HB_
    refine (markFlowS_sh w5.heap.size w6.heap.size _ mr 1 w11 ing (by omega) (by omega) (by omega)).mono ?_
    rintro e w12 ⟨rfl, ing', sp_w12⟩
    replace bxa := sp_w12.box bxa (by omega)
    replace inw := inw.step sp_w12 (by omega)
    have B_w12 : Below w.heap.size w w12 := B_w11.trans (sp_w12.below (by omega) (by omega))
    have hs_w12 : w11.heap.size ≤ w12.heap.size := sp_w12.size
    clear sp_w12 B_w11
    clear ing
    have ing := ing'
    clear ing'
    have hk2 : (0 : Int) ≤ 1 + 2 * (mr.length : Int) ∧ 1 + 2 * (mr.length : Int) ≤ 10000000 := by omega
    have Hbxa := hide bxa
    clear bxa
    have Hinw := hide inw
    clear inw
    have Hing := hide ing
    clear ing
    have HB_ := hide B_w12
    clear B_w12
    go_wp2_with fail
    have bxa := Hbxa.out
    clear Hbxa
    have inw := Hinw.out
    clear Hinw
    have ing := Hing.out
    clear Hing
    have B_w12 := HB_.out
    clear HB_
    refine (heldFlowS_sh _ mr 1 w12 (ing.rd.le (by omega)) (by omega) (by omega) (by omega)).mono ?_
    rintro e w13 ⟨rfl, hb_w13⟩
    replace bxa := (hb_w13.block _ (by omega)).trans bxa
    replace inw := inw.step (Stp.of (lo := 0) (hi := 0) hb_w13) (.inl (Nat.zero_le _))
    replace ing := ing.step (Stp.of (lo := 0) (hi := 0) hb_w13) (.inl (Nat.zero_le _))
    have B_w13 : Below w.heap.size w w13 := B_w12.trans (hb_w13.mono B_w12.size)
    have hs_w13 : w12.heap.size ≤ w13.heap.size := hb_w13.size
    clear hb_w13 B_w12
    have bxac0 : w13.cell? ⟨w.heap.size, 0, none⟩ = some (.slice oa m.length ca) := block_cell1 bxa 0 _ rfl
    have Hbxa := hide bxa
    clear bxa
    have Hinw := hide inw
    clear inw
    have Hing := hide ing
    clear ing
    have HB_ := hide B_w13
    clear B_w13
    go_wp2_with fail
    clear bxac0
    have bxa := Hbxa.out
    clear Hbxa
    have inw := Hinw.out
    clear Hinw
    have ing := Hing.out
    clear Hing
    have B_w13 := HB_.out
    clear HB_
    refine (toTable_sh _ m w13 ((hR.kept B_w13 (Nat.le_refl _)).le B_w13.size) hf).mono ?_
    rintro e w14 ⟨vy, rfl, iny, hb_w14⟩
    replace bxa := (hb_w14.block _ (by omega)).trans bxa
    replace inw := inw.step (Stp.of (lo := 0) (hi := 0) hb_w14) (.inl (Nat.zero_le _))
    replace ing := ing.step (Stp.of (lo := 0) (hi := 0) hb_w14) (.inl (Nat.zero_le _))
    have B_w14 : Below w.heap.size w w14 := B_w13.trans (hb_w14.mono B_w13.size)
    have hs_w14 : w13.heap.size ≤ w14.heap.size := hb_w14.size
    clear hb_w14 B_w13
    have Hbxa := hide bxa
    clear bxa
    have Hinw := hide inw
    clear inw
    have Hing := hide ing
    clear ing
    have Hiny := hide iny
    clear iny
    have HB_ := hide B_w14
    clear B_w14
    go_wp2_with fail
    have bxa := Hbxa.out
    clear Hbxa
    have inw := Hinw.out
    clear Hinw
    have ing := Hing.out
    clear Hing
    have iny := Hiny.out
    clear Hiny
    have B_w14 := HB_.out
    clear HB_
    refine (HI.out _ w14 (iny.rd.le (by omega)) iny.cap).mono ?_
    rintro e w15 ⟨vh, rfl, inh, hb_w15⟩
    replace bxa := (hb_w15.block _ (by omega)).trans bxa
    replace inw := inw.step (Stp.of (lo := 0) (hi := 0) hb_w15) (.inl (Nat.zero_le _))
    replace ing := ing.step (Stp.of (lo := 0) (hi := 0) hb_w15) (.inl (Nat.zero_le _))
    replace iny := iny.step (Stp.of (lo := 0) (hi := 0) hb_w15) (.inl (Nat.zero_le _))
    have B_w15 : Below w.heap.size w w15 := B_w14.trans (hb_w15.mono B_w14.size)
    have hs_w15 : w14.heap.size ≤ w15.heap.size := hb_w15.size
    clear hb_w15 B_w14
    clear iny
    have Hbxa := hide bxa
    clear bxa
    have Hinw := hide inw
    clear inw
    have Hing := hide ing
    clear ing
    have Hinh := hide inh
    clear inh
    have HB_ := hide B_w15
    clear B_w15
    go_wp2_with fail
    have bxa := Hbxa.out
    clear Hbxa
    have inw := Hinw.out
    clear Hinw
    have ing := Hing.out
    clear Hing
    have inh := Hinh.out
    clear Hinh
    have B_w15 := HB_.out
    clear HB_
    refine (eqFlowS_sh _ _ mr w15 (inh.rd.le (by omega)) (inw.rd.le (by omega)) (by omega)).mono ?_
    rintro e w16 ⟨rfl, hb_w16⟩
    replace bxa := (hb_w16.block _ (by omega)).trans bxa
    replace inw := inw.step (Stp.of (lo := 0) (hi := 0) hb_w16) (.inl (Nat.zero_le _))
    replace ing := ing.step (Stp.of (lo := 0) (hi := 0) hb_w16) (.inl (Nat.zero_le _))
    replace inh := inh.step (Stp.of (lo := 0) (hi := 0) hb_w16) (.inl (Nat.zero_le _))
    have B_w16 : Below w.heap.size w w16 := B_w15.trans (hb_w16.mono B_w15.size)
    have hs_w16 : w15.heap.size ≤ w16.heap.size := hb_w16.size
    clear hb_w16 B_w15
    clear inh
    have Hbxa := hide bxa
    clear bxa
    have Hinw := hide inw
    clear inw
    have Hing := hide ing
    clear ing
    have HB_ := hide B_w16
    clear B_w16
    go_wp2_with fail
    have bxa := Hbxa.out
    clear Hbxa
    have inw := Hinw.out
    clear Hinw
    have ing := Hing.out
    clear Hing
    have B_w16 := HB_.out
    clear HB_
    refine (heldFlowS_sh _ mr 1 w16 (ing.rd.le (by omega)) (by omega) (by omega) (by omega)).mono ?_
    rintro e w17 ⟨rfl, hb_w17⟩
    replace bxa := (hb_w17.block _ (by omega)).trans bxa
    replace inw := inw.step (Stp.of (lo := 0) (hi := 0) hb_w17) (.inl (Nat.zero_le _))
    replace ing := ing.step (Stp.of (lo := 0) (hi := 0) hb_w17) (.inl (Nat.zero_le _))
    have B_w17 : Below w.heap.size w w17 := B_w16.trans (hb_w17.mono B_w16.size)
    have hs_w17 : w16.heap.size ≤ w17.heap.size := hb_w17.size
    clear hb_w17 B_w16
    have Hbxa := hide bxa
    clear bxa
    have Hinw := hide inw
    clear inw
    have Hing := hide ing
    clear ing
    have HB_ := hide B_w17
    clear B_w17
    go_wp2
    go_ret
    exact ⟨rfl, HB_.out⟩
  · skip
    obtain ⟨vla, rfl, oa, ca, rfl, _⟩ := hR0
    have hb_w0 : Below w.heap.size w (w.alloc (.cells #[.slice oa m.length ca] 59)) := (Below.refl _ _).alloc (Nat.le_refl _) _
    have Hb_ := hide hb_w0
    have HR := hide hR
    clear hb_w0 hR
    go_enter Try.func16, Try.ntmps16
    go_wp2_with fail
    have hb_w0 := Hb_.out
    have hR := HR.out
    generalize w.alloc (.cells #[.slice oa m.length ca] 59) = w0 at *
    refine (szTable_sh _ m w.heap.size w0 (hR.kept hb_w0 (Nat.le_refl _)) hl).mono ?_
    rintro e w1 ⟨⟨nn, rfl, hpos, hneg, hn1, hn2⟩, hb_w1⟩
    have hnn := hneg hfit
    have HB := hide (hb_w0.trans (hb_w1.mono hb_w0.size))
    clear hpos hneg hb_w0 hb_w1
    go_wp2
    go_ret
    exact ⟨rfl, HB.out⟩

theorem walkFnExactFlowsOf (o : Option Addr) (cap : Nat) (l : List Sl) (w : World) (hm : l.length ≤ maxLen) (hR : RdS w.heap.size w o l) :
    Calls Try.prog 16 #[tab (.slice o l.length cap)] w fun e w' => e = .returned (.bool true) ∧ Below w.heap.size w w' :=
  lawFnExactFlowsOf _ l w ⟨_, rfl, o, cap, rfl, hR⟩ hm

set_option maxRecDepth 100000 in
theorem fnExactFlowsOf_lifted (os : Os) (started : os.Started) (H : Type) (enc : TypeId × Value → H) :
    ReturnsInHanded {} Try.checked os 16 .any (Rows.fnExactFlowsOfSpec.pre6 enc Try.prog Try.f16 Rows.fnExactFlowsOfRow.domain false) (Rows.fnExactFlowsOfSpec.post enc Try.prog Try.f16 false true false false) := by
  refine returnsInHanded_of_change (C := Try.checked) own started (by kernel_rfl) Try.func16
    (ChangeSpec.witness6 (enc := enc) (C := Try.checked) false ⟨#[], #[.agg #[.slice none 0 0]], []⟩ 8 (by kernel_rfl) (by kernel_rfl) (by kernel_rfl) (by kernel_rfl)) ?_
  intro W base args ds gs before hval0 hW hcnd _
  have hval : ∀ (j : Nat) t v, Try.f16.params[j]? = some t → args[j]? = some v → Value.okWide Try.prog W .any base t v := hval0
  have hW' := hW
  obtain ⟨p, q, hA0, hV, rfl, hfz, hnd⟩ := hW
  have hA : DataW.TrodAll enc Try.prog W 0 (fun _ => true) true Try.f16.params.toList args.toList ds p := hA0
  rw [Try.params16] at hA hval
  obtain ⟨v0, vs0, d0, ds0, p0, q0, hargs, rfl, rfl, h0, r0⟩ := trodAll_cons hA
  obtain ⟨rfl, rfl, rfl⟩ := trodAll_nil r0
  obtain rfl : args = #[v0] := by cases args; simp_all
  obtain ⟨rfl, rfl⟩ := trodVars_none hV
  have k0 := h0
  have lt0 : ∀ x ∈ p0, x.block < W.heap.size := by obtain ⟨m, hm⟩ := k0; exact DataW.trod_lt m _ _ _ hm
  obtain ⟨o0, cap0, l0, rfl, hm0, hR0⟩ := open_table (hval 0 59 v0 rfl rfl) h0
  clear hA0 hval0
  refine (walkFnExactFlowsOf o0 cap0 l0 W hm0 hR0 ).mono fun e W' ⟨he, bel⟩ => ?_
  subst he
  exact ⟨_, rfl, _, _, _, [], _, [], hW', trodAll_mk1 (shut_bool Try.underlying4 _), (trodAll_cons_mk (Below.trod laidOut (by kernel_rfl) (of_decide_eq_true (by kernel_rfl)) k0 bel lt0) trodAll_mk0), rfl, bel.frame _, fun h => by cases h⟩

theorem fnExactFlowsOf_over : Rows.fnExactFlowsOfRow.holds Try.pinned (OpenSpec.ofChange Rows.fnExactFlowsOfSpec) :=
  OpenClaim.holds_of_wide 16 Try.f16 rfl rfl rfl rfl rfl rfl rfl ⟨rfl, rfl, rfl, rfl, rfl⟩ rfl rfl rfl rfl rfl (by kernel_rfl) Try.func16 (by kernel_rfl)
    (of_decide_eq_true (by kernel_rfl)) (by unfold Func.isWrapper; first | (rw [if_pos (by decide +kernel)]; kernel_rfl) | (rw [if_neg (by decide +kernel)]; exact ⟨rfl, rfl⟩))
    (fun os started H enc _ => fnExactFlowsOf_lifted os started H enc)

theorem fnExactFlowsOf_holds : Rows.FnExactFlowsOfSaid := fnExactFlowsOf_over

end Go.Proofs.Ytncdjmniphnpgaa
