/- For every table and flow the law FnExactHome answers true, and the table reads as it did: impl.Home answers as the model's, and writes nothing into what it is handed. No conditions. -/
import Derived.Test.YtncdjmniphnpgaaSTabI2
import Derived.Deep.RegionHeld3
namespace Go.Proofs.Ytncdjmniphnpgaa
open Go.ChangeShapes Go.WideShapes Go.ChangeAt Go.RowKit Go.Joins
set_option linter.unusedVariables false
set_option linter.unusedSimpArgs false

set_option maxRecDepth 100000 in
set_option maxHeartbeats 8000000 in
theorem lawFnExactHome (v : Value) (m : List Sl) (a p : Int) (w : World) (hR : RdT w.heap.size w v m) (hl : m.length ≤ maxLen) :
    Calls Try.prog 9 #[v, flow a p] w fun e w' => e = .returned (.bool true) ∧ Below w.heap.size w w' := by
  have hR0 := hR
  by_cases hfit : m.length ≤ 1048576
  · have hf : m.length ≤ 1048576 := hfit
    have HS := hide (fun v w h hf => specHome_sh v m a p w h hf)
    have HI := hide (fun v w h hf => implHome_sh v m a p w h hf)
    generalize homeM m a p = t at *
    obtain ⟨vla, rfl, oa, ca, rfl, _⟩ := hR0
    obtain ⟨w0, hw0⟩ : ∃ W, ((w.alloc (.cells #[.slice oa m.length ca] 59)).alloc (.cells #[.int .i64 a, .int .i64 p] 63)) = W := ⟨_, rfl⟩
    have B_w0 : Below w.heap.size w w0 := by rw [← hw0]; exact (((Below.refl _ _).alloc (Nat.le_refl _) _).alloc (by simp) _)
    have hz_w0 : w.heap.size + 1 < w0.heap.size := by rw [← hw0]; simp
    have bxa : w0.heap[w.heap.size]? = some (.cells #[.slice oa m.length ca] 59 (0, 0)) := by
      have h := World.alloc_heap_new w (.cells #[.slice oa m.length ca] 59)
      (try rw [World.size_alloc] at h)
      rw [← hw0]
      refine (Below.heap_alloc _ _ _ (by simp)).trans ?_
      exact h
    have bxf : w0.heap[w.heap.size + 1]? = some (.cells #[.int .i64 a, .int .i64 p] 63 (0, 0)) := by
      have h := World.alloc_heap_new (w.alloc (.cells #[.slice oa m.length ca] 59)) (.cells #[.int .i64 a, .int .i64 p] 63)
      (try rw [World.size_alloc] at h)
      rw [← hw0]
      exact h
    have HR := hide hR
    clear hR
    have bxac0 : w0.cell? ⟨w.heap.size, 0, none⟩ = some (.slice oa m.length ca) := block_cell1 bxa 0 _ rfl
    have Hbxa := hide bxa
    clear bxa
    have Hbxf := hide bxf
    clear bxf
    have HB_ := hide B_w0
    clear B_w0
    go_enter Try.func9, Try.ntmps9
    go_wp2_with fail
    clear bxac0
    have bxa := Hbxa.out
    clear Hbxa
    have bxf := Hbxf.out
    clear Hbxf
    have B_w0 := HB_.out
    clear HB_
    clear hw0
    have hR := HR.out
    clear HR
    refine (szTable_sh _ m w.heap.size w0 (hR.kept B_w0 (Nat.le_refl _)) hl).mono ?_
    rintro e w1 ⟨⟨nn, rfl, hpos, hneg, hn1, hn2⟩, hb_w1⟩
    have hnn := hpos hfit
    clear hpos hneg
    replace bxa := (hb_w1.block _ (by omega)).trans bxa
    replace bxf := (hb_w1.block _ (by omega)).trans bxf
    have B_w1 : Below w.heap.size w w1 := B_w0.trans (hb_w1.mono B_w0.size)
    have hs_w1 : w0.heap.size ≤ w1.heap.size := hb_w1.size
    clear hb_w1 B_w0
    have bxac0 : w1.cell? ⟨w.heap.size, 0, none⟩ = some (.slice oa m.length ca) := block_cell1 bxa 0 _ rfl
    have bxfc0 : w1.cell? ⟨w.heap.size + 1, 0, none⟩ = some (.int .i64 a) := block_cell1 bxf 0 _ rfl
    have bxfc1 : w1.cell? ⟨w.heap.size + 1, 1, none⟩ = some (.int .i64 p) := block_cell1 bxf 1 _ rfl
    have Hbxa := hide bxa
    clear bxa
    have Hbxf := hide bxf
    clear bxf
    have HB_ := hide B_w1
    clear B_w1
    go_wp2
    have hk_bxa : w.heap.size < w1.heap.size := by omega
    have hk_bxf : w.heap.size + 1 < w1.heap.size := by omega
    go_region_held3 (fun w' => w'.cell? ⟨w.heap.size, 0, none⟩ = some (.slice oa m.length ca) ∧ w'.cell? ⟨w.heap.size + 1, 0, none⟩ = some (.int .i64 a) ∧ w'.cell? ⟨w.heap.size + 1, 1, none⟩ = some (.int .i64 p)) (first | exact ⟨k2_0, k2_1, k2_2⟩ | exact ⟨k1_0, k1_1, k1_2⟩ | exact ⟨k0_0, k0_1, k0_2⟩ | exact ⟨bxac0, bxfc0, bxfc1⟩) (first | (go_at_call 42; refine (toTable_sh _ m w1.drew ((hR.kept (Below.drew HB_.out) (Nat.le_refl _)).le HB_.out.size) hf).mono ?_; rintro e w2 ⟨v2, rfl, in2, hb⟩; have hx0 : Below w1.heap.size w1 w2 := (Below.drew (Below.refl _ _)).trans hb; clear hb; have k0_0 := (hx0.cell (p := ⟨w.heap.size, 0, none⟩) hk_bxa).trans bxac0; have k0_1 := (hx0.cell (p := ⟨w.heap.size + 1, 0, none⟩) hk_bxf).trans bxfc0; have k0_2 := (hx0.cell (p := ⟨w.heap.size + 1, 1, none⟩) hk_bxf).trans bxfc1) | (go_at_call 44; refine (toFlow_any a p w2).mono ?_; rintro e w3 ⟨rfl, hb⟩; have rd2 := in2.rd.kept hb (Nat.le_refl _); have sz2 := hb.size; have hx1 : Below w1.heap.size w1 w3 := hx0.trans (hb.mono hx0.size); clear hb; have k1_0 := (hx1.cell (p := ⟨w.heap.size, 0, none⟩) hk_bxa).trans bxac0; have k1_1 := (hx1.cell (p := ⟨w.heap.size + 1, 0, none⟩) hk_bxf).trans bxfc0; have k1_2 := (hx1.cell (p := ⟨w.heap.size + 1, 1, none⟩) hk_bxf).trans bxfc1) | (go_at_call 43; refine (HS.out _ w3 (rd2.le sz2) hf).mono ?_; rintro e w4 ⟨rfl, hb⟩; have hx2 : Below w1.heap.size w1 w4 := hx1.trans (hb.mono hx1.size); clear hb; have k2_0 := (hx2.cell (p := ⟨w.heap.size, 0, none⟩) hk_bxa).trans bxac0; have k2_1 := (hx2.cell (p := ⟨w.heap.size + 1, 0, none⟩) hk_bxf).trans bxfc0; have k2_2 := (hx2.cell (p := ⟨w.heap.size + 1, 1, none⟩) hk_bxf).trans bxfc1))
    clear k0_0 k0_1 k0_2
    clear k1_0 k1_1 k1_2
    clear k2_0 k2_1 k2_2
    clear hk_bxa hk_bxf hx0 hx1
    clear bxac0
    clear bxfc0 bxfc1
    have bxa := Hbxa.out
    clear Hbxa
    have bxf := Hbxf.out
    clear Hbxf
    have B_w1 := HB_.out
    clear HB_
    replace bxa := (hx2.block _ (by omega)).trans bxa
    replace bxf := (hx2.block _ (by omega)).trans bxf
    have B_w4 : Below w.heap.size w w4 := B_w1.trans (hx2.mono B_w1.size)
    have hs_w4 : w1.heap.size ≤ w4.heap.size := hx2.size
    clear hx2 B_w1
    clear rd2 sz2 in2
    have bxac0 : w4.cell? ⟨w.heap.size, 0, none⟩ = some (.slice oa m.length ca) := block_cell1 bxa 0 _ rfl
    have Hbxa := hide bxa
    clear bxa
    have Hbxf := hide bxf
    clear bxf
    have HB_ := hide B_w4
    clear B_w4
    go_wp2_with fail
    clear bxac0
    have bxa := Hbxa.out
    clear Hbxa
    have bxf := Hbxf.out
    clear Hbxf
    have B_w4 := HB_.out
    clear HB_
    refine (toTable_sh _ m w4 ((hR.kept B_w4 (Nat.le_refl _)).le B_w4.size) hf).mono ?_
    rintro e w5 ⟨vx, rfl, inx, hb_w5⟩
    replace bxa := (hb_w5.block _ (by omega)).trans bxa
    replace bxf := (hb_w5.block _ (by omega)).trans bxf
    have B_w5 : Below w.heap.size w w5 := B_w4.trans (hb_w5.mono B_w4.size)
    have hs_w5 : w4.heap.size ≤ w5.heap.size := hb_w5.size
    clear hb_w5 B_w4
    obtain ⟨vlx, rfl, ox, cx, rfl, _⟩ := inx.rd
    obtain ⟨w6, hW_w6⟩ : ∃ W, w5.alloc (.cells #[.slice ox m.length cx] 25) = W := ⟨_, rfl⟩
    have bxx : w6.heap[w5.heap.size]? = some (.cells #[.slice ox m.length cx] 25 (0, 0)) := by rw [← hW_w6]; exact World.alloc_heap_new w5 _
    have hb_w6 : Below w5.heap.size w5 w6 := by rw [← hW_w6]; exact (Below.refl _ _).alloc (Nat.le_refl _) _
    have hz_w6 : w5.heap.size < w6.heap.size := by rw [← hW_w6]; simp
    replace bxa := (hb_w6.block _ (by omega)).trans bxa
    replace bxf := (hb_w6.block _ (by omega)).trans bxf
    replace inx := inx.step (Stp.of (lo := 0) (hi := 0) hb_w6) (.inl (Nat.zero_le _))
    have B_w6 : Below w.heap.size w w6 := B_w5.trans (hb_w6.mono B_w5.size)
    have hs_w6 : w5.heap.size ≤ w6.heap.size := hb_w6.size
    clear hb_w6 B_w5
    have bxxc0 : w6.cell? ⟨w5.heap.size, 0, none⟩ = some (.slice ox m.length cx) := block_cell1 bxx 0 _ rfl
    have bxfc0 : w6.cell? ⟨w.heap.size + 1, 0, none⟩ = some (.int .i64 a) := block_cell1 bxf 0 _ rfl
    have bxfc1 : w6.cell? ⟨w.heap.size + 1, 1, none⟩ = some (.int .i64 p) := block_cell1 bxf 1 _ rfl
    have Hbxa := hide bxa
    clear bxa
    have Hbxf := hide bxf
    clear bxf
    have Hinx := hide inx
    clear inx
    have Hbxx := hide bxx
    clear bxx
    have HB_ := hide B_w6
    clear B_w6
    go_wp2
    have hk_bxx : w5.heap.size < w6.heap.size := by omega
    have hk_bxf : w.heap.size + 1 < w6.heap.size := by omega
    go_region_held3 (fun w' => w'.cell? ⟨w5.heap.size, 0, none⟩ = some (.slice ox m.length cx) ∧ w'.cell? ⟨w.heap.size + 1, 0, none⟩ = some (.int .i64 a) ∧ w'.cell? ⟨w.heap.size + 1, 1, none⟩ = some (.int .i64 p)) (first | exact ⟨k1_0, k1_1, k1_2⟩ | exact ⟨k0_0, k0_1, k0_2⟩ | exact ⟨bxxc0, bxfc0, bxfc1⟩) (first | (go_at_call 44; refine (toFlow_any a p w6.drew).mono ?_; rintro e w7 ⟨rfl, hb⟩; have rdx := (Hinx.out.rd.le (Nat.le_of_lt hk_bxx)).kept ((Below.drew (Below.refl _ _)).trans hb) (Nat.le_refl _); have szx := hb.size; have hx0 : Below w6.heap.size w6 w7 := (Below.drew (Below.refl _ _)).trans hb; clear hb; have k0_0 := (hx0.cell (p := ⟨w5.heap.size, 0, none⟩) hk_bxx).trans bxxc0; have k0_1 := (hx0.cell (p := ⟨w.heap.size + 1, 0, none⟩) hk_bxf).trans bxfc0; have k0_2 := (hx0.cell (p := ⟨w.heap.size + 1, 1, none⟩) hk_bxf).trans bxfc1) | (go_at_call 33; refine (HI.out _ w7 (rdx.le szx) hf).mono ?_; rintro e w8 ⟨rfl, hb⟩; have hx1 : Below w6.heap.size w6 w8 := hx0.trans (hb.mono hx0.size); clear hb; have k1_0 := (hx1.cell (p := ⟨w5.heap.size, 0, none⟩) hk_bxx).trans bxxc0; have k1_1 := (hx1.cell (p := ⟨w.heap.size + 1, 0, none⟩) hk_bxf).trans bxfc0; have k1_2 := (hx1.cell (p := ⟨w.heap.size + 1, 1, none⟩) hk_bxf).trans bxfc1))
    clear k0_0 k0_1 k0_2
    clear k1_0 k1_1 k1_2
    clear hk_bxx hk_bxf hx0
    clear bxxc0
    clear bxfc0 bxfc1
    have bxa := Hbxa.out
    clear Hbxa
    have bxf := Hbxf.out
    clear Hbxf
    have inx := Hinx.out
    clear Hinx
    have bxx := Hbxx.out
    clear Hbxx
    have B_w6 := HB_.out
    clear HB_
    replace bxa := (hx1.block _ (by omega)).trans bxa
    replace bxf := (hx1.block _ (by omega)).trans bxf
    replace inx := inx.step (Stp.of (lo := 0) (hi := 0) hx1) (.inl (Nat.zero_le _))
    replace bxx := (hx1.block _ (by omega)).trans bxx
    have B_w8 : Below w.heap.size w w8 := B_w6.trans (hx1.mono B_w6.size)
    have hs_w8 : w6.heap.size ≤ w8.heap.size := hx1.size
    clear hx1 B_w6
    clear rdx szx
    clear hW_w6
    have bxac0 : w8.cell? ⟨w.heap.size, 0, none⟩ = some (.slice oa m.length ca) := block_cell1 bxa 0 _ rfl
    have bxxc0 : w8.cell? ⟨w5.heap.size, 0, none⟩ = some (.slice ox m.length cx) := block_cell1 bxx 0 _ rfl
    have Hbxa := hide bxa
    clear bxa
    have Hbxf := hide bxf
    clear bxf
    have Hinx := hide inx
    clear inx
    have Hbxx := hide bxx
    clear bxx
    have HB_ := hide B_w8
    clear B_w8
    go_wp2
    have hk_bxa : w.heap.size < w8.heap.size := by omega
    have hk_bxx : w5.heap.size < w8.heap.size := by omega
    go_region_held3 (fun w' => w'.cell? ⟨w.heap.size, 0, none⟩ = some (.slice oa m.length ca) ∧ w'.cell? ⟨w5.heap.size, 0, none⟩ = some (.slice ox m.length cx)) (first | exact ⟨k1_0, k1_1⟩ | exact ⟨k0_0, k0_1⟩ | exact ⟨bxac0, bxxc0⟩) (first | (go_at_call 42; refine (toTable_sh _ m w8.drew ((hR.kept (Below.drew HB_.out) (Nat.le_refl _)).le HB_.out.size) hf).mono ?_; rintro e w9 ⟨va, rfl, ina, hb⟩; have hbx : Below w8.heap.size w8 w9 := (Below.drew (Below.refl _ _)).trans hb; have rdx := Hinx.out.rd.kept hbx (by omega); have szx := hbx.size; have hx0 : Below w8.heap.size w8 w9 := (Below.drew (Below.refl _ _)).trans hb; clear hb; have k0_0 := (hx0.cell (p := ⟨w.heap.size, 0, none⟩) hk_bxa).trans bxac0; have k0_1 := (hx0.cell (p := ⟨w5.heap.size, 0, none⟩) hk_bxx).trans bxxc0) | (go_at_call 38; refine (eqTable_sh _ _ m w9 (rdx.le (by omega)) (ina.rd.le (Nat.le_refl _)) (by omega)).mono ?_; rintro e w10 ⟨rfl, hb⟩; have hx1 : Below w8.heap.size w8 w10 := hx0.trans (hb.mono hx0.size); clear hb; have k1_0 := (hx1.cell (p := ⟨w.heap.size, 0, none⟩) hk_bxa).trans bxac0; have k1_1 := (hx1.cell (p := ⟨w5.heap.size, 0, none⟩) hk_bxx).trans bxxc0))
    clear k0_0 k0_1
    clear k1_0 k1_1
    clear hk_bxa hk_bxx hx0
    clear bxac0
    clear bxxc0
    have bxa := Hbxa.out
    clear Hbxa
    have bxf := Hbxf.out
    clear Hbxf
    have inx := Hinx.out
    clear Hinx
    have bxx := Hbxx.out
    clear Hbxx
    have B_w8 := HB_.out
    clear HB_
    replace bxa := (hx1.block _ (by omega)).trans bxa
    replace bxf := (hx1.block _ (by omega)).trans bxf
    replace inx := inx.step (Stp.of (lo := 0) (hi := 0) hx1) (.inl (Nat.zero_le _))
    replace bxx := (hx1.block _ (by omega)).trans bxx
    have B_w10 : Below w.heap.size w w10 := B_w8.trans (hx1.mono B_w8.size)
    have hs_w10 : w8.heap.size ≤ w10.heap.size := hx1.size
    clear hx1 B_w8
    clear rdx szx ina hbx
    have Hbxa := hide bxa
    clear bxa
    have Hbxf := hide bxf
    clear bxf
    have Hinx := hide inx
    clear inx
    have Hbxx := hide bxx
    clear bxx
    have HB_ := hide B_w10
    clear B_w10
    go_wp2
    go_ret
    exact ⟨rfl, HB_.out⟩
  · skip
    obtain ⟨vla, rfl, oa, ca, rfl, _⟩ := hR0
    obtain ⟨w0, hw0⟩ : ∃ W, ((w.alloc (.cells #[.slice oa m.length ca] 59)).alloc (.cells #[.int .i64 a, .int .i64 p] 63)) = W := ⟨_, rfl⟩
    have B_w0 : Below w.heap.size w w0 := by rw [← hw0]; exact (((Below.refl _ _).alloc (Nat.le_refl _) _).alloc (by simp) _)
    have Hb_ := hide B_w0
    have HR := hide hR
    clear B_w0 hR
    have bxac0 : w0.cell? ⟨w.heap.size, 0, none⟩ = some (.slice oa m.length ca) := by rw [← hw0]; simp [go_sem]
    have bxfc0 : w0.cell? ⟨w.heap.size + 1, 0, none⟩ = some (.int .i64 a) := by rw [← hw0]; simp [go_sem]
    have bxfc1 : w0.cell? ⟨w.heap.size + 1, 1, none⟩ = some (.int .i64 p) := by rw [← hw0]; simp [go_sem]
    go_enter Try.func9, Try.ntmps9
    go_wp2_with fail
    have hR := HR.out
    refine (szTable_sh _ m w.heap.size w0 (hR.kept Hb_.out (Nat.le_refl _)) hl).mono ?_
    rintro e w1 ⟨⟨nn, rfl, hpos, hneg, hn1, hn2⟩, hb_w1⟩
    have hnn := hneg hfit
    have HB := hide (Hb_.out.trans (hb_w1.mono Hb_.out.size))
    clear hpos hneg hb_w1
    go_wp2
    go_ret
    exact ⟨rfl, HB.out⟩

theorem walkFnExactHome (o : Option Addr) (cap : Nat) (l : List Sl) (a p : Int) (w : World) (hm : l.length ≤ maxLen) (hR : RdS w.heap.size w o l) :
    Calls Try.prog 9 #[tab (.slice o l.length cap), flow a p] w fun e w' => e = .returned (.bool true) ∧ Below w.heap.size w w' :=
  lawFnExactHome _ l a p w ⟨_, rfl, o, cap, rfl, hR⟩ hm

set_option maxRecDepth 100000 in
theorem fnExactHome_lifted (os : Os) (started : os.Started) (H : Type) (enc : TypeId × Value → H) :
    ReturnsInHanded {} Try.checked os 9 .any (Rows.fnExactHomeSpec.pre6 enc Try.prog Try.f9 Rows.fnExactHomeRow.domain false) (Rows.fnExactHomeSpec.post enc Try.prog Try.f9 false true false false) := by
  refine returnsInHanded_of_change (C := Try.checked) own started (by kernel_rfl) Try.func9
    (ChangeSpec.witness6 (enc := enc) (C := Try.checked) false ⟨#[], #[.agg #[.slice none 0 0], .agg #[.int .i64 0, .int .i64 0]], []⟩ 8 (by kernel_rfl) (by kernel_rfl) (by kernel_rfl) (by kernel_rfl)) ?_
  intro W base args ds gs before hval0 hW hcnd _
  have hval : ∀ (j : Nat) t v, Try.f9.params[j]? = some t → args[j]? = some v → Value.okWide Try.prog W .any base t v := hval0
  have hW' := hW
  obtain ⟨p, q, hA0, hV, rfl, hfz, hnd⟩ := hW
  have hA : DataW.TrodAll enc Try.prog W 0 (fun _ => true) true Try.f9.params.toList args.toList ds p := hA0
  rw [Try.params9] at hA hval
  obtain ⟨v0, vs0, d0, ds0, p0, q0, hargs, rfl, rfl, h0, r0⟩ := trodAll_cons hA
  obtain ⟨v1, vs1, d1, ds1, p1, q1, rfl, rfl, rfl, h1, r1⟩ := trodAll_cons r0
  obtain ⟨rfl, rfl, rfl⟩ := trodAll_nil r1
  obtain rfl : args = #[v0, v1] := by cases args; simp_all
  obtain ⟨rfl, rfl⟩ := trodVars_none hV
  have k0 := h0
  have lt0 : ∀ x ∈ p0, x.block < W.heap.size := by obtain ⟨m, hm⟩ := k0; exact DataW.trod_lt m _ _ _ hm
  have k1 := h1
  have lt1 : ∀ x ∈ p1, x.block < W.heap.size := by obtain ⟨m, hm⟩ := k1; exact DataW.trod_lt m _ _ _ hm
  obtain ⟨o0, cap0, l0, rfl, hm0, hR0⟩ := open_table (hval 0 59 v0 rfl rfl) h0
  obtain ⟨a1, b1, rfl⟩ := open_flow (hval 1 63 v1 rfl rfl) h1
  clear hA0 hval0
  refine (walkFnExactHome o0 cap0 l0 a1 b1 W hm0 hR0  ).mono fun e W' ⟨he, bel⟩ => ?_
  subst he
  exact ⟨_, rfl, _, _, _, [], _, [], hW', trodAll_mk1 (shut_bool Try.underlying4 _), (trodAll_cons_mk (Below.trod laidOut (by kernel_rfl) (of_decide_eq_true (by kernel_rfl)) k0 bel lt0) (trodAll_cons_mk (Below.trod laidOut (by kernel_rfl) (of_decide_eq_true (by kernel_rfl)) k1 bel lt1) trodAll_mk0)), rfl, bel.frame _, fun h => by cases h⟩

theorem fnExactHome_over : Rows.fnExactHomeRow.holds Try.pinned (OpenSpec.ofChange Rows.fnExactHomeSpec) :=
  OpenClaim.holds_of_wide 9 Try.f9 rfl rfl rfl rfl rfl rfl rfl ⟨rfl, rfl, rfl, rfl, rfl⟩ rfl rfl rfl rfl rfl (by kernel_rfl) Try.func9 (by kernel_rfl)
    (of_decide_eq_true (by kernel_rfl)) (by unfold Func.isWrapper; first | (rw [if_pos (by decide +kernel)]; kernel_rfl) | (rw [if_neg (by decide +kernel)]; exact ⟨rfl, rfl⟩))
    (fun os started H enc _ => fnExactHome_lifted os started H enc)

theorem fnExactHome_holds : Rows.FnExactHomeSaid := fnExactHome_over

end Go.Proofs.Ytncdjmniphnpgaa
