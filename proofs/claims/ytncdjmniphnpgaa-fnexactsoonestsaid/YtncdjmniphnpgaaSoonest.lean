/- For every table the law FnExactSoonest answers true, and the table reads as it did: impl.Soonest answers as the model's, and writes nothing into what it is handed. No conditions. -/
import Derived.Test.YtncdjmniphnpgaaSSoon2
import Derived.Deep.RegionHeld3
namespace Go.Proofs.Ytncdjmniphnpgaa
open Go.ChangeShapes Go.WideShapes Go.ChangeAt Go.RowKit Go.Joins
set_option linter.unusedVariables false
set_option linter.unusedSimpArgs false

set_option maxRecDepth 100000 in
set_option maxHeartbeats 8000000 in
theorem lawFnExactSoonest (v : Value) (m : List Sl) (w : World) (hR : RdT w.heap.size w v m) (hl : m.length ≤ maxLen) :
    Calls Try.prog 15 #[v] w fun e w' => e = .returned (.bool true) ∧ Below w.heap.size w w' := by
  have hR0 := hR
  by_cases hfit : m.length ≤ 1048576
  · have hf : m.length ≤ 1048576 := hfit
    have HS := hide (fun v w h hf => specSoonest_sh v m w h hf)
    have HI := hide (fun v w h hf => implSoonest_sh v m w h hf)
    generalize soonM m = q at *
    obtain ⟨vla, rfl, oa, ca, rfl, _⟩ := hR0
    obtain ⟨w0, hw0⟩ : ∃ W, (w.alloc (.cells #[.slice oa m.length ca] 59)) = W := ⟨_, rfl⟩
    have B_w0 : Below w.heap.size w w0 := by rw [← hw0]; exact ((Below.refl _ _).alloc (Nat.le_refl _) _)
    have hz_w0 : w.heap.size < w0.heap.size := by rw [← hw0]; simp
    have bxa : w0.heap[w.heap.size]? = some (.cells #[.slice oa m.length ca] 59 (0, 0)) := by
      have h := World.alloc_heap_new w (.cells #[.slice oa m.length ca] 59)
      (try rw [World.size_alloc] at h)
      rw [← hw0]
      exact h
    have HR := hide hR
    clear hR
    have bxac0 : w0.cell? ⟨w.heap.size, 0, none⟩ = some (.slice oa m.length ca) := block_cell1 bxa 0 _ rfl
    have Hbxa := hide bxa
    clear bxa
    have HB_ := hide B_w0
    clear B_w0
    go_enter Try.func15, Try.ntmps15
    go_wp2_with fail
    clear bxac0
    have bxa := Hbxa.out
    clear Hbxa
    have B_w0 := HB_.out
    clear HB_
    clear hw0
    have hR := HR.out
    clear HR
    refine (szTable_sh _ m w.heap.size w0 (hR.kept B_w0 (Nat.le_refl _)) hl).mono ?_
    rintro e w1 ⟨⟨nn, rfl, hpos, hneg, hn1, hn2⟩, hb_w1⟩
    have hnn := hpos hfit
    clear hpos hneg
    replace bxa := (hb_w1.block _ (by omega)).trans bxa
    have B_w1 : Below w.heap.size w w1 := B_w0.trans (hb_w1.mono B_w0.size)
    have hs_w1 : w0.heap.size ≤ w1.heap.size := hb_w1.size
    clear hb_w1 B_w0
    have bxac0 : w1.cell? ⟨w.heap.size, 0, none⟩ = some (.slice oa m.length ca) := block_cell1 bxa 0 _ rfl
    have Hbxa := hide bxa
    clear bxa
    have HB_ := hide B_w1
    clear B_w1
    go_wp2_with fail
    clear bxac0
    have bxa := Hbxa.out
    clear Hbxa
    have B_w1 := HB_.out
    clear HB_
    refine (toTable_sh _ m w1 ((hR.kept B_w1 (Nat.le_refl _)).le B_w1.size) hf).mono ?_
    rintro e w2 ⟨v2, rfl, in2, hb_w2⟩
    replace bxa := (hb_w2.block _ (by omega)).trans bxa
    have B_w2 : Below w.heap.size w w2 := B_w1.trans (hb_w2.mono B_w1.size)
    have hs_w2 : w1.heap.size ≤ w2.heap.size := hb_w2.size
    clear hb_w2 B_w1
    have Hbxa := hide bxa
    clear bxa
    have Hin2 := hide in2
    clear in2
    have HB_ := hide B_w2
    clear B_w2
    go_wp2_with fail
    have bxa := Hbxa.out
    clear Hbxa
    have in2 := Hin2.out
    clear Hin2
    have B_w2 := HB_.out
    clear HB_
    refine (HS.out _ w2 (in2.rd.le (by omega)) hf).mono ?_
    rintro e w3 ⟨rfl, hb_w3⟩
    replace bxa := (hb_w3.block _ (by omega)).trans bxa
    replace in2 := in2.step (Stp.of (lo := 0) (hi := 0) hb_w3) (.inl (Nat.zero_le _))
    have B_w3 : Below w.heap.size w w3 := B_w2.trans (hb_w3.mono B_w2.size)
    have hs_w3 : w2.heap.size ≤ w3.heap.size := hb_w3.size
    clear hb_w3 B_w2
    clear in2
    obtain ⟨w4, hW_w4⟩ : ∃ W, w3.alloc (.cells #[.bool q.u, .int .i64 q.a, .int .i64 q.p, .int .i64 q.v, .int .i64 q.t] 35) = W := ⟨_, rfl⟩
    have bxw : w4.heap[w3.heap.size]? = some (.cells #[.bool q.u, .int .i64 q.a, .int .i64 q.p, .int .i64 q.v, .int .i64 q.t] 35 (0, 0)) := by rw [← hW_w4]; exact World.alloc_heap_new w3 _
    have hb_w4 : Below w3.heap.size w3 w4 := by rw [← hW_w4]; exact (Below.refl _ _).alloc (Nat.le_refl _) _
    have hz_w4 : w3.heap.size < w4.heap.size := by rw [← hW_w4]; simp
    replace bxa := (hb_w4.block _ (by omega)).trans bxa
    have B_w4 : Below w.heap.size w w4 := B_w3.trans (hb_w4.mono B_w3.size)
    have hs_w4 : w3.heap.size ≤ w4.heap.size := hb_w4.size
    clear hb_w4 B_w3
    have bxac0 : w4.cell? ⟨w.heap.size, 0, none⟩ = some (.slice oa m.length ca) := block_cell1 bxa 0 _ rfl
    have Hbxa := hide bxa
    clear bxa
    have Hbxw := hide bxw
    clear bxw
    have HB_ := hide B_w4
    clear B_w4
    go_wp2_with fail
    clear bxac0
    have bxa := Hbxa.out
    clear Hbxa
    have bxw := Hbxw.out
    clear Hbxw
    have B_w4 := HB_.out
    clear HB_
    refine (toTable_sh _ m w4 ((hR.kept B_w4 (Nat.le_refl _)).le B_w4.size) hf).mono ?_
    rintro e w5 ⟨vx, rfl, inx, hb_w5⟩
    replace bxa := (hb_w5.block _ (by omega)).trans bxa
    replace bxw := (hb_w5.block _ (by omega)).trans bxw
    have B_w5 : Below w.heap.size w w5 := B_w4.trans (hb_w5.mono B_w4.size)
    have hs_w5 : w4.heap.size ≤ w5.heap.size := hb_w5.size
    clear hb_w5 B_w4
    obtain ⟨vlx, rfl, ox, cx, rfl, _⟩ := inx.rd
    obtain ⟨w6, hW_w6⟩ : ∃ W, w5.alloc (.cells #[.slice ox m.length cx] 25) = W := ⟨_, rfl⟩
    have bxx : w6.heap[w5.heap.size]? = some (.cells #[.slice ox m.length cx] 25 (0, 0)) := by rw [← hW_w6]; exact World.alloc_heap_new w5 _
    have hb_w6 : Below w5.heap.size w5 w6 := by rw [← hW_w6]; exact (Below.refl _ _).alloc (Nat.le_refl _) _
    have hz_w6 : w5.heap.size < w6.heap.size := by rw [← hW_w6]; simp
    replace bxa := (hb_w6.block _ (by omega)).trans bxa
    replace bxw := (hb_w6.block _ (by omega)).trans bxw
    replace inx := inx.step (Stp.of (lo := 0) (hi := 0) hb_w6) (.inl (Nat.zero_le _))
    have B_w6 : Below w.heap.size w w6 := B_w5.trans (hb_w6.mono B_w5.size)
    have hs_w6 : w5.heap.size ≤ w6.heap.size := hb_w6.size
    clear hb_w6 B_w5
    have bxxc0 : w6.cell? ⟨w5.heap.size, 0, none⟩ = some (.slice ox m.length cx) := block_cell1 bxx 0 _ rfl
    have Hbxa := hide bxa
    clear bxa
    have Hbxw := hide bxw
    clear bxw
    have Hinx := hide inx
    clear inx
    have Hbxx := hide bxx
    clear bxx
    have HB_ := hide B_w6
    clear B_w6
    go_wp2_with fail
    clear bxxc0
    have bxa := Hbxa.out
    clear Hbxa
    have bxw := Hbxw.out
    clear Hbxw
    have inx := Hinx.out
    clear Hinx
    have bxx := Hbxx.out
    clear Hbxx
    have B_w6 := HB_.out
    clear HB_
    refine (HI.out _ w6 (inx.rd.le (by omega)) hf).mono ?_
    rintro e w7 ⟨rfl, hb_w7⟩
    replace bxa := (hb_w7.block _ (by omega)).trans bxa
    replace bxw := (hb_w7.block _ (by omega)).trans bxw
    replace inx := inx.step (Stp.of (lo := 0) (hi := 0) hb_w7) (.inl (Nat.zero_le _))
    replace bxx := (hb_w7.block _ (by omega)).trans bxx
    have B_w7 : Below w.heap.size w w7 := B_w6.trans (hb_w7.mono B_w6.size)
    have hs_w7 : w6.heap.size ≤ w7.heap.size := hb_w7.size
    clear hb_w7 B_w6
    clear hW_w6
    obtain ⟨w8, hW_w8⟩ : ∃ W, w7.alloc (.cells #[.bool q.u, .int .i64 q.a, .int .i64 q.p, .int .i64 q.v, .int .i64 q.t] 35) = W := ⟨_, rfl⟩
    have bxg : w8.heap[w7.heap.size]? = some (.cells #[.bool q.u, .int .i64 q.a, .int .i64 q.p, .int .i64 q.v, .int .i64 q.t] 35 (0, 0)) := by rw [← hW_w8]; exact World.alloc_heap_new w7 _
    have hb_w8 : Below w7.heap.size w7 w8 := by rw [← hW_w8]; exact (Below.refl _ _).alloc (Nat.le_refl _) _
    have hz_w8 : w7.heap.size < w8.heap.size := by rw [← hW_w8]; simp
    replace bxa := (hb_w8.block _ (by omega)).trans bxa
    replace bxw := (hb_w8.block _ (by omega)).trans bxw
    replace inx := inx.step (Stp.of (lo := 0) (hi := 0) hb_w8) (.inl (Nat.zero_le _))
    replace bxx := (hb_w8.block _ (by omega)).trans bxx
    have B_w8 : Below w.heap.size w w8 := B_w7.trans (hb_w8.mono B_w7.size)
    have hs_w8 : w7.heap.size ≤ w8.heap.size := hb_w8.size
    clear hb_w8 B_w7
    have bxgc0 : w8.cell? ⟨w7.heap.size, 0, none⟩ = some (.bool q.u) := block_cell1 bxg 0 _ rfl
    have bxgc1 : w8.cell? ⟨w7.heap.size, 1, none⟩ = some (.int .i64 q.a) := block_cell1 bxg 1 _ rfl
    have bxgc2 : w8.cell? ⟨w7.heap.size, 2, none⟩ = some (.int .i64 q.p) := block_cell1 bxg 2 _ rfl
    have bxgc3 : w8.cell? ⟨w7.heap.size, 3, none⟩ = some (.int .i64 q.v) := block_cell1 bxg 3 _ rfl
    have bxgc4 : w8.cell? ⟨w7.heap.size, 4, none⟩ = some (.int .i64 q.t) := block_cell1 bxg 4 _ rfl
    have bxwc0 : w8.cell? ⟨w3.heap.size, 0, none⟩ = some (.bool q.u) := block_cell1 bxw 0 _ rfl
    have bxwc1 : w8.cell? ⟨w3.heap.size, 1, none⟩ = some (.int .i64 q.a) := block_cell1 bxw 1 _ rfl
    have bxwc2 : w8.cell? ⟨w3.heap.size, 2, none⟩ = some (.int .i64 q.p) := block_cell1 bxw 2 _ rfl
    have bxwc3 : w8.cell? ⟨w3.heap.size, 3, none⟩ = some (.int .i64 q.v) := block_cell1 bxw 3 _ rfl
    have bxwc4 : w8.cell? ⟨w3.heap.size, 4, none⟩ = some (.int .i64 q.t) := block_cell1 bxw 4 _ rfl
    have Hbxa := hide bxa
    clear bxa
    have Hbxw := hide bxw
    clear bxw
    have Hinx := hide inx
    clear inx
    have Hbxx := hide bxx
    clear bxx
    have Hbxg := hide bxg
    clear bxg
    have HB_ := hide B_w8
    clear B_w8
    go_wp2_with fail
    clear bxgc0 bxgc1 bxgc2 bxgc3 bxgc4
    clear bxwc0 bxwc1 bxwc2 bxwc3 bxwc4
    have bxa := Hbxa.out
    clear Hbxa
    have bxw := Hbxw.out
    clear Hbxw
    have inx := Hinx.out
    clear Hinx
    have bxx := Hbxx.out
    clear Hbxx
    have bxg := Hbxg.out
    clear Hbxg
    have B_w8 := HB_.out
    clear HB_
    refine (eqSlot_same q w8).mono ?_
    rintro e w9 ⟨rfl, hb_w9⟩
    replace bxa := (hb_w9.block _ (by omega)).trans bxa
    replace bxw := (hb_w9.block _ (by omega)).trans bxw
    replace inx := inx.step (Stp.of (lo := 0) (hi := 0) hb_w9) (.inl (Nat.zero_le _))
    replace bxx := (hb_w9.block _ (by omega)).trans bxx
    replace bxg := (hb_w9.block _ (by omega)).trans bxg
    have B_w9 : Below w.heap.size w w9 := B_w8.trans (hb_w9.mono B_w8.size)
    have hs_w9 : w8.heap.size ≤ w9.heap.size := hb_w9.size
    clear hb_w9 B_w8
    clear bxg
    clear bxw
    have bxac0 : w9.cell? ⟨w.heap.size, 0, none⟩ = some (.slice oa m.length ca) := block_cell1 bxa 0 _ rfl
    have bxxc0 : w9.cell? ⟨w5.heap.size, 0, none⟩ = some (.slice ox m.length cx) := block_cell1 bxx 0 _ rfl
    have Hbxa := hide bxa
    clear bxa
    have Hinx := hide inx
    clear inx
    have Hbxx := hide bxx
    clear bxx
    have HB_ := hide B_w9
    clear B_w9
    go_wp2
    have hk_bxa : w.heap.size < w9.heap.size := by omega
    have hk_bxx : w5.heap.size < w9.heap.size := by omega
    go_region_held3 (fun w' => w'.cell? ⟨w.heap.size, 0, none⟩ = some (.slice oa m.length ca) ∧ w'.cell? ⟨w5.heap.size, 0, none⟩ = some (.slice ox m.length cx)) (first | exact ⟨k1_0, k1_1⟩ | exact ⟨k0_0, k0_1⟩ | exact ⟨bxac0, bxxc0⟩) (first | (go_at_call 42; refine (toTable_sh _ m w9.drew ((hR.kept (Below.drew HB_.out) (Nat.le_refl _)).le HB_.out.size) hf).mono ?_; rintro e w10 ⟨va, rfl, ina, hb⟩; have hbx : Below w9.heap.size w9 w10 := (Below.drew (Below.refl _ _)).trans hb; have rdx := Hinx.out.rd.kept hbx (by omega); have szx := hbx.size; have hx0 : Below w9.heap.size w9 w10 := (Below.drew (Below.refl _ _)).trans hb; clear hb; have k0_0 := (hx0.cell (p := ⟨w.heap.size, 0, none⟩) hk_bxa).trans bxac0; have k0_1 := (hx0.cell (p := ⟨w5.heap.size, 0, none⟩) hk_bxx).trans bxxc0) | (go_at_call 38; refine (eqTable_sh _ _ m w10 (rdx.le (by omega)) (ina.rd.le (Nat.le_refl _)) (by omega)).mono ?_; rintro e w11 ⟨rfl, hb⟩; have hx1 : Below w9.heap.size w9 w11 := hx0.trans (hb.mono hx0.size); clear hb; have k1_0 := (hx1.cell (p := ⟨w.heap.size, 0, none⟩) hk_bxa).trans bxac0; have k1_1 := (hx1.cell (p := ⟨w5.heap.size, 0, none⟩) hk_bxx).trans bxxc0))
    clear k0_0 k0_1
    clear k1_0 k1_1
    clear hk_bxa hk_bxx hx0
    clear bxac0
    clear bxxc0
    have bxa := Hbxa.out
    clear Hbxa
    have inx := Hinx.out
    clear Hinx
    have bxx := Hbxx.out
    clear Hbxx
    have B_w9 := HB_.out
    clear HB_
    replace bxa := (hx1.block _ (by omega)).trans bxa
    replace inx := inx.step (Stp.of (lo := 0) (hi := 0) hx1) (.inl (Nat.zero_le _))
    replace bxx := (hx1.block _ (by omega)).trans bxx
    have B_w11 : Below w.heap.size w w11 := B_w9.trans (hx1.mono B_w9.size)
    have hs_w11 : w9.heap.size ≤ w11.heap.size := hx1.size
    clear hx1 B_w9
    clear rdx szx ina hbx
    have Hbxa := hide bxa
    clear bxa
    have Hinx := hide inx
    clear inx
    have Hbxx := hide bxx
    clear bxx
    have HB_ := hide B_w11
    clear B_w11
    go_wp2
    go_ret
    exact ⟨rfl, HB_.out⟩
  · skip
    obtain ⟨vla, rfl, oa, ca, rfl, _⟩ := hR0
    obtain ⟨w0, hw0⟩ : ∃ W, (w.alloc (.cells #[.slice oa m.length ca] 59)) = W := ⟨_, rfl⟩
    have B_w0 : Below w.heap.size w w0 := by rw [← hw0]; exact ((Below.refl _ _).alloc (Nat.le_refl _) _)
    have Hb_ := hide B_w0
    have HR := hide hR
    clear B_w0 hR
    have bxac0 : w0.cell? ⟨w.heap.size, 0, none⟩ = some (.slice oa m.length ca) := by rw [← hw0]; simp [go_sem]
    go_enter Try.func15, Try.ntmps15
    go_wp2_with fail
    have hR := HR.out
    refine (szTable_sh _ m w.heap.size w0 (hR.kept Hb_.out (Nat.le_refl _)) hl).mono ?_
    rintro e w1 ⟨⟨nn, rfl, hpos, hneg, hn1, hn2⟩, hb_w1⟩
    have hnn := hneg hfit
    have HB := hide (Hb_.out.trans (hb_w1.mono Hb_.out.size))
    clear hpos hneg hb_w1
    go_wp2
    go_ret
    exact ⟨rfl, HB.out⟩

theorem walkFnExactSoonest (o : Option Addr) (cap : Nat) (l : List Sl) (w : World) (hm : l.length ≤ maxLen) (hR : RdS w.heap.size w o l) :
    Calls Try.prog 15 #[tab (.slice o l.length cap)] w fun e w' => e = .returned (.bool true) ∧ Below w.heap.size w w' :=
  lawFnExactSoonest _ l w ⟨_, rfl, o, cap, rfl, hR⟩ hm

set_option maxRecDepth 100000 in
theorem fnExactSoonest_lifted (os : Os) (started : os.Started) (H : Type) (enc : TypeId × Value → H) :
    ReturnsInHanded {} Try.checked os 15 .any (Rows.fnExactSoonestSpec.pre6 enc Try.prog Try.f15 Rows.fnExactSoonestRow.domain false) (Rows.fnExactSoonestSpec.post enc Try.prog Try.f15 false true false false) := by
  refine returnsInHanded_of_change (C := Try.checked) own started (by kernel_rfl) Try.func15
    (ChangeSpec.witness6 (enc := enc) (C := Try.checked) false ⟨#[], #[.agg #[.slice none 0 0]], []⟩ 8 (by kernel_rfl) (by kernel_rfl) (by kernel_rfl) (by kernel_rfl)) ?_
  intro W base args ds gs before hval0 hW hcnd _
  have hval : ∀ (j : Nat) t v, Try.f15.params[j]? = some t → args[j]? = some v → Value.okWide Try.prog W .any base t v := hval0
  have hW' := hW
  obtain ⟨p, q, hA0, hV, rfl, hfz, hnd⟩ := hW
  have hA : DataW.TrodAll enc Try.prog W 0 (fun _ => true) true Try.f15.params.toList args.toList ds p := hA0
  rw [Try.params15] at hA hval
  obtain ⟨v0, vs0, d0, ds0, p0, q0, hargs, rfl, rfl, h0, r0⟩ := trodAll_cons hA
  obtain ⟨rfl, rfl, rfl⟩ := trodAll_nil r0
  obtain rfl : args = #[v0] := by cases args; simp_all
  obtain ⟨rfl, rfl⟩ := trodVars_none hV
  have k0 := h0
  have lt0 : ∀ x ∈ p0, x.block < W.heap.size := by obtain ⟨m, hm⟩ := k0; exact DataW.trod_lt m _ _ _ hm
  obtain ⟨o0, cap0, l0, rfl, hm0, hR0⟩ := open_table (hval 0 59 v0 rfl rfl) h0
  clear hA0 hval0
  refine (walkFnExactSoonest o0 cap0 l0 W hm0 hR0 ).mono fun e W' ⟨he, bel⟩ => ?_
  subst he
  exact ⟨_, rfl, _, _, _, [], _, [], hW', trodAll_mk1 (shut_bool Try.underlying4 _), (trodAll_cons_mk (Below.trod laidOut (by kernel_rfl) (of_decide_eq_true (by kernel_rfl)) k0 bel lt0) trodAll_mk0), rfl, bel.frame _, fun h => by cases h⟩

theorem fnExactSoonest_over : Rows.fnExactSoonestRow.holds Try.pinned (OpenSpec.ofChange Rows.fnExactSoonestSpec) :=
  OpenClaim.holds_of_wide 15 Try.f15 rfl rfl rfl rfl rfl rfl rfl ⟨rfl, rfl, rfl, rfl, rfl⟩ rfl rfl rfl rfl rfl (by kernel_rfl) Try.func15 (by kernel_rfl)
    (of_decide_eq_true (by kernel_rfl)) (by unfold Func.isWrapper; first | (rw [if_pos (by decide +kernel)]; kernel_rfl) | (rw [if_neg (by decide +kernel)]; exact ⟨rfl, rfl⟩))
    (fun os started H enc _ => fnExactSoonest_lifted os started H enc)

theorem fnExactSoonest_holds : Rows.FnExactSoonestSaid := fnExactSoonest_over

end Go.Proofs.Ytncdjmniphnpgaa
