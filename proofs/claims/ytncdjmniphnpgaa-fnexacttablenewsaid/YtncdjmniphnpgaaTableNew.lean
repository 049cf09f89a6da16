/- For every size the law FnExactTableNew answers true: impl.TableNew answers as the model's, and its answer owns its memory. No conditions. -/
import Derived.Test.YtncdjmniphnpgaaSPlain
import Derived.Deep.RegionHeld3
namespace Go.Proofs.Ytncdjmniphnpgaa
open Go.ChangeShapes Go.WideShapes Go.ChangeAt Go.RowKit Go.Joins
set_option linter.unusedVariables false
set_option linter.unusedSimpArgs false

set_option maxRecDepth 100000 in
set_option maxHeartbeats 8000000 in
theorem lawFnExactTableNew (n : Int) (w : World) :
    Calls Try.prog 7 #[.int .i64 n] w fun e w' => e = .returned (.bool true) ∧ Below w.heap.size w w' := by
  have HS := hide (fun W => specTableNew_any n W)
  have HI := hide (fun W => implTableNew_any n W)
  have hmr := newM_len n
  generalize newM n = mr at *
  generalize newB n = t at *
  have B_w : Below w.heap.size w w := Below.refl _ _
  have HB_ := hide B_w
  clear B_w
  go_enter Try.func7, Try.ntmps7
  go_wp2_with fail
  have B_w := HB_.out
  clear HB_
  refine (HS.out w).mono ?_
  rintro e w1 ⟨vw, rfl, inw, hb_w1⟩
  have B_w1 : Below w.heap.size w w1 := B_w.trans (hb_w1.mono B_w.size)
  have hs_w1 : w.heap.size ≤ w1.heap.size := hb_w1.size
  clear hb_w1 B_w
  obtain ⟨vlw, rfl, ow, cw, rfl, _⟩ := inw.rd
  obtain ⟨w2, hW_w2⟩ : ∃ W, w1.alloc (.cells #[.slice ow mr.length cw] 25) = W := ⟨_, rfl⟩
  have bxw : w2.heap[w1.heap.size]? = some (.cells #[.slice ow mr.length cw] 25 (0, 0)) := by rw [← hW_w2]; exact World.alloc_heap_new w1 _
  have hb_w2 : Below w1.heap.size w1 w2 := by rw [← hW_w2]; exact (Below.refl _ _).alloc (Nat.le_refl _) _
  have hz_w2 : w1.heap.size < w2.heap.size := by rw [← hW_w2]; simp
  replace inw := inw.step (Stp.of (lo := 0) (hi := 0) hb_w2) (.inl (Nat.zero_le _))
  have B_w2 : Below w.heap.size w w2 := B_w1.trans (hb_w2.mono B_w1.size)
  have hs_w2 : w1.heap.size ≤ w2.heap.size := hb_w2.size
  clear hb_w2 B_w1
  have Hinw := hide inw
  clear inw
  have Hbxw := hide bxw
  clear bxw
  have HB_ := hide B_w2
  clear B_w2
  go_wp2_with fail
  have inw := Hinw.out
  clear Hinw
  have bxw := Hbxw.out
  clear Hbxw
  have B_w2 := HB_.out
  clear HB_
  refine (HI.out w2).mono ?_
  rintro e w3 ⟨vg, rfl, ing, hb_w3⟩
  replace inw := inw.step (Stp.of (lo := 0) (hi := 0) hb_w3) (.inl (Nat.zero_le _))
  replace bxw := (hb_w3.block _ (by omega)).trans bxw
  have B_w3 : Below w.heap.size w w3 := B_w2.trans (hb_w3.mono B_w2.size)
  have hs_w3 : w2.heap.size ≤ w3.heap.size := hb_w3.size
  clear hb_w3 B_w2
  obtain ⟨vlg, rfl, og, cg, rfl, _⟩ := ing.rd
  obtain ⟨w4, hW_w4⟩ : ∃ W, w3.alloc (.cells #[.slice og mr.length cg] 25) = W := ⟨_, rfl⟩
  have bxg : w4.heap[w3.heap.size]? = some (.cells #[.slice og mr.length cg] 25 (0, 0)) := by rw [← hW_w4]; exact World.alloc_heap_new w3 _
  have hb_w4 : Below w3.heap.size w3 w4 := by rw [← hW_w4]; exact (Below.refl _ _).alloc (Nat.le_refl _) _
  have hz_w4 : w3.heap.size < w4.heap.size := by rw [← hW_w4]; simp
  replace inw := inw.step (Stp.of (lo := 0) (hi := 0) hb_w4) (.inl (Nat.zero_le _))
  replace bxw := (hb_w4.block _ (by omega)).trans bxw
  replace ing := ing.step (Stp.of (lo := 0) (hi := 0) hb_w4) (.inl (Nat.zero_le _))
  have B_w4 : Below w.heap.size w w4 := B_w3.trans (hb_w4.mono B_w3.size)
  have hs_w4 : w3.heap.size ≤ w4.heap.size := hb_w4.size
  clear hb_w4 B_w3
  have bxgc0 : w4.cell? ⟨w3.heap.size, 0, none⟩ = some (.slice og mr.length cg) := block_cell1 bxg 0 _ rfl
  have bxwc0 : w4.cell? ⟨w1.heap.size, 0, none⟩ = some (.slice ow mr.length cw) := block_cell1 bxw 0 _ rfl
  have Hinw := hide inw
  clear inw
  have Hbxw := hide bxw
  clear bxw
  have Hing := hide ing
  clear ing
  have Hbxg := hide bxg
  clear bxg
  have HB_ := hide B_w4
  clear B_w4
  go_wp2_with fail
  clear bxgc0
  clear bxwc0
  have inw := Hinw.out
  clear Hinw
  have bxw := Hbxw.out
  clear Hbxw
  have ing := Hing.out
  clear Hing
  have bxg := Hbxg.out
  clear Hbxg
  have B_w4 := HB_.out
  clear HB_
  refine (eqTable_sh _ _ mr w4 (ing.rd.le (by omega)) (inw.rd.le (by omega)) (by omega)).mono ?_
  rintro e w5 ⟨rfl, hb_w5⟩
  replace inw := inw.step (Stp.of (lo := 0) (hi := 0) hb_w5) (.inl (Nat.zero_le _))
  replace bxw := (hb_w5.block _ (by omega)).trans bxw
  replace ing := ing.step (Stp.of (lo := 0) (hi := 0) hb_w5) (.inl (Nat.zero_le _))
  replace bxg := (hb_w5.block _ (by omega)).trans bxg
  have B_w5 : Below w.heap.size w w5 := B_w4.trans (hb_w5.mono B_w4.size)
  have hs_w5 : w4.heap.size ≤ w5.heap.size := hb_w5.size
  clear hb_w5 B_w4
  have hk2 : (0 : Int) ≤ 1 + 5 * (mr.length : Int) ∧ 1 + 5 * (mr.length : Int) ≤ 10000000 := by omega
  have bxgc0 : w5.cell? ⟨w3.heap.size, 0, none⟩ = some (.slice og mr.length cg) := block_cell1 bxg 0 _ rfl
  have Hinw := hide inw
  clear inw
  have Hbxw := hide bxw
  clear bxw
  have Hing := hide ing
  clear ing
  have Hbxg := hide bxg
  clear bxg
  have HB_ := hide B_w5
  clear B_w5
  go_wp2_with fail
  clear bxgc0
  have inw := Hinw.out
  clear Hinw
  have bxw := Hbxw.out
  clear Hbxw
  have ing := Hing.out
  clear Hing
  have bxg := Hbxg.out
  clear Hbxg
  have B_w5 := HB_.out
  clear HB_
  refine (markTable_sh w2.heap.size w3.heap.size _ mr 1 w5 ing (by omega) (by omega) (by omega)).mono ?_
  rintro e w6 ⟨rfl, ing', sp_w6⟩
  replace inw := inw.step sp_w6 (by omega)
  replace bxw := sp_w6.box bxw (by omega)
  replace bxg := sp_w6.box bxg (by omega)
  have B_w6 : Below w.heap.size w w6 := B_w5.trans (sp_w6.below (by omega) (by omega))
  have hs_w6 : w5.heap.size ≤ w6.heap.size := sp_w6.size
  clear sp_w6 B_w5
  clear ing
  have ing := ing'
  clear ing'
  have bxgc0 : w6.cell? ⟨w3.heap.size, 0, none⟩ = some (.slice og mr.length cg) := block_cell1 bxg 0 _ rfl
  have Hinw := hide inw
  clear inw
  have Hbxw := hide bxw
  clear bxw
  have Hing := hide ing
  clear ing
  have Hbxg := hide bxg
  clear bxg
  have HB_ := hide B_w6
  clear B_w6
  go_wp2_with fail
  clear bxgc0
  have inw := Hinw.out
  clear Hinw
  have bxw := Hbxw.out
  clear Hbxw
  have ing := Hing.out
  clear Hing
  have bxg := Hbxg.out
  clear Hbxg
  have B_w6 := HB_.out
  clear HB_
  refine (heldTable_sh _ mr 1 w6 (ing.rd.le (by omega)) (by omega) (by omega) (by omega)).mono ?_
  rintro e w7 ⟨rfl, hb_w7⟩
  replace inw := inw.step (Stp.of (lo := 0) (hi := 0) hb_w7) (.inl (Nat.zero_le _))
  replace bxw := (hb_w7.block _ (by omega)).trans bxw
  replace ing := ing.step (Stp.of (lo := 0) (hi := 0) hb_w7) (.inl (Nat.zero_le _))
  replace bxg := (hb_w7.block _ (by omega)).trans bxg
  have B_w7 : Below w.heap.size w w7 := B_w6.trans (hb_w7.mono B_w6.size)
  have hs_w7 : w6.heap.size ≤ w7.heap.size := hb_w7.size
  clear hb_w7 B_w6
  have Hinw := hide inw
  clear inw
  have Hbxw := hide bxw
  clear bxw
  have Hing := hide ing
  clear ing
  have Hbxg := hide bxg
  clear bxg
  have HB_ := hide B_w7
  clear B_w7
  go_wp2_with fail
  have inw := Hinw.out
  clear Hinw
  have bxw := Hbxw.out
  clear Hbxw
  have ing := Hing.out
  clear Hing
  have bxg := Hbxg.out
  clear Hbxg
  have B_w7 := HB_.out
  clear HB_
  refine (HI.out w7).mono ?_
  rintro e w8 ⟨vh, rfl, inh, hb_w8⟩
  replace inw := inw.step (Stp.of (lo := 0) (hi := 0) hb_w8) (.inl (Nat.zero_le _))
  replace bxw := (hb_w8.block _ (by omega)).trans bxw
  replace ing := ing.step (Stp.of (lo := 0) (hi := 0) hb_w8) (.inl (Nat.zero_le _))
  replace bxg := (hb_w8.block _ (by omega)).trans bxg
  have B_w8 : Below w.heap.size w w8 := B_w7.trans (hb_w8.mono B_w7.size)
  have hs_w8 : w7.heap.size ≤ w8.heap.size := hb_w8.size
  clear hb_w8 B_w7
  obtain ⟨vlh, rfl, oh, ch, rfl, _⟩ := inh.rd
  obtain ⟨w9, hW_w9⟩ : ∃ W, w8.alloc (.cells #[.slice oh mr.length ch] 25) = W := ⟨_, rfl⟩
  have bxh : w9.heap[w8.heap.size]? = some (.cells #[.slice oh mr.length ch] 25 (0, 0)) := by rw [← hW_w9]; exact World.alloc_heap_new w8 _
  have hb_w9 : Below w8.heap.size w8 w9 := by rw [← hW_w9]; exact (Below.refl _ _).alloc (Nat.le_refl _) _
  have hz_w9 : w8.heap.size < w9.heap.size := by rw [← hW_w9]; simp
  replace inw := inw.step (Stp.of (lo := 0) (hi := 0) hb_w9) (.inl (Nat.zero_le _))
  replace bxw := (hb_w9.block _ (by omega)).trans bxw
  replace ing := ing.step (Stp.of (lo := 0) (hi := 0) hb_w9) (.inl (Nat.zero_le _))
  replace bxg := (hb_w9.block _ (by omega)).trans bxg
  replace inh := inh.step (Stp.of (lo := 0) (hi := 0) hb_w9) (.inl (Nat.zero_le _))
  have B_w9 : Below w.heap.size w w9 := B_w8.trans (hb_w9.mono B_w8.size)
  have hs_w9 : w8.heap.size ≤ w9.heap.size := hb_w9.size
  clear hb_w9 B_w8
  have bxhc0 : w9.cell? ⟨w8.heap.size, 0, none⟩ = some (.slice oh mr.length ch) := block_cell1 bxh 0 _ rfl
  have bxwc0 : w9.cell? ⟨w1.heap.size, 0, none⟩ = some (.slice ow mr.length cw) := block_cell1 bxw 0 _ rfl
  have Hinw := hide inw
  clear inw
  have Hbxw := hide bxw
  clear bxw
  have Hing := hide ing
  clear ing
  have Hbxg := hide bxg
  clear bxg
  have Hinh := hide inh
  clear inh
  have Hbxh := hide bxh
  clear bxh
  have HB_ := hide B_w9
  clear B_w9
  go_wp2_with fail
  clear bxhc0
  clear bxwc0
  have inw := Hinw.out
  clear Hinw
  have bxw := Hbxw.out
  clear Hbxw
  have ing := Hing.out
  clear Hing
  have bxg := Hbxg.out
  clear Hbxg
  have inh := Hinh.out
  clear Hinh
  have bxh := Hbxh.out
  clear Hbxh
  have B_w9 := HB_.out
  clear HB_
  refine (eqTable_sh _ _ mr w9 (inh.rd.le (by omega)) (inw.rd.le (by omega)) (by omega)).mono ?_
  rintro e w10 ⟨rfl, hb_w10⟩
  replace inw := inw.step (Stp.of (lo := 0) (hi := 0) hb_w10) (.inl (Nat.zero_le _))
  replace bxw := (hb_w10.block _ (by omega)).trans bxw
  replace ing := ing.step (Stp.of (lo := 0) (hi := 0) hb_w10) (.inl (Nat.zero_le _))
  replace bxg := (hb_w10.block _ (by omega)).trans bxg
  replace inh := inh.step (Stp.of (lo := 0) (hi := 0) hb_w10) (.inl (Nat.zero_le _))
  replace bxh := (hb_w10.block _ (by omega)).trans bxh
  have B_w10 : Below w.heap.size w w10 := B_w9.trans (hb_w10.mono B_w9.size)
  have hs_w10 : w9.heap.size ≤ w10.heap.size := hb_w10.size
  clear hb_w10 B_w9
  clear inh
  clear bxh
  have bxgc0 : w10.cell? ⟨w3.heap.size, 0, none⟩ = some (.slice og mr.length cg) := block_cell1 bxg 0 _ rfl
  have Hinw := hide inw
  clear inw
  have Hbxw := hide bxw
  clear bxw
  have Hing := hide ing
  clear ing
  have Hbxg := hide bxg
  clear bxg
  have HB_ := hide B_w10
  clear B_w10
  go_wp2_with fail
  clear bxgc0
  have inw := Hinw.out
  clear Hinw
  have bxw := Hbxw.out
  clear Hbxw
  have ing := Hing.out
  clear Hing
  have bxg := Hbxg.out
  clear Hbxg
  have B_w10 := HB_.out
  clear HB_
  refine (heldTable_sh _ mr 1 w10 (ing.rd.le (by omega)) (by omega) (by omega) (by omega)).mono ?_
  rintro e w11 ⟨rfl, hb_w11⟩
  replace inw := inw.step (Stp.of (lo := 0) (hi := 0) hb_w11) (.inl (Nat.zero_le _))
  replace bxw := (hb_w11.block _ (by omega)).trans bxw
  replace ing := ing.step (Stp.of (lo := 0) (hi := 0) hb_w11) (.inl (Nat.zero_le _))
  replace bxg := (hb_w11.block _ (by omega)).trans bxg
  have B_w11 : Below w.heap.size w w11 := B_w10.trans (hb_w11.mono B_w10.size)
  have hs_w11 : w10.heap.size ≤ w11.heap.size := hb_w11.size
  clear hb_w11 B_w10
  have Hinw := hide inw
  clear inw
  have Hbxw := hide bxw
  clear bxw
  have Hing := hide ing
  clear ing
  have Hbxg := hide bxg
  clear bxg
  have HB_ := hide B_w11
  clear B_w11
  go_wp2
  go_ret
  exact ⟨rfl, HB_.out⟩

set_option maxRecDepth 100000 in
theorem fnExactTableNew_lifted (os : Os) (started : os.Started) (H : Type) (enc : TypeId × Value → H) :
    ReturnsInHanded {} Try.checked os 7 .any (Rows.fnExactTableNewSpec.pre6 enc Try.prog Try.f7 Rows.fnExactTableNewRow.domain false) (Rows.fnExactTableNewSpec.post enc Try.prog Try.f7 false true false false) := by
  refine returnsInHanded_of_change (C := Try.checked) own started (by kernel_rfl) Try.func7
    (ChangeSpec.witness6 (enc := enc) (C := Try.checked) false ⟨#[], #[.int .i64 0], []⟩ 8 (by kernel_rfl) (by kernel_rfl) (by kernel_rfl) (by kernel_rfl)) ?_
  intro W base args ds gs before hval0 hW hcnd _
  have hval : ∀ (j : Nat) t v, Try.f7.params[j]? = some t → args[j]? = some v → Value.okWide Try.prog W .any base t v := hval0
  have hW' := hW
  obtain ⟨p, q, hA0, hV, rfl, hfz, hnd⟩ := hW
  have hA : DataW.TrodAll enc Try.prog W 0 (fun _ => true) true Try.f7.params.toList args.toList ds p := hA0
  rw [Try.params7] at hA hval
  obtain ⟨v0, vs0, d0, ds0, p0, q0, hargs, rfl, rfl, h0, r0⟩ := trodAll_cons hA
  obtain ⟨rfl, rfl, rfl⟩ := trodAll_nil r0
  obtain rfl : args = #[v0] := by cases args; simp_all
  obtain ⟨rfl, rfl⟩ := trodVars_none hV
  have k0 := h0
  have lt0 : ∀ x ∈ p0, x.block < W.heap.size := by obtain ⟨m, hm⟩ := k0; exact DataW.trod_lt m _ _ _ hm
  obtain ⟨a0, rfl, _, _, w0⟩ := open_int Try.underlying3 (hval 0 3 v0 rfl rfl) h0
  clear hA0 hval0
  refine (lawFnExactTableNew a0 W  ).mono fun e W' ⟨he, bel⟩ => ?_
  subst he
  exact ⟨_, rfl, _, _, _, [], _, [], hW', trodAll_mk1 (shut_bool Try.underlying4 _), (trodAll_cons_mk (Below.trod laidOut (by kernel_rfl) (of_decide_eq_true (by kernel_rfl)) k0 bel lt0) trodAll_mk0), rfl, bel.frame _, fun h => by cases h⟩

theorem fnExactTableNew_over : Rows.fnExactTableNewRow.holds Try.pinned (OpenSpec.ofChange Rows.fnExactTableNewSpec) :=
  OpenClaim.holds_of_wide 7 Try.f7 rfl rfl rfl rfl rfl rfl rfl ⟨rfl, rfl, rfl, rfl, rfl⟩ rfl rfl rfl rfl rfl (by kernel_rfl) Try.func7 (by kernel_rfl)
    (of_decide_eq_true (by kernel_rfl)) (by unfold Func.isWrapper; first | (rw [if_pos (by decide +kernel)]; kernel_rfl) | (rw [if_neg (by decide +kernel)]; exact ⟨rfl, rfl⟩))
    (fun os started H enc _ => fnExactTableNew_lifted os started H enc)

theorem fnExactTableNew_holds : Rows.FnExactTableNewSaid := fnExactTableNew_over

end Go.Proofs.Ytncdjmniphnpgaa
