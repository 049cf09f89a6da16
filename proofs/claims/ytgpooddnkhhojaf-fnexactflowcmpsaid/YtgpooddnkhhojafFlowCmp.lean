/- For any two flows the law FnExactFlowCmp answers true, and the flows read as they did: impl.FlowCmp answers as the model's. No conditions. -/
import Derived.Test.YtgpooddnkhhojafLFlow
import Derived.Test.YtgpooddnkhhojafSRank
namespace Go.Proofs.Ytgpooddnkhhojaf
open Go.ChangeShapes Go.WideShapes Go.ChangeAt Go.RowKit Go.Joins
set_option linter.unusedVariables false
set_option linter.unusedSimpArgs false

set_option maxHeartbeats 1000000 in
theorem lawFlowCmp (a b c d : Int) (w : World) :
    Calls Try.prog 4 #[.agg #[.int .i64 a, .int .i64 b], .agg #[.int .i64 c, .int .i64 d]] w fun e w' => e = .returned (.bool true) ∧ Below w.heap.size w w' := by
  have hB : Below w.heap.size w w := Below.refl _ _
  have x0 : ((w.alloc (.cells #[.int .i64 a, .int .i64 b] 23)).alloc (.cells #[.int .i64 c, .int .i64 d] 23)).cell? ⟨w.heap.size, 0, none⟩ = some (.int .i64 a) := by simp
  have x1 : ((w.alloc (.cells #[.int .i64 a, .int .i64 b] 23)).alloc (.cells #[.int .i64 c, .int .i64 d] 23)).cell? ⟨w.heap.size, 1, none⟩ = some (.int .i64 b) := by simp
  have x2 : ((w.alloc (.cells #[.int .i64 a, .int .i64 b] 23)).alloc (.cells #[.int .i64 c, .int .i64 d] 23)).cell? ⟨w.heap.size + 1, 0, none⟩ = some (.int .i64 c) := by simp
  have x3 : ((w.alloc (.cells #[.int .i64 a, .int .i64 b] 23)).alloc (.cells #[.int .i64 c, .int .i64 d] 23)).cell? ⟨w.heap.size + 1, 1, none⟩ = some (.int .i64 d) := by simp
  go_enter Try.func4, Try.ntmps4
  go_wp2
  generalize hw0 : (w.alloc (.cells #[.int .i64 a, .int .i64 b] 23)).alloc (.cells #[.int .i64 c, .int .i64 d] 23) = w0 at *
  have hk0 : w.heap.size < w0.heap.size := by rw [← hw0]; simp; omega
  have hk1 : w.heap.size + 1 < w0.heap.size := by rw [← hw0]; simp
  have hB0 : Below w.heap.size w w0 := by rw [← hw0]; exact ((Below.refl _ _).alloc (Nat.le_refl _) _).alloc (by simp) _
  clear hw0
  go_region_held3 (fun w' => w'.cell? ⟨w.heap.size, 0, none⟩ = some (.int .i64 a) ∧ w'.cell? ⟨w.heap.size, 1, none⟩ = some (.int .i64 b) ∧ w'.cell? ⟨w.heap.size + 1, 0, none⟩ = some (.int .i64 c) ∧ w'.cell? ⟨w.heap.size + 1, 1, none⟩ = some (.int .i64 d)) (first | exact ⟨r0, r1, r2, r3⟩ | exact ⟨q0, q1, q2, q3⟩ | exact ⟨p0, p1, p2, p3⟩ | exact ⟨x0, x1, x2, x3⟩) (first | (go_at_call_of 7 (Value.agg #[.int .i64 a, .int .i64 b]); refine (toFlow_any a b _).mono ?_; rintro e wa ⟨rfl, hba⟩; replace hba : Below w0.heap.size w0 wa := (Below.drew (Below.refl _ _)).trans hba; have p0 := (hba.cell (p := ⟨w.heap.size, 0, none⟩) hk0).trans x0; have p1 := (hba.cell (p := ⟨w.heap.size, 1, none⟩) hk0).trans x1; have p2 := (hba.cell (p := ⟨w.heap.size + 1, 0, none⟩) hk1).trans x2; have p3 := (hba.cell (p := ⟨w.heap.size + 1, 1, none⟩) hk1).trans x3) | (go_at_call_of 7 (Value.agg #[.int .i64 c, .int .i64 d]); refine (toFlow_any c d _).mono ?_; rintro e wb ⟨rfl, hbb⟩; replace hbb : Below w0.heap.size w0 wb := hba.trans (hbb.mono hba.size); have q0 := (hbb.cell (p := ⟨w.heap.size, 0, none⟩) hk0).trans x0; have q1 := (hbb.cell (p := ⟨w.heap.size, 1, none⟩) hk0).trans x1; have q2 := (hbb.cell (p := ⟨w.heap.size + 1, 0, none⟩) hk1).trans x2; have q3 := (hbb.cell (p := ⟨w.heap.size + 1, 1, none⟩) hk1).trans x3) | (go_at_call 9; refine (specFlowCmp_any a b c d _).mono ?_; rintro e wc ⟨rfl, hbc⟩; replace hbc : Below w0.heap.size w0 wc := hbb.trans (hbc.mono hbb.size); have r0 := (hbc.cell (p := ⟨w.heap.size, 0, none⟩) hk0).trans x0; have r1 := (hbc.cell (p := ⟨w.heap.size, 1, none⟩) hk0).trans x1; have r2 := (hbc.cell (p := ⟨w.heap.size + 1, 0, none⟩) hk1).trans x2; have r3 := (hbc.cell (p := ⟨w.heap.size + 1, 1, none⟩) hk1).trans x3))
  go_wp2
  have hBc : Below w.heap.size w wc := hB0.trans (hbc.mono (Nat.le_of_lt hk0))
  have hj0 : w.heap.size < wc.heap.size := Nat.lt_of_lt_of_le hk0 hbc.size
  have hj1 : w.heap.size + 1 < wc.heap.size := Nat.lt_of_lt_of_le hk1 hbc.size
  clear hk0 hk1 x0 x1 x2 x3 hba hbb hbc p0 p1 p2 p3 q0 q1 q2 q3
  have x0 := r0
  have x1 := r1
  have x2 := r2
  have x3 := r3
  have hk0 := hj0
  have hk1 := hj1
  clear r0 r1 r2 r3
  go_region_held3 (fun w' => w'.cell? ⟨w.heap.size, 0, none⟩ = some (.int .i64 a) ∧ w'.cell? ⟨w.heap.size, 1, none⟩ = some (.int .i64 b) ∧ w'.cell? ⟨w.heap.size + 1, 0, none⟩ = some (.int .i64 c) ∧ w'.cell? ⟨w.heap.size + 1, 1, none⟩ = some (.int .i64 d)) (first | exact ⟨r0, r1, r2, r3⟩ | exact ⟨q0, q1, q2, q3⟩ | exact ⟨p0, p1, p2, p3⟩ | exact ⟨x0, x1, x2, x3⟩) (first | (go_at_call_of 7 (Value.agg #[.int .i64 a, .int .i64 b]); refine (toFlow_any a b _).mono ?_; rintro e wd ⟨rfl, hbd⟩; replace hbd : Below wc.heap.size wc wd := (Below.drew (Below.refl _ _)).trans hbd; have p0 := (hbd.cell (p := ⟨w.heap.size, 0, none⟩) hk0).trans x0; have p1 := (hbd.cell (p := ⟨w.heap.size, 1, none⟩) hk0).trans x1; have p2 := (hbd.cell (p := ⟨w.heap.size + 1, 0, none⟩) hk1).trans x2; have p3 := (hbd.cell (p := ⟨w.heap.size + 1, 1, none⟩) hk1).trans x3) | (go_at_call_of 7 (Value.agg #[.int .i64 c, .int .i64 d]); refine (toFlow_any c d _).mono ?_; rintro e we ⟨rfl, hbe⟩; replace hbe : Below wc.heap.size wc we := hbd.trans (hbe.mono hbd.size); have q0 := (hbe.cell (p := ⟨w.heap.size, 0, none⟩) hk0).trans x0; have q1 := (hbe.cell (p := ⟨w.heap.size, 1, none⟩) hk0).trans x1; have q2 := (hbe.cell (p := ⟨w.heap.size + 1, 0, none⟩) hk1).trans x2; have q3 := (hbe.cell (p := ⟨w.heap.size + 1, 1, none⟩) hk1).trans x3) | (go_at_call 10; refine (implFlowCmp_any a b c d _).mono ?_; rintro e wf ⟨rfl, hbf⟩; replace hbf : Below wc.heap.size wc wf := hbe.trans (hbf.mono hbe.size); have r0 := (hbf.cell (p := ⟨w.heap.size, 0, none⟩) hk0).trans x0; have r1 := (hbf.cell (p := ⟨w.heap.size, 1, none⟩) hk0).trans x1; have r2 := (hbf.cell (p := ⟨w.heap.size + 1, 0, none⟩) hk1).trans x2; have r3 := (hbf.cell (p := ⟨w.heap.size + 1, 1, none⟩) hk1).trans x3))
  have hBf : Below w.heap.size w wf := hBc.trans (hbf.mono (Nat.le_of_lt hk0))
  generalize flowCmpI a b c d = x
  go_wp2
  go_ret
  exact ⟨rfl, hBf⟩

set_option maxRecDepth 100000 in
theorem fnExactFlowCmp_lifted (os : Os) (started : os.Started) (H : Type) (enc : TypeId × Value → H) :
    ReturnsInHanded {} Try.checked os 4 .any (Rows.fnExactFlowCmpSpec.pre6 enc Try.prog Try.f4 Rows.fnExactFlowCmpRow.domain false) (Rows.fnExactFlowCmpSpec.post enc Try.prog Try.f4 false true false false) := by
  refine returnsInHanded_of_change (C := Try.checked) own started (by kernel_rfl) Try.func4
    (ChangeSpec.witness6 (enc := enc) (C := Try.checked) false ⟨#[], #[.agg #[.int .i64 0, .int .i64 0], .agg #[.int .i64 0, .int .i64 0]], []⟩ 8 (by kernel_rfl) (by kernel_rfl) (by kernel_rfl) (by kernel_rfl)) ?_
  intro W base args ds gs before hval0 hW hcnd _
  have hval : ∀ (j : Nat) t v, Try.f4.params[j]? = some t → args[j]? = some v → Value.okWide Try.prog W .any base t v := hval0
  have hW' := hW
  obtain ⟨p, q, hA0, hV, rfl, hfz, hnd⟩ := hW
  have hA : DataW.TrodAll enc Try.prog W 0 (fun _ => true) true Try.f4.params.toList args.toList ds p := hA0
  rw [Try.params4] at hA hval
  obtain ⟨v0, vs0, d0, ds0, p0, q0, hargs, rfl, rfl, h0, r0⟩ := trodAll_cons hA
  obtain ⟨v1, vs1, d1, ds1, p1, q1, rfl, rfl, rfl, h1, r1⟩ := trodAll_cons r0
  obtain ⟨rfl, rfl, rfl⟩ := trodAll_nil r1
  obtain rfl : args = #[v0, v1] := by cases args; simp_all
  obtain ⟨rfl, rfl⟩ := trodVars_none hV
  have k0 := h0
  have lt0 : ∀ x ∈ p0, x.block < W.heap.size := by obtain ⟨m, hm⟩ := k0; exact DataW.trod_lt m _ _ _ hm
  have k1 := h1
  have lt1 : ∀ x ∈ p1, x.block < W.heap.size := by obtain ⟨m, hm⟩ := k1; exact DataW.trod_lt m _ _ _ hm
  obtain ⟨a0, b0, rfl⟩ := open_flow (hval 0 23 v0 rfl rfl) h0
  obtain ⟨a1, b1, rfl⟩ := open_flow (hval 1 23 v1 rfl rfl) h1
  clear hA0 hval0
  refine (lawFlowCmp a0 b0 a1 b1 W   ).mono fun e W' ⟨he, bel⟩ => ?_
  subst he
  exact ⟨_, rfl, _, _, _, [], _, [], hW', trodAll_mk1 (shut_bool Try.underlying4 _), (trodAll_cons_mk (Below.trod laidOut (by kernel_rfl) (of_decide_eq_true (by kernel_rfl)) k0 bel lt0) (trodAll_cons_mk (Below.trod laidOut (by kernel_rfl) (of_decide_eq_true (by kernel_rfl)) k1 bel lt1) trodAll_mk0)), rfl, bel.frame _, fun h => by cases h⟩

theorem fnExactFlowCmp_over : Rows.fnExactFlowCmpRow.holds Try.pinned (OpenSpec.ofChange Rows.fnExactFlowCmpSpec) :=
  OpenClaim.holds_of_wide 4 Try.f4 rfl rfl rfl rfl rfl rfl rfl ⟨rfl, rfl, rfl, rfl, rfl⟩ rfl rfl rfl rfl rfl (by kernel_rfl) Try.func4 (by kernel_rfl)
    (of_decide_eq_true (by kernel_rfl)) (by unfold Func.isWrapper; first | (rw [if_pos (by decide +kernel)]; kernel_rfl) | (rw [if_neg (by decide +kernel)]; exact ⟨rfl, rfl⟩))
    (fun os started H enc _ => fnExactFlowCmp_lifted os started H enc)

theorem fnExactFlowCmp_holds : Rows.FnExactFlowCmpSaid := fnExactFlowCmp_over

end Go.Proofs.Ytgpooddnkhhojaf
