/- For all bytes the law FnHashes answers true, and the bytes read as they did: drawn numbers are stirred to numbers, neighbours to unlike ones, and flows to buckets just if key and flow are as they should be. No conditions. -/
import Derived.Test.YtikbehfcngohnaaSHashes
namespace Go.Proofs.Ytikbehfcngohnaa
open Go.ChangeShapes Go.WideShapes Go.ChangeAt Go.RowKit Go.Joins
set_option linter.unusedVariables false
set_option linter.unusedSimpArgs false

theorem hashOfI_bd (k x : Int) : -1 ≤ hashOfI k x ∧ hashOfI k x < 2147483647 := by
  unfold hashOfI; split
  · have := hashI_bd k x; omega
  · omega
theorem hashOfI_cases (k x : Int) (hx : x ≤ 2147483647) : hashOfI k x < 0 ∨ (0 ≤ hashOfI k x ∧ 2147483647 ≤ x + 1) ∨ (0 ≤ hashOfI k x ∧ x + 1 < 2147483647 ∧ (hashOfI k (x + 1) == hashOfI k x) = false) := by
  by_cases h : 0 ≤ k ∧ k < 1000000 ∧ 0 ≤ x ∧ x < 2147483647
  · have e : hashOfI k x = hashI k x := by rw [hashOfI, if_pos h]
    have := hashI_bd k x
    by_cases hy : x + 1 < 2147483647
    · right; right
      have e' : hashOfI k (x + 1) = hashI k (x + 1) := by rw [hashOfI, if_pos ⟨h.1, h.2.1, by omega, hy⟩]
      rw [e, e']
      exact ⟨this.1, hy, by simpa using fun q => hashI_next q.symm⟩
    · right; left; rw [e]; exact ⟨this.1, by omega⟩
  · left; rw [hashOfI, if_neg h]; decide
theorem bucketOfI_cases (q a b : Int) : (q < 0 ∧ bucketOfI q a b < 0) ∨ (1000000 ≤ q ∧ 0 ≤ q ∧ bucketOfI q a b < 0) ∨ (0 ≤ q ∧ q < 1000000 ∧ flowOkB a b = false ∧ bucketOfI q a b < 0) ∨ (0 ≤ q ∧ q < 1000000 ∧ flowOkB a b = true ∧ 0 ≤ bucketOfI q a b) := by
  have h := bucketOfI_pos q a b
  by_cases hk : keyB q = true
  · obtain ⟨h1, h2⟩ := keyB_iff.1 hk
    right; right
    rw [hk, Bool.true_and] at h
    cases hf : flowOkB a b with
    | false => left; rw [hf] at h; exact ⟨h1, h2, rfl, by simpa using h⟩
    | true => right; rw [hf] at h; exact ⟨h1, h2, rfl, by simpa using h⟩
  · have hk' : keyB q = false := by simpa using hk
    rw [hk', Bool.false_and] at h
    have hz : bucketOfI q a b < 0 := by simpa using h
    by_cases h0 : q < 0
    · exact .inl ⟨h0, hz⟩
    · right; left
      refine ⟨?_, by omega, hz⟩
      have := mt keyB_iff.2 hk
      omega

set_option maxHeartbeats 4000000 in
theorem lawHashes (o : Option Addr) (cap : Nat) (l : List Int) (w : World) (hm : l.length ≤ maxLen) (hR : Rd w o l) (hB8 : isB l) :
    Calls Try.prog 3 #[.slice o l.length cap] w fun e w' => e = .returned (.bool true) ∧ Below w.heap.size w w' := by
  go_enter Try.func3, Try.ntmps3
  go_wp2_with fail
  refine (drawHashOf_any o cap l w hR hB8 hm).mono ?_
  rintro e wa ⟨k, x, rfl, hk, hx, hBa⟩
  have hH := fun W => implHashOf_any k x W
  have hH2 := fun W => implHashOf_any k (x + 1) W
  have hbd := hashOfI_bd k x
  have HCS := hide (hashOfI_cases k x hx.2)
  generalize hashOfI k x = h at *
  generalize hashOfI k (x + 1) = h2 at *
  go_wp2_with fail
  refine (hH _).mono ?_
  rintro e _ ⟨rfl, rfl⟩
  go_wp2_with fail
  refine (drawBucketOf_any o cap l wa (hR.kept hBa) hB8 hm).mono ?_
  rintro e wb ⟨q, a, b, rfl, hq, hbb⟩
  have hBb : Below w.heap.size w wb := hBa.trans (hbb.mono hBa.size)
  have hF := fun W => specFlowOk_any a b W
  have hBk := fun W => implBucketOf_any q a b W
  have hbd2 := bucketOfI_bd q a b
  have HCS2 := hide (bucketOfI_cases q a b)
  generalize bucketOfI q a b = z at *
  generalize flowOkB a b = t at *
  clear hBa hbb
  go_wp2_with fail
  have c0 : (wb.alloc (.cells #[.int .i64 a, .int .i64 b] 27)).cell? ⟨wb.heap.size, 0, none⟩ = some (.int .i64 a) := by simp
  have c1 : (wb.alloc (.cells #[.int .i64 a, .int .i64 b] 27)).cell? ⟨wb.heap.size, 1, none⟩ = some (.int .i64 b) := by simp
  have hb0 : Below wb.heap.size wb (wb.alloc (.cells #[.int .i64 a, .int .i64 b] 27)) := (Below.refl _ _).alloc (Nat.le_refl _) _
  have hs0 : wb.heap.size < (wb.alloc (.cells #[.int .i64 a, .int .i64 b] 27)).heap.size := by simp
  generalize wb.alloc (.cells #[.int .i64 a, .int .i64 b] 27) = w0 at *
  refine (hBk _).mono ?_
  rintro e wc ⟨rfl, hbc⟩
  have hBc : Below w.heap.size w wc := hBb.trans ((hb0.mono hBb.size).trans (hbc.mono (Nat.le_trans hBb.size hb0.size)))
  have hsc : wb.heap.size < wc.heap.size := Nat.lt_of_lt_of_le hs0 hbc.size
  replace c0 := (hbc.cell (p := ⟨wb.heap.size, 0, none⟩) hs0).trans c0
  replace c1 := (hbc.cell (p := ⟨wb.heap.size, 1, none⟩) hs0).trans c1
  clear hBb hb0 hs0 hbc hBk hR hB8 hm
  have hxx : (h != h) = false := by simp
  have d1 : decide (h < -1) = false := by simp; omega
  have d2 : decide (2147483647 ≤ h) = false := by simp; omega
  have d3 : decide (z < -1) = false := by simp; omega
  have d4 : decide (8 ≤ z) = false := by simp; omega
  have HB := hide hBc
  clear hBc
  rcases HCS2.out with ⟨r0, r1⟩ | ⟨r0, r2, r1⟩ | ⟨r0, r2, rfl, r1⟩ | ⟨r0, r2, rfl, r1⟩
  all_goals rcases HCS.out with g | ⟨g, g1⟩ | ⟨g, g1, g2⟩
  all_goals clear HCS HCS2
  all_goals (
    go_wp2_with (first | (go_at_call_of 14 (Value.int .i64 x); refine (hH _).mono ?_; rintro e _ ⟨rfl, rfl⟩) | (go_at_call 14; refine (hH2 _).mono ?_; rintro e _ ⟨rfl, rfl⟩) | (go_at_call 17; refine (hF _).mono ?_; rintro e wd ⟨rfl, hbd'⟩; replace HB := hide (HB.out.trans (hbd'.mono HB.out.size)); clear hbd') | (go_at_call 18; refine (hashes_any _).mono ?_; rintro e we ⟨rfl, hbe⟩; replace HB := hide (HB.out.trans (hbe.mono HB.out.size)); clear hbe))
    go_ret
    first | exact ⟨rfl, HB.out⟩ | exact ⟨by simp [*], HB.out⟩ | exact ⟨by simp; omega, HB.out⟩)

set_option maxRecDepth 100000 in
theorem fnHashes_lifted (os : Os) (started : os.Started) (H : Type) (enc : TypeId × Value → H) :
    ReturnsInHanded {} Try.checked os 3 .any (Rows.fnHashesSpec.pre6 enc Try.prog Try.f3 Rows.fnHashesRow.domain false) (Rows.fnHashesSpec.post enc Try.prog Try.f3 false true false false) := by
  refine returnsInHanded_of_change (C := Try.checked) own started (by kernel_rfl) Try.func3
    (ChangeSpec.witness6 (enc := enc) (C := Try.checked) false ⟨#[], #[.slice none 0 0], []⟩ 8 (by kernel_rfl) (by kernel_rfl) (by kernel_rfl) (by kernel_rfl)) ?_
  intro W base args ds gs before hval0 hW hcnd _
  have hval : ∀ (j : Nat) t v, Try.f3.params[j]? = some t → args[j]? = some v → Value.okWide Try.prog W .any base t v := hval0
  have hW' := hW
  obtain ⟨p, q, hA0, hV, rfl, hfz, hnd⟩ := hW
  have hA : DataW.TrodAll enc Try.prog W 0 (fun _ => true) true Try.f3.params.toList args.toList ds p := hA0
  rw [Try.params3] at hA hval
  obtain ⟨v0, vs0, d0, ds0, p0, q0, hargs, rfl, rfl, h0, r0⟩ := trodAll_cons hA
  obtain ⟨rfl, rfl, rfl⟩ := trodAll_nil r0
  obtain rfl : args = #[v0] := by cases args; simp_all
  obtain ⟨rfl, rfl⟩ := trodVars_none hV
  have k0 := h0
  have lt0 : ∀ x ∈ p0, x.block < W.heap.size := by obtain ⟨m, hm⟩ := k0; exact DataW.trod_lt m _ _ _ hm
  obtain ⟨o0, cap0, l0, rfl, hm0, hR0, hB80⟩ := open_bytes (hval 0 22 v0 rfl rfl) h0
  clear hA0 hval0
  refine (lawHashes o0 cap0 l0 W hm0 hR0 hB80 ).mono fun e W' ⟨he, bel⟩ => ?_
  subst he
  exact ⟨_, rfl, _, _, _, [], _, [], hW', trodAll_mk1 (shut_bool Try.underlying4 _), (trodAll_cons_mk (Below.trod laidOut (by kernel_rfl) (of_decide_eq_true (by kernel_rfl)) k0 bel lt0) trodAll_mk0), rfl, bel.frame _, fun h => by cases h⟩

theorem fnHashes_over : Rows.fnHashesRow.holds Try.pinned (OpenSpec.ofChange Rows.fnHashesSpec) :=
  OpenClaim.holds_of_wide 3 Try.f3 rfl rfl rfl rfl rfl rfl rfl ⟨rfl, rfl, rfl, rfl, rfl⟩ rfl rfl rfl rfl rfl (by kernel_rfl) Try.func3 (by kernel_rfl)
    (of_decide_eq_true (by kernel_rfl)) (by unfold Func.isWrapper; first | (rw [if_pos (by decide +kernel)]; kernel_rfl) | (rw [if_neg (by decide +kernel)]; exact ⟨rfl, rfl⟩))
    (fun os started H enc _ => fnHashes_lifted os started H enc)

theorem fnHashes_holds : Rows.FnHashesSaid := fnHashes_over

end Go.Proofs.Ytikbehfcngohnaa
