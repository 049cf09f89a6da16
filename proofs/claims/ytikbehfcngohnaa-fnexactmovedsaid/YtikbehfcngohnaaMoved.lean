/- For any two tables the law FnExactMoved answers true, and the tables read as they did: impl.Moved answers as the model's, and writes nothing into what it is handed. No conditions. -/
import Derived.Test.YtikbehfcngohnaaSMoved
namespace Go.Proofs.Ytikbehfcngohnaa
open Go.ChangeShapes Go.WideShapes Go.ChangeAt Go.RowKit Go.Joins
set_option linter.unusedVariables false
set_option linter.unusedSimpArgs false

theorem fits_len {ll : List (List Int)} {n : Int} (h : fits ll n) (hn : n ≤ 1048576) : ll.length ≤ 1048576 := by
  have := h 0 (Nat.zero_le _); unfold leftTo at this; omega
theorem fits_row {ll : List (List Int)} {n : Int} (h : fits ll n) (hn : n ≤ 1048576) : ∀ i, i < ll.length → (ll.getD i []).length ≤ 1048576 := fun i hi => by
  have h1 := h (i + 1) hi
  have h2 := leftTo_le ll n i
  rw [show leftTo ll n (i + 1) = leftTo ll n i - (ll.getD i []).length from rfl] at h1
  omega
theorem fits_left {ll : List (List Int)} {n : Int} (h : fits ll n) : 0 ≤ leftLL ll n ∧ leftLL ll n ≤ n := ⟨h ll.length (Nat.le_refl _), by have := leftTo_le ll n ll.length; unfold leftLL; omega⟩

set_option maxHeartbeats 2000000 in
theorem lawMoved (oa : Option Addr) (ca : Nat) (aa : List (List Int)) (ob : Option Addr) (cb : Nat) (bb : List (List Int)) (w : World) (hma : aa.length ≤ maxLen) (hA : RdLL w.heap.size w oa aa) (hxa : ∀ i, i < aa.length → (aa.getD i []).length ≤ maxLen) (hmb : bb.length ≤ maxLen) (hB : RdLL w.heap.size w ob bb) (hxb : ∀ i, i < bb.length → (bb.getD i []).length ≤ maxLen) :
    Calls Try.prog 12 #[.slice oa aa.length ca, .slice ob bb.length cb] w fun e w' => e = .returned (.bool true) ∧ Below w.heap.size w w' := by
  go_enter Try.func12, Try.ntmps12
  go_wp2_with fail
  refine (szIntSS_any oa aa ca 1048576 _ hA hma hxa (by decide) (by decide)).mono ?_
  rintro e w1 ⟨rfl | ⟨hfa, rfl⟩, hb1⟩
  · go_wp2
    go_ret
    exact ⟨rfl, hb1⟩
  have la := fits_len hfa (by decide)
  have xa := fits_row hfa (by decide)
  have fa := fits_left hfa
  generalize leftLL aa 1048576 = n1 at *
  replace hA := (hA.kept hb1 (Nat.le_refl _)).le hb1.size
  replace hB := (hB.kept hb1 (Nat.le_refl _)).le hb1.size
  go_wp2_with fail
  refine (szIntSS_any ob bb cb n1 _ hB hmb hxb fa.1 fa.2).mono ?_
  rintro e w2 ⟨rfl | ⟨hfb, rfl⟩, hb2⟩
  · go_wp2
    go_ret
    exact ⟨rfl, hb1.trans (hb2.mono hb1.size)⟩
  have lb := fits_len hfb fa.2
  have xb := fits_row hfb fa.2
  have fb := fits_left hfb
  generalize leftLL bb n1 = n2 at *
  replace hA := (hA.kept hb2 (Nat.le_refl _)).le hb2.size
  replace hB := (hB.kept hb2 (Nat.le_refl _)).le hb2.size
  have B2 := hb1.trans (hb2.mono hb1.size)
  clear hb1 hb2 hfa hfb hxa hxb hma hmb
  go_wp2_with fail
  refine (toIntSS_any oa ca aa _ hA la xa).mono ?_
  rintro e w3 ⟨g3, rfl, r3, hb3⟩
  replace hA := (hA.kept hb3 (Nat.le_refl _)).le hb3.size
  replace hB := (hB.kept hb3 (Nat.le_refl _)).le hb3.size
  have B3 := B2.trans (hb3.mono B2.size)
  clear hb3 B2
  go_wp2_with fail
  refine (toIntSS_any ob cb bb _ hB lb xb).mono ?_
  rintro e w4 ⟨g4, rfl, r4, hb4⟩
  replace hA := (hA.kept hb4 (Nat.le_refl _)).le hb4.size
  replace hB := (hB.kept hb4 (Nat.le_refl _)).le hb4.size
  replace r3 := (r3.kept hb4 (Nat.le_refl _)).le hb4.size
  have B4 := B3.trans (hb4.mono B3.size)
  clear hb4 B3
  go_wp2_with fail
  refine (specMoved_any _ _ _ _ aa bb _ r3 r4 la lb xa xb).mono ?_
  rintro e w5 ⟨rfl, hb5⟩
  replace hA := (hA.kept hb5 (Nat.le_refl _)).le hb5.size
  replace hB := (hB.kept hb5 (Nat.le_refl _)).le hb5.size
  have B5 := B4.trans (hb5.mono B4.size)
  clear hb5 B4 r3 r4
  go_wp2_with fail
  refine (toIntSS_any oa ca aa _ hA la xa).mono ?_
  rintro e w6 ⟨g6, rfl, r6, hb6⟩
  replace hA := (hA.kept hb6 (Nat.le_refl _)).le hb6.size
  replace hB := (hB.kept hb6 (Nat.le_refl _)).le hb6.size
  have B6 := B5.trans (hb6.mono B5.size)
  clear hb6 B5
  go_wp2_with fail
  refine (toIntSS_any ob cb bb _ hB lb xb).mono ?_
  rintro e w7 ⟨g7, rfl, r7, hb7⟩
  replace hA := (hA.kept hb7 (Nat.le_refl _)).le hb7.size
  replace hB := (hB.kept hb7 (Nat.le_refl _)).le hb7.size
  replace r6 := (r6.kept hb7 (Nat.le_refl _)).le hb7.size
  have B7 := B6.trans (hb7.mono B6.size)
  clear hb7 B6
  go_wp2_with fail
  refine (implMoved_any _ _ _ _ aa bb _ r6 r7 la lb xa xb).mono ?_
  rintro e w8 ⟨rfl, hb8⟩
  replace hA := (hA.kept hb8 (Nat.le_refl _)).le hb8.size
  replace hB := (hB.kept hb8 (Nat.le_refl _)).le hb8.size
  replace r6 := (r6.kept hb8 (Nat.le_refl _)).le hb8.size
  replace r7 := (r7.kept hb8 (Nat.le_refl _)).le hb8.size
  have B8 := B7.trans (hb8.mono B7.size)
  clear hb8 B7
  generalize movedI aa bb = m
  go_wp2_with fail
  refine (toIntSS_any oa ca aa _ hA la xa).mono ?_
  rintro e w9 ⟨g9, rfl, r9, hb9⟩
  replace hB := (hB.kept hb9 (Nat.le_refl _)).le hb9.size
  replace r6 := (r6.kept hb9 (Nat.le_refl _)).le hb9.size
  replace r7 := (r7.kept hb9 (Nat.le_refl _)).le hb9.size
  have B9 := B8.trans (hb9.mono B8.size)
  clear hb9 B8 hA
  go_wp2_with fail
  refine (eqIntSS_same _ _ _ _ aa _ r6 r9 la xa).mono ?_
  rintro e w10 ⟨rfl, hb10⟩
  replace hB := (hB.kept hb10 (Nat.le_refl _)).le hb10.size
  replace r7 := (r7.kept hb10 (Nat.le_refl _)).le hb10.size
  have B10 := B9.trans (hb10.mono B9.size)
  clear hb10 B9 r6 r9
  go_wp2_with fail
  refine (toIntSS_any ob cb bb _ hB lb xb).mono ?_
  rintro e w11 ⟨g11, rfl, r11, hb11⟩
  replace r7 := (r7.kept hb11 (Nat.le_refl _)).le hb11.size
  have B11 := B10.trans (hb11.mono B10.size)
  clear hb11 B10 hB
  go_wp2_with fail
  refine (eqIntSS_same _ _ _ _ bb _ r7 r11 lb xb).mono ?_
  rintro e w12 ⟨rfl, hb12⟩
  have B12 := B11.trans (hb12.mono B11.size)
  go_wp2
  go_ret
  exact ⟨rfl, B12⟩

set_option maxRecDepth 100000 in
theorem fnExactMoved_lifted (os : Os) (started : os.Started) (H : Type) (enc : TypeId × Value → H) :
    ReturnsInHanded {} Try.checked os 12 .any (Rows.fnExactMovedSpec.pre6 enc Try.prog Try.f12 Rows.fnExactMovedRow.domain false) (Rows.fnExactMovedSpec.post enc Try.prog Try.f12 false true false false) := by
  refine returnsInHanded_of_change (C := Try.checked) own started (by kernel_rfl) Try.func12
    (ChangeSpec.witness6 (enc := enc) (C := Try.checked) false ⟨#[], #[.slice none 0 0, .slice none 0 0], []⟩ 8 (by kernel_rfl) (by kernel_rfl) (by kernel_rfl) (by kernel_rfl)) ?_
  intro W base args ds gs before hval0 hW hcnd _
  have hval : ∀ (j : Nat) t v, Try.f12.params[j]? = some t → args[j]? = some v → Value.okWide Try.prog W .any base t v := hval0
  have hW' := hW
  obtain ⟨p, q, hA0, hV, rfl, hfz, hnd⟩ := hW
  have hA : DataW.TrodAll enc Try.prog W 0 (fun _ => true) true Try.f12.params.toList args.toList ds p := hA0
  rw [Try.params12] at hA hval
  obtain ⟨v0, vs0, d0, ds0, p0, q0, hargs, rfl, rfl, h0, r0⟩ := trodAll_cons hA
  obtain ⟨v1, vs1, d1, ds1, p1, q1, rfl, rfl, rfl, h1, r1⟩ := trodAll_cons r0
  obtain ⟨rfl, rfl, rfl⟩ := trodAll_nil r1
  obtain rfl : args = #[v0, v1] := by cases args; simp_all
  obtain ⟨rfl, rfl⟩ := trodVars_none hV
  have k0 := h0
  have lt0 : ∀ x ∈ p0, x.block < W.heap.size := by obtain ⟨m, hm⟩ := k0; exact DataW.trod_lt m _ _ _ hm
  have k1 := h1
  have lt1 : ∀ x ∈ p1, x.block < W.heap.size := by obtain ⟨m, hm⟩ := k1; exact DataW.trod_lt m _ _ _ hm
  obtain ⟨o0, cap0, l0, rfl, hm0, hR0, hX0⟩ := open_rows (hval 0 45 v0 rfl rfl) h0
  obtain ⟨o1, cap1, l1, rfl, hm1, hR1, hX1⟩ := open_rows (hval 1 45 v1 rfl rfl) h1
  clear hA0 hval0
  refine (lawMoved o0 cap0 l0 o1 cap1 l1 W hm0 hR0 hX0 hm1 hR1 hX1 ).mono fun e W' ⟨he, bel⟩ => ?_
  subst he
  exact ⟨_, rfl, _, _, _, [], _, [], hW', trodAll_mk1 (shut_bool Try.underlying4 _), (trodAll_cons_mk (Below.trod laidOut (by kernel_rfl) (of_decide_eq_true (by kernel_rfl)) k0 bel lt0) (trodAll_cons_mk (Below.trod laidOut (by kernel_rfl) (of_decide_eq_true (by kernel_rfl)) k1 bel lt1) trodAll_mk0)), rfl, bel.frame _, fun h => by cases h⟩

theorem fnExactMoved_over : Rows.fnExactMovedRow.holds Try.pinned (OpenSpec.ofChange Rows.fnExactMovedSpec) :=
  OpenClaim.holds_of_wide 12 Try.f12 rfl rfl rfl rfl rfl rfl rfl ⟨rfl, rfl, rfl, rfl, rfl⟩ rfl rfl rfl rfl rfl (by kernel_rfl) Try.func12 (by kernel_rfl)
    (of_decide_eq_true (by kernel_rfl)) (by unfold Func.isWrapper; first | (rw [if_pos (by decide +kernel)]; kernel_rfl) | (rw [if_neg (by decide +kernel)]; exact ⟨rfl, rfl⟩))
    (fun os started H enc _ => fnExactMoved_lifted os started H enc)

theorem fnExactMoved_holds : Rows.FnExactMovedSaid := fnExactMoved_over

end Go.Proofs.Ytikbehfcngohnaa
