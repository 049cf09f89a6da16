/- For every number the law FnExactVerdictText answers true: impl.VerdictText answers as the model's, and its answer owns its memory. No conditions. -/
import Derived.Test.YtdoijnmgnocjaaaSVerd
namespace Go.Proofs.Ytdoijnmgnocjaaa
open Go.ChangeShapes Go.WideShapes Go.ChangeAt Go.RowKit Go.Joins
set_option linter.unusedVariables false
set_option linter.unusedSimpArgs false

theorem verdL_len (v : Int) : (verdL v).length ≤ 4 := by
  unfold verdL
  repeat (split; · decide)
  decide
theorem CvB.blk {w : World} {base : Nat} {v : Value} {l : List Int} (h : CvB w base v l) : ∀ b, v.ownBlock = some b → base ≤ b := by
  rcases h with ⟨rfl, _⟩ | ⟨g, cap, rfl, hb, _⟩
  · intro b e; simp [Value.ownBlock] at e
  · intro b e; simp [Value.ownBlock] at e; omega
set_option maxRecDepth 100000 in
set_option maxHeartbeats 2000000 in
theorem lawVerdictText (v : Int) (w : World) :
    Calls Try.prog 6 #[.int .i64 v] w fun e w' => e = .returned (.bool true) ∧ Below w.heap.size w w' := by
  have HL := hide (verdL_len v)
  have HS := hide (fun W => specVerd_any v W)
  have HI := hide (fun W => implVerd_any v W)
  obtain ⟨L, hL⟩ : ∃ L, verdL v = L := ⟨_, rfl⟩
  rw [hL] at HL HS HI
  clear hL
  obtain ⟨n, hn⟩ : ∃ n, L.length = n := ⟨_, rfl⟩
  have HN := hide hn
  have HL4 : Hid (n ≤ 4) := by have := HL.out; unfold Hid; omega
  clear hn HL
  go_enter Try.func6, Try.ntmps6
  go_wp2_with fail
  refine (HS.out w).mono ?_
  rintro e w1 ⟨r1, rfl, c1, b1⟩
  obtain ⟨o1, k1, e1, R1⟩ := c1.open
  rw [HN.out] at e1
  subst e1
  go_wp2_with fail
  refine (HI.out w1).mono ?_
  rintro e w2 ⟨r2, rfl, c2, b2⟩
  obtain ⟨o2, k2, e2, R2⟩ := c2.open
  rw [HN.out] at e2
  subst e2
  have R1' := R1.kept b2
  have HEQ := hide (eqByteS_same o2 o1 k2 k1 L w2 R2 R1' (by have := HN.out; have := HL4.out; omega))
  rw [HN.out] at HEQ
  go_wp2_with fail
  refine HEQ.out.mono ?_
  rintro e w3 ⟨rfl, b3⟩
  have HMK := hide (markCv_any w1.heap.size _ L 1 w3 (c2.kept b3 (Nat.le_refl _)) (by omega) (by omega) (by have := HN.out; have := HL4.out; omega))
  rw [HN.out] at HMK
  go_wp2_with fail
  refine HMK.out.mono ?_
  rintro e w4 ⟨rfl, c4, g4⟩
  have b34 : Below w1.heap.size w3 w4 := (Below.refl w1.heap.size w3).grown g4 (Nat.le_trans b2.size b3.size) (fun b e => c4.blk b e)
  have s12 := b2.size
  have s23 := b3.size
  have s34 := b34.size
  have b14 : Below w1.heap.size w1 w4 := (b2.trans (b3.mono s12)).trans b34
  have B4 : Below w.heap.size w w4 := b1.trans (b14.mono b1.size)
  have R14 := R1.kept b14
  obtain ⟨o4, k4, e4, R4⟩ := c4.open
  rw [markL_length] at e4
  injection e4 with e5 e6 e7
  subst e5 e7
  clear e6 R1 R1' R2 c2 HEQ HMK b3 b2 g4 b34 c1
  have HH := hide (heldByteS_any o2 k2 n 1 w4 R4 (by omega) (by omega) (by have := HL4.out; omega))
  have hnn : ¬ (1 + (n : Int) < 0) := by omega
  go_wp2_with fail
  refine HH.out.mono ?_
  rintro e _ ⟨rfl, rfl⟩
  go_wp2_with fail
  refine (HI.out w4).mono ?_
  rintro e w5 ⟨r5, rfl, c5, b5⟩
  obtain ⟨o5, k5, e5, R5⟩ := c5.open
  rw [HN.out] at e5
  subst e5
  have HEQ := hide (eqByteS_same o5 o1 k5 k1 L w5 R5 (R14.kept b5) (by have := HN.out; have := HL4.out; omega))
  rw [HN.out] at HEQ
  go_wp2_with fail
  refine HEQ.out.mono ?_
  rintro e w6 ⟨rfl, b6⟩
  have b46 : Below w4.heap.size w4 w6 := b5.trans (b6.mono b5.size)
  have HH := hide (heldByteS_any o2 k2 n 1 w6 (R4.kept b46) (by omega) (by omega) (by have := HL4.out; omega))
  have B6 : Below w.heap.size w w6 := B4.trans (b46.mono B4.size)
  go_wp2_with fail
  refine HH.out.mono ?_
  rintro e _ ⟨rfl, rfl⟩
  go_wp2
  go_ret
  exact ⟨rfl, B6⟩

set_option maxRecDepth 100000 in
theorem fnExactVerdictText_lifted (os : Os) (started : os.Started) (H : Type) (enc : TypeId × Value → H) :
    ReturnsInHanded {} Try.checked os 6 .any (Rows.fnExactVerdictTextSpec.pre6 enc Try.prog Try.f6 Rows.fnExactVerdictTextRow.domain false) (Rows.fnExactVerdictTextSpec.post enc Try.prog Try.f6 false true false false) := by
  refine returnsInHanded_of_change (C := Try.checked) own started (by kernel_rfl) Try.func6
    (ChangeSpec.witness6 (enc := enc) (C := Try.checked) false ⟨#[], #[.int .i64 0], []⟩ 8 (by kernel_rfl) (by kernel_rfl) (by kernel_rfl) (by kernel_rfl)) ?_
  intro W base args ds gs before hval0 hW hcnd _
  have hval : ∀ (j : Nat) t v, Try.f6.params[j]? = some t → args[j]? = some v → Value.okWide Try.prog W .any base t v := hval0
  have hW' := hW
  obtain ⟨p, q, hA0, hV, rfl, hfz, hnd⟩ := hW
  have hA : DataW.TrodAll enc Try.prog W 0 (fun _ => true) true Try.f6.params.toList args.toList ds p := hA0
  rw [Try.params6] at hA hval
  obtain ⟨v0, vs0, d0, ds0, p0, q0, hargs, rfl, rfl, h0, r0⟩ := trodAll_cons hA
  obtain ⟨rfl, rfl, rfl⟩ := trodAll_nil r0
  obtain rfl : args = #[v0] := by cases args; simp_all
  obtain ⟨rfl, rfl⟩ := trodVars_none hV
  have k0 := h0
  have lt0 : ∀ x ∈ p0, x.block < W.heap.size := by obtain ⟨m, hm⟩ := k0; exact DataW.trod_lt m _ _ _ hm
  obtain ⟨a0, rfl, _, _, w0⟩ := open_int Try.underlying3 (hval 0 3 v0 rfl rfl) h0
  clear hA0 hval0
  refine (lawVerdictText a0 W  ).mono fun e W' ⟨he, bel⟩ => ?_
  subst he
  exact ⟨_, rfl, _, _, _, [], _, [], hW', trodAll_mk1 (shut_bool Try.underlying4 _), (trodAll_cons_mk (Below.trod laidOut (by kernel_rfl) (of_decide_eq_true (by kernel_rfl)) k0 bel lt0) trodAll_mk0), rfl, bel.frame _, fun h => by cases h⟩

theorem fnExactVerdictText_over : Rows.fnExactVerdictTextRow.holds Try.pinned (OpenSpec.ofChange Rows.fnExactVerdictTextSpec) :=
  OpenClaim.holds_of_wide 6 Try.f6 rfl rfl rfl rfl rfl rfl rfl ⟨rfl, rfl, rfl, rfl, rfl⟩ rfl rfl rfl rfl rfl (by kernel_rfl) Try.func6 (by kernel_rfl)
    (of_decide_eq_true (by kernel_rfl)) (by unfold Func.isWrapper; first | (rw [if_pos (by decide +kernel)]; kernel_rfl) | (rw [if_neg (by decide +kernel)]; exact ⟨rfl, rfl⟩))
    (fun os started H enc _ => fnExactVerdictText_lifted os started H enc)

theorem fnExactVerdictText_holds : Rows.FnExactVerdictTextSaid := fnExactVerdictText_over

end Go.Proofs.Ytdoijnmgnocjaaa
