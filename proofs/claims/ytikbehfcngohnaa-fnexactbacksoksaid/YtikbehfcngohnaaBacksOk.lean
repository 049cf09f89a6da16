/- For every list of backs the law FnExactBacksOk answers true, and the list reads as it did: impl.BacksOk answers as the model's, and writes nothing into what it is handed. No conditions. -/
import Derived.Test.YtikbehfcngohnaaSBacks2
namespace Go.Proofs.Ytikbehfcngohnaa
open Go.ChangeShapes Go.WideShapes Go.ChangeAt Go.RowKit Go.Joins
set_option linter.unusedVariables false
set_option linter.unusedSimpArgs false

set_option maxHeartbeats 2000000 in
theorem lawBacksOk (o : Option Addr) (cap : Nat) (l : List Bk) (w : World) (hm : l.length ≤ maxLen) (hR : RdK w.heap.size w o l) :
    Calls Try.prog 8 #[.slice o l.length cap] w fun e w' => e = .returned (.bool true) ∧ Below w.heap.size w w' := by
  have hB : Below w.heap.size w w := Below.refl _ _
  have hsz := fun W => szBackS_any o l.length cap 1048576 W hm (by decide) (by decide)
  unfold maxLen at hm
  by_cases hlen : l.length ≤ 1048576
  · rw [if_neg (by omega)] at hsz
    go_enter Try.func8, Try.ntmps8
    go_wp2_with (go_at_call 31; refine (hsz _).mono ?_; rintro e w1 ⟨rfl, rfl⟩)
    refine (toBackS_any o cap l _ hR hlen).mono ?_
    rintro e wa ⟨ga, rfl, howna, hba⟩
    have ha := howna.rd
    go_wp2_with fail
    refine (specBacksOk_any _ _ l _ ha hlen).mono ?_
    rintro e wb ⟨rfl, hbb⟩
    have hBb : Below w.heap.size w wb := hba.trans (hbb.mono hba.size)
    clear howna ha hbb
    go_wp2_with fail
    refine (toBackS_any o cap l _ ((hR.kept hBb (Nat.le_refl _)).le hBb.size) hlen).mono ?_
    rintro e wc ⟨gc, rfl, hownc, hbc⟩
    have hBc : Below w.heap.size w wc := hBb.trans (hbc.mono hBb.size)
    have hc := hownc.rd
    clear hownc hbc
    go_wp2_with fail
    refine (implBacksOk_any _ _ l _ hc hlen).mono ?_
    rintro e wd ⟨rfl, hbd⟩
    have hBd : Below w.heap.size w wd := hBc.trans (hbd.mono hBc.size)
    replace hc := (hc.kept hbd (Nat.le_refl _)).le hbd.size
    clear hbd
    generalize backsOkB l = x
    go_wp2_with fail
    refine (toBackS_any o cap l _ ((hR.kept hBd (Nat.le_refl _)).le hBd.size) hlen).mono ?_
    rintro e wf ⟨gf, rfl, hownf, hbf⟩
    have hBf : Below w.heap.size w wf := hBd.trans (hbf.mono hBd.size)
    replace hc := (hc.kept hbf (Nat.le_refl _)).le hbf.size
    have hf := hownf.rd
    clear hownf hbf
    go_wp2_with fail
    refine (eqBackS_same _ _ _ _ l _ hc hf hlen).mono ?_
    rintro e wg ⟨rfl, hbg⟩
    have hBg : Below w.heap.size w wg := hBf.trans (hbg.mono hBf.size)
    go_wp2
    go_ret
    exact ⟨rfl, hBg⟩
  · rw [if_pos (by omega)] at hsz
    go_enter Try.func8, Try.ntmps8
    go_wp2_with (go_at_call 31; refine (hsz _).mono ?_; rintro e w1 ⟨rfl, rfl⟩)
    go_ret
    exact ⟨rfl, hB⟩

set_option maxRecDepth 100000 in
theorem fnExactBacksOk_lifted (os : Os) (started : os.Started) (H : Type) (enc : TypeId × Value → H) :
    ReturnsInHanded {} Try.checked os 8 .any (Rows.fnExactBacksOkSpec.pre6 enc Try.prog Try.f8 Rows.fnExactBacksOkRow.domain false) (Rows.fnExactBacksOkSpec.post enc Try.prog Try.f8 false true false false) := by
  refine returnsInHanded_of_change (C := Try.checked) own started (by kernel_rfl) Try.func8
    (ChangeSpec.witness6 (enc := enc) (C := Try.checked) false ⟨#[], #[.slice none 0 0], []⟩ 8 (by kernel_rfl) (by kernel_rfl) (by kernel_rfl) (by kernel_rfl)) ?_
  intro W base args ds gs before hval0 hW hcnd _
  have hval : ∀ (j : Nat) t v, Try.f8.params[j]? = some t → args[j]? = some v → Value.okWide Try.prog W .any base t v := hval0
  have hW' := hW
  obtain ⟨p, q, hA0, hV, rfl, hfz, hnd⟩ := hW
  have hA : DataW.TrodAll enc Try.prog W 0 (fun _ => true) true Try.f8.params.toList args.toList ds p := hA0
  rw [Try.params8] at hA hval
  obtain ⟨v0, vs0, d0, ds0, p0, q0, hargs, rfl, rfl, h0, r0⟩ := trodAll_cons hA
  obtain ⟨rfl, rfl, rfl⟩ := trodAll_nil r0
  obtain rfl : args = #[v0] := by cases args; simp_all
  obtain ⟨rfl, rfl⟩ := trodVars_none hV
  have k0 := h0
  have lt0 : ∀ x ∈ p0, x.block < W.heap.size := by obtain ⟨m, hm⟩ := k0; exact DataW.trod_lt m _ _ _ hm
  obtain ⟨o0, cap0, l0, rfl, hm0, hR0⟩ := open_backs (hval 0 54 v0 rfl rfl) h0
  clear hA0 hval0
  refine (lawBacksOk o0 cap0 l0 W hm0 hR0 ).mono fun e W' ⟨he, bel⟩ => ?_
  subst he
  exact ⟨_, rfl, _, _, _, [], _, [], hW', trodAll_mk1 (shut_bool Try.underlying4 _), (trodAll_cons_mk (Below.trod laidOut (by kernel_rfl) (of_decide_eq_true (by kernel_rfl)) k0 bel lt0) trodAll_mk0), rfl, bel.frame _, fun h => by cases h⟩

theorem fnExactBacksOk_over : Rows.fnExactBacksOkRow.holds Try.pinned (OpenSpec.ofChange Rows.fnExactBacksOkSpec) :=
  OpenClaim.holds_of_wide 8 Try.f8 rfl rfl rfl rfl rfl rfl rfl ⟨rfl, rfl, rfl, rfl, rfl⟩ rfl rfl rfl rfl rfl (by kernel_rfl) Try.func8 (by kernel_rfl)
    (of_decide_eq_true (by kernel_rfl)) (by unfold Func.isWrapper; first | (rw [if_pos (by decide +kernel)]; kernel_rfl) | (rw [if_neg (by decide +kernel)]; exact ⟨rfl, rfl⟩))
    (fun os started H enc _ => fnExactBacksOk_lifted os started H enc)

theorem fnExactBacksOk_holds : Rows.FnExactBacksOkSaid := fnExactBacksOk_over

end Go.Proofs.Ytikbehfcngohnaa
