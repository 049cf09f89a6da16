/- For every key and list of backs the law FnExactTableOf answers true, and the list reads as it did: impl.TableOf answers as the model's, writes nothing into what it is handed, and its answer owns its memory, row by row. No conditions. -/
import Derived.Test.YtikbehfcngohnaaSTab3
import Derived.Test.YtikbehfcngohnaaLTab
import Derived.Test.YtikbehfcngohnaaLMarkK
namespace Go.Proofs.Ytikbehfcngohnaa
open Go.ChangeShapes Go.WideShapes Go.ChangeAt Go.RowKit Go.Joins
set_option linter.unusedVariables false
set_option linter.unusedSimpArgs false

set_option maxHeartbeats 4000000 in
theorem lawTableOf (key : Int) (o : Option Addr) (cap : Nat) (l : List Bk) (w : World) (hm : l.length ≤ maxLen) (hR : RdK w.heap.size w o l) :
    Calls Try.prog 11 #[.int .i64 key, .slice o l.length cap] w fun e w' => e = .returned (.bool true) ∧ Below w.heap.size w w' := by
  have hB : Below w.heap.size w w := Below.refl _ _
  have hsz := fun W => szBackS_any o l.length cap 1048576 W hm (by decide) (by decide)
  unfold maxLen at hm
  by_cases hlen : l.length ≤ 1048576
  · rw [if_neg (by omega)] at hsz
    have HS := hide (fun o cap w h => specTableOf_any key o cap l w h hlen)
    have HI := hide (fun o cap w h => implTableOf_any key o cap l w h hlen)
    have hN := tabN_le key l
    generalize tabN key l = N at HS HI hN
    have HR2 : Hid (∀ i, ((fun b : Nat => pairI key b l) i).length ≤ 2) := fun i => pairI_len key i l
    generalize (fun b : Nat => pairI key b l) = R at HS HI HR2
    have HX : Hid (∀ i, i < (rowsOf R N).length → ((rowsOf R N).getD i []).length ≤ 1048576) := fun i hi => by
      rw [rowsOf_length] at hi
      rw [rowsOf_get R N i hi]; have := HR2.out i; omega
    have HE := hide (fun (o1 o2 : Option Addr) (c1 c2 : Nat) (w : World) h1 h2 => (rowsOf_length R N) ▸ eqIntSS_same o1 o2 c1 c2 (rowsOf R N) w h1 h2 (by rw [rowsOf_length]; omega) HX.out)
    have hsb := st_bd R 1 HR2.out N
    have hln : (0 : Int) ≤ (l.length : Int) := by omega
    go_enter Try.func11, Try.ntmps11
    go_wp2_with (go_at_call 31; refine (hsz _).mono ?_; rintro e w1 ⟨rfl, rfl⟩)
    refine (toBackS_any o cap l _ hR hlen).mono ?_
    rintro e w1 ⟨g1, rfl, own1, hb1⟩
    have r1 := own1.rd
    clear own1 hsz
    go_wp2_with fail
    refine (HS.out _ _ _ r1).mono ?_
    rintro e w2 ⟨ow, cw, rfl, hRw, hb2⟩
    have B2 : Below w.heap.size w w2 := hb1.trans (hb2.mono hb1.size)
    clear r1 hb1 hb2
    go_wp2_with fail
    refine (toBackS_any o cap l _ ((hR.kept B2 (Nat.le_refl _)).le B2.size) hlen).mono ?_
    rintro e w3 ⟨gx, rfl, ox3, hb3⟩
    have B3 : Below w.heap.size w w3 := B2.trans (hb3.mono B2.size)
    have hs23 := hb3.size
    have hRw3 := hRw.kept hb3 (Nat.le_refl _)
    have hs2 := B2.size
    have hx3' := hide (ox3.lt gx rfl).2
    clear hRw hb3 B2
    go_wp2_with fail
    refine (HI.out _ _ _ ox3.rd).mono ?_
    rintro e w4 ⟨vg, rfl, og4, hb4⟩
    have B4 : Below w.heap.size w w4 := B3.trans (hb4.mono B3.size)
    have hs34 := hb4.size
    have hRw4 := hRw3.kept hb4 hs23
    have ox4 := own_kept ox3 hb4
    have hs3 := B3.size
    obtain ⟨og, cg, hvg, hRg⟩ := og4.open
    rw [hvg] at og4 ⊢
    clear hRw3 hb4 ox3 B3 hvg
    go_wp2_with fail
    refine (HE.out _ _ _ _ _ hRg (hRw4.le (by omega))).mono ?_
    rintro e w5 ⟨rfl, hb5⟩
    have B5 : Below w.heap.size w w5 := B4.trans (hb5.mono B4.size)
    have hs45 := hb5.size
    have hRw5 := hRw4.kept hb5 (by omega)
    have ox5 := own_kept ox4 hb5
    have og5 := og4.kept hb5
    clear hRw4 hb5 ox4 og4 B4 hRg
    go_wp2_with fail
    refine (toBackS_any o cap l _ ((hR.kept B5 (Nat.le_refl _)).le B5.size) hlen).mono ?_
    rintro e w6 ⟨g6, rfl, o6, hb6⟩
    have B6 : Below w.heap.size w w6 := B5.trans (hb6.mono B5.size)
    have hs56 := hb6.size
    have hRw6 := hRw5.kept hb6 (by omega)
    have ox6 := own_kept ox5 hb6
    have og6 := og5.kept hb6
    clear hRw5 hb6 ox5 og5 B5
    go_wp2_with fail
    refine (eqBackS_same _ _ _ _ l _ (ownL.rd (L := layK) ox6) o6.rd hlen).mono ?_
    rintro e w7 ⟨rfl, hb7⟩
    have B7 : Below w.heap.size w w7 := B6.trans (hb7.mono B6.size)
    have hs67 := hb7.size
    have hRw7 := hRw6.kept hb7 (by omega)
    have ox7 := own_kept ox6 hb7
    have og7 := og6.kept hb7
    clear hRw6 hb7 ox6 og6 B6 o6
    go_wp2_with fail
    refine (markBackS_any w2.heap.size gx l.length l 1 _ ox7 (by omega) (by omega) hlen).mono ?_
    rintro e w8 ⟨rfl, hg8⟩
    have hb8 : Below w2.heap.size w7 w8 := (Below.refl _ _).grown hg8 (by omega) (fun k h => (ox7.lt k h).1)
    have B8 : Below w.heap.size w w8 := B7.trans (hb8.mono hs2)
    have hs78 := hb8.size
    have hRw8 := hRw7.kept hb8 (Nat.le_refl _)
    have hx3 : gx < w3.heap.size := hx3'.out
    have og8 := og7.grown hg8 hx3
    obtain ⟨og', cg', hvg', hRg8⟩ := og8.open
    injection hvg' with e1 e2 e3
    rw [← e1] at hRg8
    clear e1 e2 e3 og' cg'
    clear hRw7 hb8 ox7 og7 B7 hg8
    go_wp2_with fail
    refine (HE.out _ _ _ _ _ hRg8 (hRw8.le (by omega))).mono ?_
    rintro e w9 ⟨rfl, hb9⟩
    have B9 : Below w.heap.size w w9 := B8.trans (hb9.mono B8.size)
    have hs89 := hb9.size
    have hRw9 := hRw8.kept hb9 (by omega)
    have og9 := og8.kept hb9
    clear hRw8 hb9 og8 B8 hRg8
    go_wp2_with fail
    refine (markIntSS_any N w3.heap.size _ R 1 _ og9 HR2.out (by omega) (by omega) hN (by omega)).mono ?_
    rintro e w10 ⟨rfl, og10, hb10⟩
    have B10 : Below w.heap.size w w10 := B9.trans (hb10.mono hs3)
    have hs910 : w9.heap.size ≤ w10.heap.size := hb10.size
    have hRw10 := hRw9.kept hb10 (by omega)
    obtain ⟨og', cg', hvg', rg10⟩ := og10.open
    injection hvg' with e1 e2 e3
    rw [← e1] at rg10
    clear e1 e2 e3 og' cg'
    have hnn : (0 : Int) ≤ st R 1 N ∧ st R 1 N ≤ 1048576 := by omega
    clear hRw9 hb10 og9 og10 B9
    go_wp2_with fail
    refine (heldIntSS_any N cg _ og R 1 _ (Nat.le_refl _) rg10 HR2.out (by omega) (by omega) hN).mono ?_
    rintro e _ ⟨rfl, rfl⟩
    go_wp2_with fail
    refine (toBackS_any o cap l _ ((hR.kept B10 (Nat.le_refl _)).le B10.size) hlen).mono ?_
    rintro e w11 ⟨g11, rfl, o11, hb11⟩
    have B11 : Below w.heap.size w w11 := B10.trans (hb11.mono B10.size)
    have hs11 := hb11.size
    have hRw11 := hRw10.kept hb11 (by omega)
    have rg11 := rg10.kept hb11 (Nat.le_refl _)
    clear hRw10 hb11 B10 rg10
    go_wp2_with fail
    refine (HI.out _ _ _ o11.rd).mono ?_
    rintro e w12 ⟨vh, rfl, oh12, hb12⟩
    have B12 : Below w.heap.size w w12 := B11.trans (hb12.mono B11.size)
    have hs12 := hb12.size
    have hRw12 := hRw11.kept hb12 (by omega)
    have rg12 := rg11.kept hb12 (by omega)
    obtain ⟨oh, ch, hvh, hRh⟩ := oh12.open
    rw [hvh]
    clear hRw11 hb12 B11 rg11 o11 oh12 hvh
    go_wp2_with fail
    refine (HE.out _ _ _ _ _ hRh (hRw12.le (by omega))).mono ?_
    rintro e w13 ⟨rfl, hb13⟩
    have B13 : Below w.heap.size w w13 := B12.trans (hb13.mono B12.size)
    have rg13 := rg12.kept hb13 (by omega)
    have hs1013 : w10.heap.size ≤ w13.heap.size := Nat.le_trans hs11 (Nat.le_trans hs12 hb13.size)
    clear hRw12 hb13 B12 rg12 hRh
    go_wp2_with fail
    refine (heldIntSS_any N cg _ og R 1 _ hs1013 rg13 HR2.out (by omega) (by omega) hN).mono ?_
    rintro e _ ⟨rfl, rfl⟩
    go_wp2
    go_ret
    exact ⟨rfl, B13⟩
  · rw [if_pos (by omega)] at hsz
    go_enter Try.func11, Try.ntmps11
    go_wp2_with (go_at_call 31; refine (hsz _).mono ?_; rintro e w1 ⟨rfl, rfl⟩)
    go_ret
    exact ⟨rfl, hB⟩

set_option maxRecDepth 100000 in
theorem fnExactTableOf_lifted (os : Os) (started : os.Started) (H : Type) (enc : TypeId × Value → H) :
    ReturnsInHanded {} Try.checked os 11 .any (Rows.fnExactTableOfSpec.pre6 enc Try.prog Try.f11 Rows.fnExactTableOfRow.domain false) (Rows.fnExactTableOfSpec.post enc Try.prog Try.f11 false true false false) := by
  refine returnsInHanded_of_change (C := Try.checked) own started (by kernel_rfl) Try.func11
    (ChangeSpec.witness6 (enc := enc) (C := Try.checked) false ⟨#[], #[.int .i64 0, .slice none 0 0], []⟩ 8 (by kernel_rfl) (by kernel_rfl) (by kernel_rfl) (by kernel_rfl)) ?_
  intro W base args ds gs before hval0 hW hcnd _
  have hval : ∀ (j : Nat) t v, Try.f11.params[j]? = some t → args[j]? = some v → Value.okWide Try.prog W .any base t v := hval0
  have hW' := hW
  obtain ⟨p, q, hA0, hV, rfl, hfz, hnd⟩ := hW
  have hA : DataW.TrodAll enc Try.prog W 0 (fun _ => true) true Try.f11.params.toList args.toList ds p := hA0
  rw [Try.params11] at hA hval
  obtain ⟨v0, vs0, d0, ds0, p0, q0, hargs, rfl, rfl, h0, r0⟩ := trodAll_cons hA
  obtain ⟨v1, vs1, d1, ds1, p1, q1, rfl, rfl, rfl, h1, r1⟩ := trodAll_cons r0
  obtain ⟨rfl, rfl, rfl⟩ := trodAll_nil r1
  obtain rfl : args = #[v0, v1] := by cases args; simp_all
  obtain ⟨rfl, rfl⟩ := trodVars_none hV
  have k0 := h0
  have lt0 : ∀ x ∈ p0, x.block < W.heap.size := by obtain ⟨m, hm⟩ := k0; exact DataW.trod_lt m _ _ _ hm
  have k1 := h1
  have lt1 : ∀ x ∈ p1, x.block < W.heap.size := by obtain ⟨m, hm⟩ := k1; exact DataW.trod_lt m _ _ _ hm
  obtain ⟨a0, rfl, _, _, w0⟩ := open_int Try.underlying3 (hval 0 3 v0 rfl rfl) h0
  obtain ⟨o1, cap1, l1, rfl, hm1, hR1⟩ := open_backs (hval 1 54 v1 rfl rfl) h1
  clear hA0 hval0
  refine (lawTableOf a0 o1 cap1 l1 W  hm1 hR1 ).mono fun e W' ⟨he, bel⟩ => ?_
  subst he
  exact ⟨_, rfl, _, _, _, [], _, [], hW', trodAll_mk1 (shut_bool Try.underlying4 _), (trodAll_cons_mk (Below.trod laidOut (by kernel_rfl) (of_decide_eq_true (by kernel_rfl)) k0 bel lt0) (trodAll_cons_mk (Below.trod laidOut (by kernel_rfl) (of_decide_eq_true (by kernel_rfl)) k1 bel lt1) trodAll_mk0)), rfl, bel.frame _, fun h => by cases h⟩

theorem fnExactTableOf_over : Rows.fnExactTableOfRow.holds Try.pinned (OpenSpec.ofChange Rows.fnExactTableOfSpec) :=
  OpenClaim.holds_of_wide 11 Try.f11 rfl rfl rfl rfl rfl rfl rfl ⟨rfl, rfl, rfl, rfl, rfl⟩ rfl rfl rfl rfl rfl (by kernel_rfl) Try.func11 (by kernel_rfl)
    (of_decide_eq_true (by kernel_rfl)) (by unfold Func.isWrapper; first | (rw [if_pos (by decide +kernel)]; kernel_rfl) | (rw [if_neg (by decide +kernel)]; exact ⟨rfl, rfl⟩))
    (fun os started H enc _ => fnExactTableOf_lifted os started H enc)

theorem fnExactTableOf_holds : Rows.FnExactTableOfSaid := fnExactTableOf_over

end Go.Proofs.Ytikbehfcngohnaa
