/- For every code the law FnCuts answers true: what is safe is there behind a cut, and what is left is a beginning. No conditions. -/
import Derived.Test.YtldjaapbkihibaaGrSDr4c
import Derived.Test.YtldjaapbkihibaaGrSPools
import Derived.BigQuiet
namespace Go.Proofs.Ytldjaapbkihibaa
open Go.ChangeShapes Go.WideShapes Go.ChangeAt Go.RowKit Go.Joins
set_option linter.unusedVariables false
set_option linter.unusedSimpArgs false


theorem run_part {cs : List Cd} {q : Nat} (hq : q ≤ cs.length) (h : (runTo cs cs.length).isSome = true) : (runTo (cs.take q) (cs.take q).length).isSome = true := by
  have e : runTo (cs.take q) (cs.take q).length = runTo cs q := by
    unfold runTo
    rw [List.take_length]
  rw [e]
  cases h1 : runTo cs q with
  | some l => rfl
  | none => rw [runTo_none h1 hq] at h; exact h
theorem cut_part {m : Jm} {keep : Int} (h : cutB m keep = true) : ∃ q : Nat, cutM m keep = ⟨m.key, m.l.take q, (q : Int)⟩ ∧ q ≤ m.l.length ∧ m.safe ≤ (q : Int) ∧ journalB m.key (m.l.take q) (q : Int) = true := by
  unfold cutB at h
  rw [Bool.and_eq_true, decide_eq_true_eq] at h
  obtain ⟨h1, h2⟩ := h
  have hf := journal_facts h1
  have hr := journal_run h1
  have hn : 0 ≤ cutN m keep ∧ cutN m keep ≤ (m.l.length : Int) ∧ m.safe ≤ cutN m keep := by unfold cutN; split <;> omega
  refine ⟨(cutN m keep).toNat, ?_, by omega, by omega, ?_⟩
  · unfold cutM
    rw [if_pos (by unfold cutB; rw [h1]; simpa using h2)]
    congr 1
    omega
  · have hl : (m.l.take (cutN m keep).toNat).length = (cutN m keep).toNat := by rw [List.length_take]; omega
    have h3 := run_part (cs := m.l) (q := (cutN m keep).toNat) (by omega) hr
    unfold journalB
    simp only [Bool.and_eq_true, decide_eq_true_eq]
    exact ⟨⟨⟨⟨hf.1, by omega⟩, by omega⟩, by omega⟩, h3⟩
theorem cut_none {m : Jm} {keep : Int} (h : cutB m keep = false) : cutM m keep = jm0 := by unfold cutM; rw [h]; rfl
theorem take_get (l : List Cd) (q i : Nat) (h : i < q) : (l.take q).getD i (0, 0, 0) = l.getD i (0, 0, 0) := by
  rw [List.getD_eq_getElem?_getD, List.getElem?_take, if_pos h, ← List.getD_eq_getElem?_getD]
theorem cmd_cells {w : World} {b off : Nat} {l : List Cd} (h : ∀ i, i < l.length → ∀ j, j < layC.k → w.cell? ⟨b, off + i * layC.k + j, none⟩ = (layC.cs (l.getD i layC.d))[j]?) (i : Nat) (hi : i < l.length) : w.cell? ⟨b, off + i * 3, none⟩ = some (.int .i64 (l.getD i (0, 0, 0)).1) ∧ w.cell? ⟨b, off + i * 3 + 1, none⟩ = some (.int .i64 (l.getD i (0, 0, 0)).2.1) ∧ w.cell? ⟨b, off + i * 3 + 2, none⟩ = some (.int .i64 (l.getD i (0, 0, 0)).2.2) :=
  ⟨h i hi 0 (by decide), h i hi 1 (by decide), h i hi 2 (by decide)⟩

set_option maxRecDepth 100000 in
set_option maxHeartbeats 8000000 in
theorem lawCuts (o0 : Option Addr) (cap : Nat) (l : List Int) (w : World) (hm : l.length ≤ maxLen) (hR : Rd w o0 l) (hB8 : isB l) :
    Calls Try.prog 6 #[.slice o0 l.length cap] w fun e w' => e = .returned (.bool true) ∧ Below w.heap.size w w' := by
  have HDC := hide (drawCut_any o0 cap l w hR hB8 hm)
  clear hR
  go_enter Try.func6, Try.ntmps6
  go_wp2_with fail
  refine HDC.out.mono ?_
  rintro e w1 ⟨v, m, keep, rfl, hin, hl11, hb1⟩
  clear HDC
  have HRM := hide hin.room
  obtain ⟨vl, hve, hrow⟩ := hin
  obtain ⟨o, c, e1, _⟩ := ownL.open (L := layC) hrow.1
  subst e1 hve
  obtain ⟨n, hn⟩ : ∃ n, m.l.length = n := ⟨_, rfl⟩
  rw [hn] at hrow HRM hl11 ⊢
  have HN := hide hn
  have hrd : RdJm w1.heap.size w1 (jrn m.key (.slice o n c) m.safe) m := ⟨_, rfl, InL.rd (L := layC) hrow⟩
  have hb2 : Below w1.heap.size w1 (w1.alloc (.cells #[.int .i64 m.key, .slice o n c, .int .i64 m.safe] 47)) := (Below.refl _ _).alloc (Nat.le_refl _) _
  have HRD := hide ((hrd.kept hb2 (Nat.le_refl _)).le hb2.size)
  have HB2 := hide (hb1.trans (hb2.mono hb1.size))
  have HX2 : Hid ((w1.alloc (.cells #[.int .i64 m.key, .slice o n c, .int .i64 m.safe] 47)).heap[w1.heap.size]? = some (.cells #[.int .i64 m.key, .slice o n c, .int .i64 m.safe] 47 (0, 0))) := World.alloc_heap_new w1 _
  have hz2 : w1.heap.size < ((w1.alloc (.cells #[.int .i64 m.key, .slice o n c, .int .i64 m.safe] 47))).heap.size := by simp
  have HFIT : Hid (fitJm m) := by unfold Hid fitJm; omega
  clear hb1 hb2 hrow hrd hn
  go_wp2_with fail
  generalize (w1.alloc (.cells #[.int .i64 m.key, .slice o n c, .int .i64 m.safe] 47)) = WJ at *
  refine (implCut_sh _ m keep WJ HRD.out HRM.out HFIT.out).mono ?_
  rintro e w3 ⟨vx, rfl, hinx, hb3⟩
  have HRD3 := hide (fun W (hb : Below w3.heap.size w3 W) => ((HRD.out.kept (hb3.trans (hb.mono hb3.size)) (Nat.le_refl _)).le (Nat.le_trans hb3.size hb.size)))
  obtain ⟨x, hx⟩ : ∃ x, cutM m keep = x := ⟨_, rfl⟩
  rw [hx] at hinx
  have HX := hide hx
  clear hx
  obtain ⟨vl, hve, hrow⟩ := hinx
  obtain ⟨ox, cx, e1, _⟩ := ownL.open (L := layC) hrow.1
  subst e1 hve
  obtain ⟨q, hq⟩ : ∃ q, x.l.length = q := ⟨_, rfl⟩
  rw [hq] at hrow ⊢
  have HQ := hide hq
  have hrdx : RdJm w3.heap.size w3 (jrn x.key (.slice ox q cx) x.safe) x := ⟨_, rfl, InL.rd (L := layC) hrow⟩
  have hb4 : Below w3.heap.size w3 (w3.alloc (.cells #[.int .i64 x.key, .slice ox q cx, .int .i64 x.safe] 47)) := (Below.refl _ _).alloc (Nat.le_refl _) _
  have HX4 : Hid ((w3.alloc (.cells #[.int .i64 x.key, .slice ox q cx, .int .i64 x.safe] 47)).heap[w3.heap.size]? = some (.cells #[.int .i64 x.key, .slice ox q cx, .int .i64 x.safe] 47 (0, 0))) := World.alloc_heap_new w3 _
  have hs3 := hb3.size
  have HJ4 := hide ((hb4.block _ (show w1.heap.size < w3.heap.size by omega)).trans ((hb3.block _ hz2).trans HX2.out))
  have HRX := hide ((hrdx.kept hb4 (Nat.le_refl _)).le hb4.size)
  have HRJ := hide (HRD3.out _ hb4)
  have HB4 := hide ((HB2.out.trans (hb3.mono HB2.out.size)).trans (hb4.mono (Nat.le_trans HB2.out.size hb3.size)))
  have hz4 : w3.heap.size < ((w3.alloc (.cells #[.int .i64 x.key, .slice ox q cx, .int .i64 x.safe] 47))).heap.size := by simp
  have hz5 : w1.heap.size < w3.heap.size := by omega
  have y0 : w3.cell? ⟨w1.heap.size, 0, none⟩ = some (.int .i64 m.key) := bx_cell ((hb3.block _ hz2).trans HX2.out) 0 _ rfl
  have y1 : w3.cell? ⟨w1.heap.size, 1, none⟩ = some (.slice o n c) := bx_cell ((hb3.block _ hz2).trans HX2.out) 1 _ rfl
  have y2 : w3.cell? ⟨w1.heap.size, 2, none⟩ = some (.int .i64 m.safe) := bx_cell ((hb3.block _ hz2).trans HX2.out) 2 _ rfl
  clear hq hrow hrdx hb3 hb4 HRD HRD3 HRM HX2 HB2
  go_wp2_with fail
  generalize (w3.alloc (.cells #[.int .i64 x.key, .slice ox q cx, .int .i64 x.safe] 47)) = WX at *
  clear y0 y1 y2
  refine (specJournalOk_sh _ m WX HRJ.out HFIT.out).mono ?_
  rintro e w5 ⟨rfl, hb5⟩
  have HB5 := hide (HB4.out.trans (hb5.mono HB4.out.size))
  have HX5 := hide ((hb5.block _ hz4).trans HX4.out)
  have HJ5 := hide ((hb5.block _ (show w1.heap.size < WX.heap.size by omega)).trans HJ4.out)
  have HRX5 := hide ((HRX.out.kept hb5 (Nat.le_refl _)).le hb5.size)
  have HRJ5 := hide ((HRJ.out.kept hb5 (Nat.le_refl _)).le hb5.size)
  have hs5 := hb5.size
  clear hb5 HB4 HX4 HJ4 HRX HRJ
  have j0 : w5.cell? ⟨w1.heap.size, 0, none⟩ = some (.int .i64 m.key) := bx_cell HJ5.out 0 _ rfl
  have j1 : w5.cell? ⟨w1.heap.size, 1, none⟩ = some (.slice o n c) := bx_cell HJ5.out 1 _ rfl
  have j2 : w5.cell? ⟨w1.heap.size, 2, none⟩ = some (.int .i64 m.safe) := bx_cell HJ5.out 2 _ rfl
  have x0 : w5.cell? ⟨w3.heap.size, 0, none⟩ = some (.int .i64 x.key) := bx_cell HX5.out 0 _ rfl
  have x1 : w5.cell? ⟨w3.heap.size, 1, none⟩ = some (.slice ox q cx) := bx_cell HX5.out 1 _ rfl
  have x2 : w5.cell? ⟨w3.heap.size, 2, none⟩ = some (.int .i64 x.safe) := bx_cell HX5.out 2 _ rfl
  cases hcb : cutB m keep with
  | false =>
    have hx0 : x = jm0 := HX.out.symm.trans (cut_none hcb)
    have hq0 : q = 0 := by rw [← HQ.out, hx0]; rfl
    subst hq0
    have HPL := hide (pools_any w5)
    have HCB := hide hcb
    clear hx0 hcb
    cases hjb : journalB m.key m.l m.safe with
    | false =>
      go_wp2_with fail
      refine HPL.out.mono ?_
      rintro e w6 ⟨rfl, hb6⟩
      have HB6 := hide (HB5.out.trans (hb6.mono HB5.out.size))
      clear hb6
      go_wp2
      go_ret
      exact ⟨rfl, HB6.out⟩
    | true =>
      have hkp : keep < 0 := by
        have h1 := HCB.out
        unfold cutB at h1
        rw [hjb] at h1
        simp at h1
        omega
      clear hjb
      go_wp2_with fail
      refine HPL.out.mono ?_
      rintro e w6 ⟨rfl, hb6⟩
      have HB6 := hide (HB5.out.trans (hb6.mono HB5.out.size))
      clear hb6
      go_wp2
      go_ret
      exact ⟨rfl, HB6.out⟩
  | true =>
    obtain ⟨q', hx', hq1, hq2, hq3⟩ := cut_part hcb
    have hjb : journalB m.key m.l m.safe = true ∧ 0 ≤ keep := by
      unfold cutB at hcb
      rw [Bool.and_eq_true, decide_eq_true_eq] at hcb
      exact hcb
    have hxx : x = ⟨m.key, m.l.take q', (q' : Int)⟩ := HX.out.symm.trans hx'
    have hqq : q' = q := by rw [← HQ.out, hxx]; simp; omega
    subst hqq
    have hxs : x.safe = (q' : Int) := by rw [hxx]
    have HXL := hide (show x.l = m.l.take q' by rw [hxx])
    have hqn : q' ≤ n := by rw [← HN.out]; exact hq1
    have HJX := hide (show journalB x.key x.l x.safe = true by rw [hxx]; exact hq3)
    have HFX : Hid (fitJm x) := by unfold Hid fitJm; rw [HQ.out]; omega
    rw [hxs] at x2 HX5
    have HIJ := hide (implJournalOk_sh _ x w5 HRX5.out HFX.out)
    rw [HJX.out, hxs] at HIJ
    rw [hjb.1]
    have hkp : decide (keep < 0) = false := decide_eq_false (by omega)
    clear hx' hxx hxs hq1 hq3 hcb HX hjb
    have hq5 : decide ((q' : Int) < m.safe) = false := decide_eq_false (by omega)
    have hq6 : decide ((n : Int) < (q' : Int)) = false := decide_eq_false (by omega)
    have hq7 : decide (n < q') = false := decide_eq_false (by omega)
    go_wp2_with fail
    refine HIJ.out.mono ?_
    rintro e w6 ⟨rfl, hb6⟩
    have HB6 := hide (HB5.out.trans (hb6.mono HB5.out.size))
    have HX6 := hide ((hb6.block _ (by omega)).trans HX5.out)
    have HJ6 := hide ((hb6.block _ (by omega)).trans HJ5.out)
    have HRX6 := hide ((HRX5.out.kept hb6 (Nat.le_refl _)).le hb6.size)
    have HRJ6 := hide ((HRJ5.out.kept hb6 (Nat.le_refl _)).le hb6.size)
    have hs6 := hb6.size
    clear hb6 HB5 HX5 HJ5 HRX5 HRJ5 HIJ j0 j1 j2 x0 x1 x2
    go_wp2
    clear hkp hq5 hq6 hq7 hq2
    go_loopw [2, 6] (fun rv iv wr => ∃ i : Nat, i ≤ q' ∧ iv = .int .i64 (i : Int) ∧ rv = .bool false ∧ Hid (Below w6.heap.size w6 wr))
      (fun _ iv _ => q' - (intOf iv).toNat)
    case atStart => exact ⟨0, Nat.zero_le _, rfl, rfl, Below.refl _ _⟩
    case round =>
      rename World => wr
      obtain ⟨i, hi', rfl, rfl, HBr⟩ := hrel
      have hxr := (HBr.out.block _ (show w3.heap.size < w6.heap.size by omega)).trans HX6.out
      have hjr := (HBr.out.block _ (show w1.heap.size < w6.heap.size by omega)).trans HJ6.out
      have x1 : wr.cell? ⟨w3.heap.size, 1, none⟩ = some (.slice ox q' cx) := bx_cell hxr 1 _ rfl
      have j1 : wr.cell? ⟨w1.heap.size, 1, none⟩ = some (.slice o n c) := bx_cell hjr 1 _ rfl
      clear hxr hjr
      by_cases hlt : i < q'
      · have hlt' : (i : Int) < (q' : Int) := by omega
        have hltn : (i : Int) < (n : Int) := by omega
        obtain ⟨vl1, he1, o7, c7, he2, hr7⟩ := HRX6.out
        obtain ⟨vl2, he3, o8, c8, he4, hr8⟩ := HRJ6.out
        rw [he2] at he1
        rw [he4] at he3
        simp only [Value.agg.injEq, Array.mk.injEq, List.cons.injEq, Value.slice.injEq, and_true, true_and] at he1 he3
        obtain ⟨e5, e6, e7⟩ := he1
        obtain ⟨e8, e9, e10⟩ := he3
        subst e5 e8
        rcases hr7 with hh | ⟨b7, off7, rfl, hb7, hc7⟩
        · have : q' = 0 := by rw [← HQ.out, hh]; rfl
          omega
        rcases hr8 with hh | ⟨b8, off8, rfl, hb8, hc8⟩
        · have : n = 0 := by rw [← HN.out, hh]; rfl
          omega
        obtain ⟨p0, p1, p2⟩ := cmd_cells hc7 i (by rw [HQ.out]; exact hlt)
        obtain ⟨s0, s1, s2⟩ := cmd_cells hc8 i (by rw [HN.out]; omega)
        rw [HXL.out, take_get m.l q' i hlt] at p0 p1 p2
        generalize m.l.getD i (0, 0, 0) = d at *
        replace p0 := bC HBr.out p0 hb7
        replace p1 := bC HBr.out p1 hb7
        replace p2 := bC HBr.out p2 hb7
        replace s0 := bC HBr.out s0 hb8
        replace s1 := bC HBr.out s1 hb8
        replace s2 := bC HBr.out s2 hb8
        obtain ⟨d0, d1, d2⟩ := d
        clear hc7 hc8 e6 e7 e9 e10
        go_wp2
        go_quiet (fail)
        go_wp2
        go_roundw
        case rel => exact ⟨i + 1, by omega, by go_num, rfl, below_drewN HBr.out _⟩
        case measure => simp [intOf]; omega
      · have e : i = q' := by omega
        subst e
        have HPL := hide (pools_any wr)
        have HB7 := hide (HB6.out.trans (HBr.out.mono HB6.out.size))
        go_wp2_with fail
        refine HPL.out.mono ?_
        rintro e w8 ⟨rfl, hb8⟩
        have HB8 := hide (HB7.out.trans (hb8.mono HB7.out.size))
        clear hb8
        go_wp2
        go_ret
        exact ⟨rfl, HB8.out⟩

set_option maxRecDepth 100000 in
theorem fnCuts_lifted (os : Os) (started : os.Started) (H : Type) (enc : TypeId × Value → H) :
    ReturnsInHanded {} Try.checked os 6 .any (Rows.fnCutsSpec.pre6 enc Try.prog Try.f6 Rows.fnCutsRow.domain false) (Rows.fnCutsSpec.post enc Try.prog Try.f6 false true false false) := by
  refine returnsInHanded_of_change (C := Try.checked) own started (by kernel_rfl) Try.func6
    (ChangeSpec.witness6 (enc := enc) (C := Try.checked) false ⟨#[], #[.slice none 0 0], []⟩ 8 (by kernel_rfl) (by kernel_rfl) (by kernel_rfl) (by kernel_rfl)) ?_
  intro W base args ds gs before hval0 hW hcnd _
  have hval : ∀ (j : Nat) t v, Try.f6.params[j]? = some t → args[j]? = some v → Value.okWide Try.prog W .any base t v := hval0
  have hW' := hW
  obtain ⟨p, q, hA0, hV, rfl, hfz, hnd⟩ := hW
  have hA : DataW.TrodAll enc Try.prog W 0 (fun _ => true) true Try.f6.params.toList args.toList ds p := hA0
  rw [Try.params6] at hA hval
  obtain ⟨v0, vs0, d0, ds0, p0, q0, hargs, rfl, rfl, h0, r0⟩ := trodAll_cons hA
  obtain ⟨rfl, rfl, rfl⟩ := trodAll_nil r0
  obtain rfl : args = #[v0] := by cases args; simp_all
  obtain ⟨rfl, rfl⟩ := trodVars_none hV
  have k0 := h0
  have lt0 : ∀ x ∈ p0, x.block < W.heap.size := by obtain ⟨m, hm⟩ := k0; exact DataW.trod_lt m _ _ _ hm
  obtain ⟨o0, cap0, l0, rfl, hm0, hR0, hB80⟩ := open_bytes (hval 0 22 v0 rfl rfl) h0
  clear hA0 hval0
  refine (lawCuts o0 cap0 l0 W hm0 hR0 hB80 ).mono fun e W' ⟨he, bel⟩ => ?_
  subst he
  exact ⟨_, rfl, _, _, _, [], _, [], hW', trodAll_mk1 (shut_bool Try.underlying4 _), (trodAll_cons_mk (Below.trod laidOut (by kernel_rfl) (of_decide_eq_true (by kernel_rfl)) k0 bel lt0) trodAll_mk0), rfl, bel.frame _, fun h => by cases h⟩

theorem fnCuts_over : Rows.fnCutsRow.holds Try.pinned (OpenSpec.ofChange Rows.fnCutsSpec) :=
  OpenClaim.holds_of_wide 6 Try.f6 rfl rfl rfl rfl rfl rfl rfl ⟨rfl, rfl, rfl, rfl, rfl⟩ rfl rfl rfl rfl rfl (by kernel_rfl) Try.func6 (by kernel_rfl)
    (of_decide_eq_true (by kernel_rfl)) (by unfold Func.isWrapper; first | (rw [if_pos (by decide +kernel)]; kernel_rfl) | (rw [if_neg (by decide +kernel)]; exact ⟨rfl, rfl⟩))
    (fun os started H enc _ => fnCuts_lifted os started H enc)

theorem fnCuts_holds : Rows.FnCutsSaid := fnCuts_over


end Go.Proofs.Ytldjaapbkihibaa
