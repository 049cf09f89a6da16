/- What is due goes, and nothing else; the soonest is the least. -/
import Derived.Test.YtiijecnhbioehaaGrElseMath
import Derived.Test.YtiijecnhbioehaaGrSPlain
namespace Go.Proofs.Ytiijecnhbioehaa
open Go.ChangeShapes Go.WideShapes Go.ChangeAt Go.RowKit Go.Joins
set_option linter.unusedVariables false
set_option linter.unusedSimpArgs false

theorem dueAt_no {m : List Sl} {now : Int} (h : dueAt m now = none) (j : Nat) (hj : j < m.length) : dueB (at' m j) now = false := by
  unfold dueAt at h
  have h1 := List.find?_eq_none.1 h j (List.mem_range.2 hj)
  cases hd : dueB (at' m j) now with
  | false => rfl
  | true => exact absurd hd h1
theorem exp_all {n : Nat} {now : Int} {R : List Sl × Nat} : ∀ (g : Nat) (m : List Sl) (c : Nat), ExpInv n now R g m c → tableOkB R.1 = true ∧ cnt R.1 + R.2 = cnt m + c ∧ ∀ s : Sl, s.u = true → (hasS R.1 s ↔ (hasS m s ∧ now < s.t)) := by
  intro g
  induction g with
  | zero =>
    intro m c h
    cases hd : dueAt m now with
    | none =>
      have hR := h.done hd
      rw [hR]
      refine ⟨h.ok, rfl, fun s hs => ⟨fun hh => ⟨hh, ?_⟩, fun hh => hh.1⟩⟩
      obtain ⟨j, hj, e⟩ := hh
      have := dueAt_no hd j hj
      rw [e] at this
      unfold dueB at this
      rw [hs] at this
      simp at this
      exact this
    | some i =>
      have := (h.step hd).1
      omega
  | succ g ih =>
    intro m c h
    cases hd : dueAt m now with
    | none =>
      have hR := h.done hd
      rw [hR]
      refine ⟨h.ok, rfl, fun s hs => ⟨fun hh => ⟨hh, ?_⟩, fun hh => hh.1⟩⟩
      obtain ⟨j, hj, e⟩ := hh
      have := dueAt_no hd j hj
      rw [e] at this
      unfold dueB at this
      rw [hs] at this
      simp at this
      exact this
    | some i =>
      obtain ⟨_, hin, hu, _, hN⟩ := h.step hd
      obtain ⟨h1, h2, h3⟩ := ih (dropAtL m i) (c + 1) hN
      have him := (dueAt_spec hd).1
      have hdue := (dueAt_spec hd).2
      have hcd := cnt_dropAt h.ok him hu
      refine ⟨h1, by omega, fun s hs => ?_⟩
      rw [h3 s hs, has_dropAt h.ok him hs]
      constructor
      · rintro ⟨⟨j, hj, _, e⟩, ht⟩
        exact ⟨⟨j, hj, e⟩, ht⟩
      · rintro ⟨⟨j, hj, e⟩, ht⟩
        refine ⟨⟨j, hj, fun hji => ?_, e⟩, ht⟩
        subst hji
        rw [e] at hdue
        unfold dueB at hdue
        rw [hs] at hdue
        simp at hdue
        omega
theorem exp_facts {m : List Sl} (now : Int) (h : tableOkB m = true) : tableOkB (expL m now).1 = true ∧ cnt (expL m now).1 + (expL m now).2 = cnt m ∧ ∀ s : Sl, s.u = true → (hasS (expL m now).1 s ↔ (hasS m s ∧ now < s.t)) := by
  have := exp_all _ _ _ (ExpInv.start (now := now) h)
  simpa using this
/-- Of each that is listed: it is got behind, as it was, just if it is not due. -/
def expOk (m x : List Sl) (now : Int) : Prop := ∀ i, i < (flowsM m).length → gotB x ((flowsM m).getD i (0, 0)).1 ((flowsM m).getD i (0, 0)).2 = decide (now < (getM m ((flowsM m).getD i (0, 0)).1 ((flowsM m).getD i (0, 0)).2).t) ∧ (now < (getM m ((flowsM m).getD i (0, 0)).1 ((flowsM m).getD i (0, 0)).2).t → getM x ((flowsM m).getD i (0, 0)).1 ((flowsM m).getD i (0, 0)).2 = getM m ((flowsM m).getD i (0, 0)).1 ((flowsM m).getD i (0, 0)).2)
theorem exp_expOk {m : List Sl} (now : Int) (h : tableOkB m = true) : expOk m (expL m now).1 now := by
  intro i hi
  obtain ⟨hx, _, hs⟩ := exp_facts now h
  have h1 := flowsM_got h i hi
  have h2 := flowsM_ok h i hi
  generalize (flowsM m).getD i (0, 0) = f at *
  rw [gotB_ok h h2] at h1
  rw [gotB_ok hx h2, getM_ok h h2, getM_ok hx h2]
  obtain ⟨g1, g2, g3, g4⟩ := (got_has h).1 ⟨h1, rfl⟩
  generalize hsl : getL m f.1 f.2 = s at *
  by_cases ht : now < s.t
  · obtain ⟨k1, k2⟩ := (got_has hx).2 ⟨(hs s g2).2 ⟨g1, ht⟩, g2, g3, g4⟩
    exact ⟨by rw [k1]; exact (decide_eq_true ht).symm, fun _ => k2⟩
  · refine ⟨?_, fun hh => absurd hh ht⟩
    rw [decide_eq_false ht]
    cases hk : (endL (expL m now).1 f.1 f.2).2 with
    | false => rfl
    | true =>
      obtain ⟨q1, q2, q3, q4⟩ := (got_has hx).1 ⟨hk, rfl⟩
      obtain ⟨r1, r2⟩ := (hs _ q2).1 q1
      have := (got_has h).2 ⟨r1, q2, q3, q4⟩
      rw [← this.2.symm.trans hsl] at ht
      exact absurd r2 ht

theorem soonTo_inv (l : List Sl) : ∀ k, k ≤ l.length → (∀ j, j < k → (at' l j).u = true → (soonTo l k).u = true ∧ (soonTo l k).t ≤ (at' l j).t) ∧ ((soonTo l k).u = true → ∃ j, j < k ∧ (at' l j).u = true)
  | 0, _ => ⟨fun j hj => absurd hj (Nat.not_lt_zero _), fun h => by simp [soonTo, sl0] at h⟩
  | k + 1, hk => by
    obtain ⟨h1, h2⟩ := soonTo_inv l k (by omega)
    rw [soonTo_succ (by omega)]
    generalize soonTo l k = q at *
    cases hu : (at' l k).u with
    | false =>
      rw [soonStep_free hu]
      refine ⟨fun j hj hj2 => ?_, fun h => ?_⟩
      · rcases Nat.lt_succ_iff_lt_or_eq.1 hj with h | h
        · exact h1 j h hj2
        · subst h; rw [hu] at hj2; cases hj2
      · obtain ⟨j, hj, h3⟩ := h2 h
        exact ⟨j, by omega, h3⟩
    | true =>
      cases hq : q.u with
      | false =>
        rw [soonStep_first hu hq]
        refine ⟨fun j hj hj2 => ?_, fun _ => ⟨k, by omega, hu⟩⟩
        rcases Nat.lt_succ_iff_lt_or_eq.1 hj with h | h
        · have := (h1 j h hj2).1; rw [hq] at this; cases this
        · subst h; exact ⟨hu, Int.le_refl _⟩
      | true =>
        by_cases hlt : (at' l k).t < q.t
        · rw [soonStep_less hu hlt]
          refine ⟨fun j hj hj2 => ?_, fun _ => ⟨k, by omega, hu⟩⟩
          rcases Nat.lt_succ_iff_lt_or_eq.1 hj with h | h
          · have := (h1 j h hj2).2; exact ⟨hu, by omega⟩
          · subst h; exact ⟨hu, Int.le_refl _⟩
        · rw [soonStep_more hq hlt]
          refine ⟨fun j hj hj2 => ?_, fun _ => ⟨k, by omega, hu⟩⟩
          rcases Nat.lt_succ_iff_lt_or_eq.1 hj with h | h
          · exact h1 j h hj2
          · subst h; exact ⟨hq, by omega⟩
/-- The soonest is used just if anything is listed; it is not later than whatever is listed. -/
theorem soon_facts {x : List Sl} (h : tableOkB x = true) : ((soonM x).u = decide (0 < (flowsM x).length)) ∧ ∀ i, i < (flowsM x).length → (soonM x).t ≤ (getM x ((flowsM x).getD i (0, 0)).1 ((flowsM x).getD i (0, 0)).2).t := by
  have hM : soonM x = soonTo x x.length := by unfold soonM; rw [if_pos h]; rfl
  rw [hM]
  obtain ⟨h1, h2⟩ := soonTo_inv x x.length (Nat.le_refl _)
  refine ⟨?_, fun i hi => ?_⟩
  · cases hu : (soonTo x x.length).u with
    | true =>
      obtain ⟨j, hj, h3⟩ := h2 hu
      have e : flowsM x = sortF (flowsTo x x.length) := by unfold flowsM; rw [if_pos h]
      have hmem : ((at' x j).a, (at' x j).p) ∈ flowsTo x x.length := by
        unfold flowsTo
        rw [List.take_length]
        refine List.mem_map.2 ⟨at' x j, List.mem_filter.2 ⟨?_, h3⟩, rfl⟩
        unfold at'
        rw [List.getD_eq_getElem?_getD, List.getElem?_eq_getElem hj]
        exact List.getElem_mem hj
      have hm2 := (sortF_perm (flowsTo x x.length)).mem_iff.2 hmem
      rw [← e] at hm2
      exact (decide_eq_true (List.length_pos_of_mem hm2)).symm
    | false =>
      refine (decide_eq_false (fun hp => ?_)).symm
      obtain ⟨j, ej⟩ := flowsM_has h 0 hp
      obtain ⟨hj, h3, _⟩ := (found_iff h).1 ej
      have := (h1 j hj h3).1
      rw [hu] at this; cases this
  · obtain ⟨j, ej⟩ := flowsM_has h i hi
    rw [getM_ok h (flowsM_ok h i hi)]
    obtain ⟨hj, h3, _⟩ := (found_iff h).1 ej
    unfold getL
    rw [ej, if_pos rfl]
    exact (h1 j hj h3).2

end Go.Proofs.Ytiijecnhbioehaa
