/- What is dropped is not found; all else is there, wherever it stands. -/
import Derived.Test.YtncdjmniphnpgaaPutMath
namespace Go.Proofs.Ytncdjmniphnpgaa
open Go.ChangeShapes Go.WideShapes Go.ChangeAt Go.RowKit Go.Joins
set_option linter.unusedVariables false
set_option linter.unusedSimpArgs false

/-- It stands somewhere. -/
def hasS (m : List Sl) (s : Sl) : Prop := ∃ j, j < m.length ∧ at' m j = s
theorem has_move {m : List Sl} {i k : Nat} {s : Sl} (hi : i < m.length) (hk : k < m.length) (hne : i ≠ k) (hfree : (at' m i).u = false) (hs : s.u = true) : hasS ((m.set i (at' m k)).set k sl0) s ↔ hasS m s := by
  have hl : ((m.set i (at' m k)).set k sl0).length = m.length := by rw [List.length_set, List.length_set]
  have hk' : k < (m.set i (at' m k)).length := by rw [List.length_set]; exact hk
  constructor
  · rintro ⟨j, hj, e⟩
    rw [hl] at hj
    by_cases hjk : k = j
    · subst hjk
      rw [at_set_self _ hk'] at e
      rw [← e] at hs; cases hs
    · rw [at_set_ne _ hjk] at e
      by_cases hji : i = j
      · subst hji
        rw [at_set_self _ hi] at e
        exact ⟨k, hk, e⟩
      · rw [at_set_ne _ hji] at e
        exact ⟨j, hj, e⟩
  · rintro ⟨j, hj, e⟩
    by_cases hji : i = j
    · subst hji
      rw [e, hs] at hfree; cases hfree
    · by_cases hjk : k = j
      · subst hjk
        exact ⟨i, by rw [hl]; exact hi, by rw [at_set_ne _ (fun h => hne h.symm), at_set_self _ hi]; exact e⟩
      · exact ⟨j, by rw [hl]; exact hj, by rw [at_set_ne _ hjk, at_set_ne _ hji]; exact e⟩
theorem has_drop {n : Nat} {R : List Sl} {s : Sl} (hs : s.u = true) : ∀ (g : Nat) (m : List Sl) (i k : Nat), DropInv n R g m i k → (hasS R s ↔ hasS m s)
  | g, m, i, k, hD => by
    have hlen := hD.len
    have hi := hD.hi
    have hkl := hD.hk
    cases hu : (m.getD k sl0).u with
    | false => rw [← hD.done hu]
    | true =>
      cases hm' : moves n m i k with
      | true =>
        obtain ⟨hg, hN⟩ := hD.move hu hm'
        obtain ⟨g', rfl⟩ : ∃ g', g = g' + 1 := ⟨g - 1, by omega⟩
        have hne : i ≠ k := fun e => by have h := hD.free; rw [e, hu] at h; cases h
        exact (has_drop hs g' _ _ _ hN).trans (has_move (by omega) (by omega) hne hD.free hs)
      | false =>
        obtain ⟨hg, hN⟩ := hD.stay hu hm'
        obtain ⟨g', rfl⟩ : ∃ g', g = g' + 1 := ⟨g - 1, by omega⟩
        exact has_drop hs g' _ _ _ hN
theorem has_dropAt {l : List Sl} {i : Nat} (h : tableOkB l = true) (hi : i < l.length) {s : Sl} (hs : s.u = true) : hasS (dropAtL l i) s ↔ ∃ j, j < l.length ∧ j ≠ i ∧ at' l j = s := by
  rw [has_drop hs _ _ _ _ (DropInv.start (tableOkB_iff.1 h).2.1 hi (flowsOk_of h))]
  constructor
  · rintro ⟨j, hj, e⟩
    rw [List.length_set] at hj
    by_cases hji : i = j
    · subst hji
      rw [at_set_self _ hi] at e
      rw [← e] at hs; cases hs
    · rw [at_set_ne _ hji] at e
      exact ⟨j, hj, fun h => hji h.symm, e⟩
  · rintro ⟨j, hj, hne, e⟩
    exact ⟨j, by rw [List.length_set]; exact hj, by rw [at_set_ne _ (fun h => hne h.symm)]; exact e⟩
/-- What a flow is found with, in a table that may be. -/
theorem got_has {l : List Sl} (h : tableOkB l = true) {a p : Int} {s : Sl} : ((endL l a p).2 = true ∧ getL l a p = s) ↔ (hasS l s ∧ s.u = true ∧ s.a = a ∧ s.p = p) := by
  have hn := (tableOkB_iff.1 h).1
  constructor
  · rintro ⟨h1, h2⟩
    rcases endL_cases l (by omega) a p with e | ⟨k, hk, ⟨e, _⟩ | ⟨e, hu, ha, hp⟩⟩
    · rw [e] at h1; cases h1
    · rw [e] at h1; cases h1
    · unfold getL at h2
      rw [e, if_pos rfl] at h2
      have h3 : at' l k = s := by simpa [at'] using h2
      subst h3
      exact ⟨⟨k, hk, rfl⟩, hu, ha, hp⟩
  · rintro ⟨⟨j, hj, rfl⟩, hu, ha, hp⟩
    have e := (found_iff h).2 ⟨hj, hu, ha, hp⟩
    refine ⟨by rw [e], ?_⟩
    unfold getL
    rw [e, if_pos rfl]
    simp [at']
/-- Behind a drop it is not found; all else is found, and as it was. -/
theorem drop_gone {l : List Sl} {a p : Int} {i : Nat} (h : tableOkB l = true) (e : endL l a p = ((i : Int), true)) : (endL (dropAtL l i) a p).2 = false := by
  obtain ⟨hi, hu, ha, hp⟩ := (found_iff h).1 e
  cases hf : (endL (dropAtL l i) a p).2 with
  | false => rfl
  | true =>
    obtain ⟨h1, h2, h3, h4⟩ := (got_has (dropAtL_ok h hi)).1 ⟨hf, rfl⟩
    obtain ⟨j, hj, hne, e2⟩ := (has_dropAt h hi h2).1 h1
    have e3 := (found_iff h (a := a) (p := p) (j := j)).2 ⟨hj, by rw [e2]; exact h2, by rw [e2]; exact h3, by rw [e2]; exact h4⟩
    rw [e] at e3
    injection e3 with e3 _
    exact absurd (by omega) hne
theorem drop_else {l : List Sl} {a p a' p' : Int} {i : Nat} (h : tableOkB l = true) (e : endL l a p = ((i : Int), true)) (hne : ¬ (a' = a ∧ p' = p)) (s : Sl) : ((endL (dropAtL l i) a' p').2 = true ∧ getL (dropAtL l i) a' p' = s) ↔ ((endL l a' p').2 = true ∧ getL l a' p' = s) := by
  obtain ⟨hi, hu, ha, hp⟩ := (found_iff h).1 e
  rw [got_has (dropAtL_ok h hi), got_has h]
  constructor
  · rintro ⟨h1, h2, h3, h4⟩
    obtain ⟨j, hj, _, e2⟩ := (has_dropAt h hi h2).1 h1
    exact ⟨⟨j, hj, e2⟩, h2, h3, h4⟩
  · rintro ⟨⟨j, hj, e2⟩, h2, h3, h4⟩
    refine ⟨(has_dropAt h hi h2).2 ⟨j, hj, fun hji => ?_, e2⟩, h2, h3, h4⟩
    subst hji
    rw [e2] at ha hp
    exact hne ⟨h3.symm.trans ha, h4.symm.trans hp⟩

end Go.Proofs.Ytncdjmniphnpgaa
