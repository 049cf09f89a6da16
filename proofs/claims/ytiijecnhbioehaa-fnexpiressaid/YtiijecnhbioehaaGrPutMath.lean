/- What is put into a table that may be leaves one; what is got behind it. -/
import Derived.Test.YtiijecnhbioehaaGrDueMath
namespace Go.Proofs.Ytiijecnhbioehaa
open Go.ChangeShapes Go.WideShapes Go.ChangeAt Go.RowKit Go.Joins
set_option linter.unusedVariables false
set_option linter.unusedSimpArgs false

/-- In a table that may be a flow is found just where it stands. -/
theorem found_iff {l : List Sl} (h : tableOkB l = true) {a p : Int} {j : Nat} : endL l a p = ((j : Int), true) ↔ j < l.length ∧ (at' l j).u = true ∧ (at' l j).a = a ∧ (at' l j).p = p := by
  have hn := (tableOkB_iff.1 h).1
  constructor
  · intro e
    rcases endL_cases l (by omega) a p with e1 | ⟨k, hk, ⟨e1, _⟩ | ⟨e1, hu, ha, hp⟩⟩
    · rw [e1] at e; cases e
    · rw [e1] at e; injection e with _ e; cases e
    · rw [e1] at e
      injection e with e _
      have : k = j := by omega
      subst this
      exact ⟨hk, hu, ha, hp⟩
  · rintro ⟨hj, hu, rfl, rfl⟩
    exact way_at h hj hu
theorem set_ok {l : List Sl} {a p v t : Int} {k : Nat} {f : Bool} (h : tableOkB l = true) (hf : flowOkB a p = true) (hv : 0 ≤ v ∧ v ≤ 100000) (ht : 0 ≤ t ∧ t ≤ 200000) (hk : k < l.length) (he : endL l a p = ((k : Int), f)) : tableOkB (l.set k ⟨true, a, p, v, t⟩) = true := by
  obtain ⟨h1, h2, h3⟩ := tableOkB_iff.1 h
  have hlen : (l.set k ⟨true, a, p, v, t⟩).length = l.length := List.length_set
  have hs := at_set_self (m := l) ⟨true, a, p, v, t⟩ hk
  refine tableOkB_iff.2 ⟨by omega, by omega, fun i hi => ?_⟩
  rw [hlen] at hi
  by_cases hik : k = i
  · subst hik
    refine tabAt_used ?_ ?_
    · rw [show (l.set k ⟨true, a, p, v, t⟩).getD k sl0 = ⟨true, a, p, v, t⟩ from hs]
      exact (slotB_used rfl).2 ⟨hf, hv.1, hv.2, ht.1, ht.2⟩
    · rw [show (l.set k ⟨true, a, p, v, t⟩).getD k sl0 = ⟨true, a, p, v, t⟩ from hs]
      refine endL_own (by omega) (by omega) (by rw [hs]) (by rw [hs]) (by rw [hs]) (fun x hx hd => ?_)
      rw [hlen] at hx hd
      have hne : k ≠ x := fun e => by rw [e] at hd; exact absurd hd (Nat.lt_irrefl _)
      rw [at_set_ne _ hne]
      exact endL_before (by omega) hk he x hx hd
  · have hg := at_set_ne (m := l) ⟨true, a, p, v, t⟩ hik
    have h4 := (Bool.and_eq_true _ _).mp (h3 i hi)
    cases hu : (at' l i).u with
    | false => exact tabAt_free (by rw [show (l.set k ⟨true, a, p, v, t⟩).getD i sl0 = at' l i from hg]; exact hu) (by rw [show (l.set k ⟨true, a, p, v, t⟩).getD i sl0 = at' l i from hg]; exact h4.1)
    | true =>
      have hw := way_at h hi hu
      refine tabAt_used ?_ ?_
      · rw [show (l.set k ⟨true, a, p, v, t⟩).getD i sl0 = at' l i from hg]; exact h4.1
      · rw [show (l.set k ⟨true, a, p, v, t⟩).getD i sl0 = at' l i from hg]
        refine endL_own (by omega) (by omega) (by rw [hg]; exact hu) (by rw [hg]) (by rw [hg]) (fun x hx hd => ?_)
        rw [hlen] at hx hd
        by_cases hkx : k = x
        · subst hkx
          rw [hs]
          refine ⟨rfl, fun e => hik ?_⟩
          rw [← e.1, ← e.2, he] at hw
          injection hw with hw _
          omega
        · rw [at_set_ne _ hkx]
          exact endL_before (by omega) hi hw x hx hd
theorem putL_ok {l : List Sl} {a p v t : Int} (h : tableOkB l = true) (hf : flowOkB a p = true) (hv : 0 ≤ v ∧ v ≤ 100000) (ht : 0 ≤ t ∧ t ≤ 200000) : tableOkB (putL l a p v t) = true := by
  have hn := (tableOkB_iff.1 h).1
  rcases endL_cases l (by omega) a p with e | ⟨k, hk, ⟨e, _⟩ | ⟨e, _⟩⟩
  · unfold putL; rw [e, if_neg (by decide)]; exact h
  · unfold putL; rw [e, if_pos (by simp)]; simpa using set_ok h hf hv ht hk e
  · unfold putL; rw [e, if_pos (by simp)]; simpa using set_ok h hf hv ht hk e
/-- What is put is got. -/
theorem put_got {l : List Sl} {a p v t : Int} (h : tableOkB l = true) (hf : flowOkB a p = true) (hv : 0 ≤ v ∧ v ≤ 100000) (ht : 0 ≤ t ∧ t ≤ 200000) {k : Nat} {f : Bool} (hk : k < l.length) (he : endL l a p = ((k : Int), f)) : endL (l.set k ⟨true, a, p, v, t⟩) a p = ((k : Int), true) := by
  refine (found_iff (set_ok h hf hv ht hk he)).2 ⟨by rw [List.length_set]; exact hk, ?_, ?_, ?_⟩ <;> rw [at_set_self _ hk]
/-- All else is found where it was. -/
theorem put_else {l : List Sl} {a p v t a' p' : Int} (h : tableOkB l = true) (hf : flowOkB a p = true) (hv : 0 ≤ v ∧ v ≤ 100000) (ht : 0 ≤ t ∧ t ≤ 200000) {k : Nat} {f : Bool} (hk : k < l.length) (he : endL l a p = ((k : Int), f)) (hne : ¬ (a' = a ∧ p' = p)) (j : Nat) :
    endL (l.set k ⟨true, a, p, v, t⟩) a' p' = ((j : Int), true) ↔ endL l a' p' = ((j : Int), true) := by
  rw [found_iff (set_ok h hf hv ht hk he), found_iff h, List.length_set]
  by_cases hj : k = j
  · subst hj
    rw [at_set_self _ hk]
    constructor
    · rintro ⟨_, _, rfl, rfl⟩; exact absurd ⟨rfl, rfl⟩ hne
    · rintro ⟨_, hu, ha, hp⟩
      have := (found_iff h).2 ⟨hk, hu, rfl, rfl⟩
      exfalso
      rcases endL_cases l (by have := (tableOkB_iff.1 h).1; omega) a p with e | ⟨q, hq, ⟨e, hqu⟩ | ⟨e, _, hqa, hqp⟩⟩
      · rw [e] at he; injection he with he _; omega
      · rw [e] at he
        injection he with he _
        have : q = k := by omega
        subst this
        rw [show (at' l q).u = false from hqu] at hu; cases hu
      · rw [e] at he
        injection he with he _
        have : q = k := by omega
        subst this
        exact hne ⟨ha.symm.trans hqa, hp.symm.trans hqp⟩
  · rw [at_set_ne _ hj]

end Go.Proofs.Ytiijecnhbioehaa
