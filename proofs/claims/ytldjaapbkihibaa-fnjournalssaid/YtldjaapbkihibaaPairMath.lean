/- The two best: as the model finds them, and as the heap tells them. -/
import Derived.Test.YtldjaapbkihibaaSTwo
namespace Go.Proofs.Ytldjaapbkihibaa
open Go.ChangeShapes Go.WideShapes Go.ChangeAt Go.RowKit Go.Joins
set_option linter.unusedVariables false
set_option linter.unusedSimpArgs false

/-- What one more does to the best and the next. -/
def pickStep (p : Option Sc × Option Sc) (x : Sc) : Option Sc × Option Sc :=
  match p with
  | (none, t) => (some x, none)
  | (some o, t) => if o.2 < x.2 then (some x, some o) else
    match t with
    | none => (some o, some x)
    | some u => if u.2 < x.2 then (some o, some x) else (some o, some u)
def pick (l : List Sc) : Option Sc × Option Sc := l.foldl pickStep (none, none)
theorem pick_snoc (l : List Sc) (x : Sc) : pick (l ++ [x]) = pickStep (pick l) x := by simp [pick]
def pairL (p : Option Sc × Option Sc) : List Int :=
  match p with
  | (none, _) => []
  | (some o, none) => [o.1, o.1]
  | (some o, some t) => [o.1, t.1]
/-- The best and the next of these. -/
def Best (l : List Sc) (p : Option Sc × Option Sc) : Prop :=
  match p with
  | (none, t) => l = [] ∧ t = none
  | (some o, none) => l = [o]
  | (some o, some t) => o ∈ l ∧ t ∈ l ∧ t ≠ o ∧ (∀ z ∈ l, rank o ≤ rank z) ∧ (∀ z ∈ l, z ≠ o → rank t ≤ rank z)
theorem rank_lt {o x : Sc} (ho : okS o) (hx : okS x) (h : o.2 < x.2) : rank x < rank o := by unfold rank okS at *; omega
theorem rank_gt {o x : Sc} (ho : okS o) (hx : okS x) (hid : o.1 < x.1) (h : ¬ o.2 < x.2) : rank o < rank x := by unfold rank okS at *; omega
theorem rank_inj {a b : Sc} (ha : okS a) (hb : okS b) (h : rank a = rank b) : a = b := by
  obtain ⟨a1, a2⟩ := a
  obtain ⟨b1, b2⟩ := b
  unfold rank okS at *
  dsimp only at *
  have h1 : a2 = b2 := by omega
  have h2 : a1 = b1 := by omega
  rw [h1, h2]
theorem best_step {l : List Sc} {p : Option Sc × Option Sc} {x : Sc} (h : Best l p) (hok : ∀ z ∈ l, okS z) (hx : okS x) (hid : ∀ z ∈ l, z.1 < x.1) : Best (l ++ [x]) (pickStep p x) := by
  have hne : ∀ z ∈ l, z ≠ x := fun z hz e => by have := hid z hz; rw [e] at this; omega
  obtain ⟨p1, p2⟩ := p
  cases p1 with
  | none =>
    obtain ⟨h1, h2⟩ : l = [] ∧ p2 = none := h
    subst h1 h2
    rfl
  | some o =>
    cases p2 with
    | none =>
      have h1 : l = [o] := h
      subst h1
      have oo := hok o (by simp)
      have oi := hid o (by simp)
      unfold pickStep
      by_cases hlt : o.2 < x.2
      · simp only [if_pos hlt]
        have := rank_lt oo hx hlt
        refine ⟨by simp, by simp, fun e => hne o (by simp) e, fun z hz => ?_, fun z hz hzx => ?_⟩
        · simp at hz; rcases hz with e | e <;> subst e <;> omega
        · simp at hz; rcases hz with e | e
          · subst e; omega
          · exact absurd e hzx
      · simp only [if_neg hlt]
        have := rank_gt oo hx oi hlt
        refine ⟨by simp, by simp, fun e => hne o (by simp) e.symm, fun z hz => ?_, fun z hz hzo => ?_⟩
        · simp at hz; rcases hz with e | e <;> subst e <;> omega
        · simp at hz; rcases hz with e | e
          · exact absurd e hzo
          · subst e; omega
    | some t =>
      obtain ⟨ho, ht, hto, hmin, hmin2⟩ : o ∈ l ∧ t ∈ l ∧ t ≠ o ∧ (∀ z ∈ l, rank o ≤ rank z) ∧ (∀ z ∈ l, z ≠ o → rank t ≤ rank z) := h
      have oo := hok o ho
      have ot := hok t ht
      have oi := hid o ho
      have ti := hid t ht
      unfold pickStep
      by_cases hlt : o.2 < x.2
      · simp only [if_pos hlt]
        have hr := rank_lt oo hx hlt
        refine ⟨by simp, List.mem_append.2 (.inl ho), hne o ho, fun z hz => ?_, fun z hz hzx => ?_⟩
        · rcases List.mem_append.1 hz with hz | hz
          · have := hmin z hz; omega
          · simp at hz; subst hz; omega
        · rcases List.mem_append.1 hz with hz | hz
          · exact hmin z hz
          · simp at hz; exact absurd hz hzx
      · simp only [if_neg hlt]
        have hr := rank_gt oo hx oi hlt
        by_cases hlt2 : t.2 < x.2
        · simp only [if_pos hlt2]
          have hr2 := rank_lt ot hx hlt2
          refine ⟨List.mem_append.2 (.inl ho), by simp, fun e => hne o ho e.symm, fun z hz => ?_, fun z hz hzo => ?_⟩
          · rcases List.mem_append.1 hz with hz | hz
            · exact hmin z hz
            · simp at hz; subst hz; omega
          · rcases List.mem_append.1 hz with hz | hz
            · have := hmin2 z hz hzo; omega
            · simp at hz; subst hz; omega
        · simp only [if_neg hlt2]
          have hr2 := rank_gt ot hx ti hlt2
          refine ⟨List.mem_append.2 (.inl ho), List.mem_append.2 (.inl ht), hto, fun z hz => ?_, fun z hz hzo => ?_⟩
          · rcases List.mem_append.1 hz with hz | hz
            · exact hmin z hz
            · simp at hz; subst hz; omega
          · rcases List.mem_append.1 hz with hz | hz
            · exact hmin2 z hz hzo
            · simp at hz; subst hz; omega
/-- The heap's answer is the model's. -/
theorem two_pair {lb ls : List Sc} {p : Option Sc × Option Sc} {q : List Int} (hB : Best ls p) (hok : ∀ z ∈ ls, okS z) (hH : Holds lb ls) (hh : HeapP lb lb.length) (hT : TwoOf lb q) : q = pairL p := by
  have hm := hH.2.1
  obtain ⟨p1, p2⟩ := p
  rcases hT with ⟨h1, h2⟩ | ⟨h1, h2⟩ | ⟨l2, hr, hh2, hpos, h2⟩
  · subst h1 h2
    have : ls = [] := List.eq_nil_of_length_eq_zero hH.1.symm
    subst this
    cases p1 with
    | none => rfl
    | some o =>
      cases p2 with
      | none => cases (hB : [] = [o])
      | some t => exact absurd hB.1 (by simp)
  · obtain ⟨o, ho⟩ : ∃ o, ls = [o] := List.length_eq_one_iff.1 (hH.1.symm.trans h1)
    subst ho
    have e0 : lb.getD 0 (0, 0) = o := by
      have := (hm (lb.getD 0 (0, 0))).1 ⟨0, by omega, rfl⟩
      simpa using this
    rw [h2, e0]
    cases p1 with
    | none => cases (hB.1 : [o] = [])
    | some o' =>
      cases p2 with
      | none => have : [o] = [o'] := hB; simp at this; subst this; rfl
      | some t =>
        obtain ⟨a1, a2, a3, _⟩ : o' ∈ [o] ∧ t ∈ [o] ∧ t ≠ o' ∧ _ := hB
        simp at a1 a2; rw [a1, a2] at a3; exact absurd rfl a3
  · have hl2 := hr.1
    have hd := hH.2.2
    have m0 : lb.getD 0 (0, 0) ∈ ls := (hm _).1 ⟨0, by omega, rfl⟩
    have top : ∀ z ∈ ls, rank (lb.getD 0 (0, 0)) ≤ rank z := fun z hz => by
      obtain ⟨i, hi, e⟩ := (hm z).2 hz
      have := heap_top hh i hi
      unfold fr at this
      rw [e] at this; exact this
    obtain ⟨i2, hi2a, hi2b, ei2⟩ := (hr.2 (l2.getD 0 (0, 0))).1 ⟨0, hpos, rfl⟩
    have m2 : l2.getD 0 (0, 0) ∈ ls := (hm _).1 ⟨i2, hi2b, ei2⟩
    have ne2 : l2.getD 0 (0, 0) ≠ lb.getD 0 (0, 0) := fun e => by
      have := hd i2 0 hi2b (by omega) (ei2.trans e); omega
    have top2 : ∀ z ∈ ls, z ≠ lb.getD 0 (0, 0) → rank (l2.getD 0 (0, 0)) ≤ rank z := fun z hz hne => by
      obtain ⟨i, hi, e⟩ := (hm z).2 hz
      have hi1 : 1 ≤ i := by
        rcases Nat.eq_zero_or_pos i with h | h
        · subst h; exact absurd e.symm hne
        · exact h
      obtain ⟨i', hi', e'⟩ := (hr.2 z).2 ⟨i, hi1, hi, e⟩
      have := heap_top hh2 i' hi'
      unfold fr at this
      rw [e'] at this; exact this
    cases p1 with
    | none => have : ls = [] := hB.1; rw [this] at m0; cases m0
    | some o =>
      cases p2 with
      | none =>
        have h1 : ls = [o] := hB
        rw [h1] at m0 m2
        simp at m0 m2
        exact absurd (m2.trans m0.symm) ne2
      | some t =>
        obtain ⟨ho, ht, hto, hmin, hmin2⟩ : o ∈ ls ∧ t ∈ ls ∧ t ≠ o ∧ (∀ z ∈ ls, rank o ≤ rank z) ∧ (∀ z ∈ ls, z ≠ o → rank t ≤ rank z) := hB
        have e0 : lb.getD 0 (0, 0) = o := rank_inj (hok _ m0) (hok o ho) (Int.le_antisymm (top o ho) (hmin _ m0))
        rw [e0] at ne2 top2
        have e2 : l2.getD 0 (0, 0) = t := rank_inj (hok _ m2) (hok t ht) (Int.le_antisymm (top2 t ht hto) (hmin2 _ m2 ne2))
        rw [h2, e0, e2]
        rfl

end Go.Proofs.Ytldjaapbkihibaa
