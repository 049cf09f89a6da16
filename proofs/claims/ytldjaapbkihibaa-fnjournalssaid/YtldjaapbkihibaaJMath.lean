/- What commands make of those who serve, one behind the other: such a list stays as it should be. -/
import Derived.Test.YtldjaapbkihibaaSPlace
import Derived.Test.YtldjaapbkihibaaSCmd
namespace Go.Proofs.Ytldjaapbkihibaa
open Go.ChangeShapes Go.WideShapes Go.ChangeAt Go.RowKit Go.Joins
set_option linter.unusedVariables false
set_option linter.unusedSimpArgs false

theorem getD_mem {α : Type} {l : List α} {d b : α} (h : b ∈ l) : ∃ k, k < l.length ∧ l.getD k d = b := by
  obtain ⟨k, hk, e⟩ := List.getElem_of_mem h
  exact ⟨k, hk, by simp [hk, e]⟩
theorem backsOk_pw {l : List Bk} : backsOkB l = true ↔ l.Pairwise (fun a b => a.1 < b.1) ∧ ∀ b ∈ l, backB b.1 b.2.1 = true := by
  constructor
  · intro h
    refine ⟨List.pairwise_iff_getElem.2 fun i j hi hj hij => ?_, fun b hb => ?_⟩
    · have := backs_lt h j hj i hij
      simpa [hi, hj] using this
    · obtain ⟨k, hk, e⟩ := getD_mem (d := (0, 0, false)) hb
      have := backsOkB_iff.1 h k hk
      unfold okAt at this
      rw [← e]
      simp only [Bool.and_eq_true] at this
      exact this.1
  · rintro ⟨h1, h2⟩
    refine backsOkB_iff.2 fun k hk => ?_
    unfold okAt
    simp only [Bool.and_eq_true]
    refine ⟨h2 _ (by simp [hk]), ?_⟩
    rcases Nat.eq_zero_or_pos k with e | e
    · subst e; simp
    · have := List.pairwise_iff_getElem.1 h1 (k - 1) k (by omega) hk (by omega)
      have hk1 : k - 1 < l.length := by omega
      simp only [List.getD_eq_getElem?_getD, List.getElem?_eq_getElem hk, List.getElem?_eq_getElem hk1, Option.getD_some]
      simp [this]
theorem placeN_cons (b : Bk) (l : List Bk) (id : Int) : placeN (b :: l) id = if b.1 < id then placeN l id + 1 else 0 := by
  unfold placeN
  rw [List.takeWhile_cons]
  by_cases h : b.1 < id <;> simp [h]
theorem take_below : ∀ (l : List Bk) (id : Int), ∀ a ∈ l.take (placeN l id), a.1 < id
  | [], id, a, h => by simp at h
  | b :: l, id, a, h => by
    rw [placeN_cons] at h
    by_cases hb : b.1 < id
    · rw [if_pos hb, List.take_succ_cons] at h
      rcases List.mem_cons.1 h with e | e
      · rw [e]; exact hb
      · exact take_below l id a e
    · rw [if_neg hb] at h; simp at h
theorem drop_above {l : List Bk} {id : Int} (h : l.Pairwise (fun a b => a.1 < b.1)) (hn : thereB l id = false) : ∀ b ∈ l.drop (placeN l id), id < b.1 := by
  intro b hb
  have hp := placeN_le l id
  rcases Nat.lt_or_ge (placeN l id) l.length with hlt | hge
  · have h1 := placeN_at l id hlt
    unfold thereB at hn
    simp only [hlt, decide_true, Bool.true_and, beq_eq_false_iff_ne] at hn
    have h2 : id < (l.getD (placeN l id) (0, 0, false)).1 := by omega
    rw [List.drop_eq_getElem_cons hlt] at hb
    have e : l.getD (placeN l id) (0, 0, false) = l[placeN l id] := by simp [hlt]
    rw [e] at h2
    rcases List.mem_cons.1 hb with e1 | e1
    · rw [e1]; exact h2
    · have h3 : (l.drop (placeN l id)).Pairwise (fun a b => a.1 < b.1) := h.sublist (List.drop_sublist _ _)
      rw [List.drop_eq_getElem_cons hlt] at h3
      have := (List.pairwise_cons.1 h3).1 b e1
      omega
  · rw [List.drop_eq_nil_of_le hge] at hb; simp at hb
theorem ok_insert {l : List Bk} {id g : Int} (h : backsOkB l = true) (hn : thereB l id = false) (hb : backB id g = true) : backsOkB (l.take (placeN l id) ++ (id, g, false) :: l.drop (placeN l id)) = true := by
  obtain ⟨h1, h2⟩ := backsOk_pw.1 h
  have hd := drop_above h1 hn
  refine backsOk_pw.2 ⟨?_, ?_⟩
  · have e : l.take (placeN l id) ++ l.drop (placeN l id) = l := List.take_append_drop _ _
    rw [← e] at h1
    obtain ⟨p1, p2, p3⟩ := List.pairwise_append.1 h1
    refine List.pairwise_append.2 ⟨by simpa using p1, List.pairwise_cons.2 ⟨by simpa using hd, by simpa using p2⟩, ?_⟩
    intro a ha b hb
    rcases List.mem_cons.1 hb with e1 | e1
    · rw [e1]; exact take_below l id a ha
    · have := take_below l id a ha; have := hd b e1; omega
  · intro b hb'
    rcases List.mem_append.1 hb' with e | e
    · exact h2 b (List.mem_of_mem_take e)
    · rcases List.mem_cons.1 e with e | e
      · rw [e]; exact hb
      · exact h2 b (List.mem_of_mem_drop e)
theorem ok_remove {l : List Bk} (n : Nat) (h : backsOkB l = true) : backsOkB (l.take n ++ l.drop (n + 1)) = true := by
  obtain ⟨h1, h2⟩ := backsOk_pw.1 h
  have hs : (l.take n ++ l.drop (n + 1)).Sublist l := by
    have := List.Sublist.append (List.Sublist.refl (l.take n)) (List.drop_sublist 1 (l.drop n))
    rw [List.drop_drop, List.take_append_drop] at this
    exact this
  exact backsOk_pw.2 ⟨h1.sublist hs, fun b hb => h2 b (hs.subset hb)⟩
theorem ok_set {l : List Bk} {n : Nat} {a : Bk} (h : backsOkB l = true) (hn : n < l.length) (e : (l.getD n (0, 0, false)).1 = a.1) (ha : backB a.1 a.2.1 = true) : backsOkB (l.set n a) = true := by
  obtain ⟨h1, h2⟩ := backsOk_pw.1 h
  refine backsOk_pw.2 ⟨?_, ?_⟩
  · have h3 : (l.map (·.1)).Pairwise (fun a b => a < b) := List.pairwise_map.2 h1
    have e2 : (l.set n a).map (·.1) = l.map (·.1) := by
      apply List.ext_getElem
      · simp
      · intro i h4 h5
        simp only [List.getElem_map, List.getElem_set]
        split
        · next hi => subst hi; rw [← e]; simp [hn]
        · rfl
    have h6 := e2 ▸ h3
    exact List.pairwise_map.1 h6
  · intro b hb
    rcases List.mem_or_eq_of_mem_set hb with hb | hb
    · exact h2 b hb
    · rw [hb]; exact ha
theorem doL_some {l m : List Bk} {k i g : Int} (h : doL l k i g = some m) : (thereB l i = false ∧ k = 0 ∧ m = l.take (placeN l i) ++ (i, g, false) :: l.drop (placeN l i)) ∨ (thereB l i = true ∧ k = 1 ∧ m = l.set (placeN l i) (i, g, (l.getD (placeN l i) (0, 0, false)).2.2)) ∨ (thereB l i = true ∧ k = 2 ∧ m = l.set (placeN l i) (i, (l.getD (placeN l i) (0, 0, false)).2.1, true)) ∨ (thereB l i = true ∧ k ≠ 0 ∧ k ≠ 1 ∧ k ≠ 2 ∧ m = l.take (placeN l i) ++ l.drop (placeN l i + 1)) := by
  unfold doL at h
  split at h
  · cases h
  · next hne =>
    injection h with h
    by_cases h0 : k = 0
    · subst h0
      simp only [beq_self_eq_true, Bool.not_eq_true] at hne
      left; exact ⟨hne, rfl, by rw [← h]; simp⟩
    · have hk : (k == 0) = false := beq_eq_false_iff_ne.2 h0
      rw [hk] at hne
      have ht : thereB l i = true := by cases h : thereB l i <;> simp_all
      right
      by_cases h1 : k = 1
      · left; exact ⟨ht, h1, by rw [← h, if_neg h0, if_pos h1]⟩
      · right
        by_cases h2 : k = 2
        · left; exact ⟨ht, h2, by rw [← h, if_neg h0, if_neg h1, if_pos h2]⟩
        · right; exact ⟨ht, h0, h1, h2, by rw [← h, if_neg h0, if_neg h1, if_neg h2]⟩
theorem doL_len {l m : List Bk} {k i g : Int} (h : doL l k i g = some m) : m.length ≤ l.length + 1 := by
  have hp := placeN_le l i
  rcases doL_some h with ⟨_, _, rfl⟩ | ⟨_, _, rfl⟩ | ⟨_, _, rfl⟩ | ⟨_, _, _, _, rfl⟩ <;> simp <;> omega
theorem there_lt0 {l : List Bk} {id : Int} (h : thereB l id = true) : placeN l id < l.length := by
  unfold thereB at h; simp at h; exact h.1
theorem there_is0 {l : List Bk} {id : Int} (h : thereB l id = true) : (l.getD (placeN l id) (0, 0, false)).1 = id := by
  unfold thereB at h; simp only [Bool.and_eq_true, beq_iff_eq] at h; exact h.2
theorem cmdOkB_back {k i g : Int} (h : cmdOkB k i g = true) : k = 0 ∨ k = 1 → backB i g = true := by
  intro hk
  unfold cmdOkB at h
  unfold backB
  simp at h ⊢
  omega
theorem doL_ok {l m : List Bk} {k i g : Int} (hl : backsOkB l = true) (hc : cmdOkB k i g = true) (h : doL l k i g = some m) : backsOkB m = true := by
  have hcb := cmdOkB_back hc
  rcases doL_some h with ⟨ht, hk, rfl⟩ | ⟨ht, hk, rfl⟩ | ⟨ht, hk, rfl⟩ | ⟨ht, hk, _, _, rfl⟩
  · exact ok_insert hl ht (hcb (.inl hk))
  · exact ok_set hl (there_lt0 ht) (there_is0 ht) (hcb (.inr hk))
  · refine ok_set hl (there_lt0 ht) (there_is0 ht) ?_
    obtain ⟨h1, h2⟩ := backsOk_pw.1 hl
    have hlt := there_lt0 ht
    have := h2 (l.getD (placeN l i) (0, 0, false)) (by simp [hlt])
    rw [there_is0 ht] at this
    exact this
  · exact ok_remove _ hl

/-- One command more; none: it can't be, or can't be done. -/
def stepO (s : Option (List Bk)) (c : Cd) : Option (List Bk) := s.bind fun l => if cmdOkB c.1 c.2.1 c.2.2 = true then doL l c.1 c.2.1 c.2.2 else none
def runTo (cs : List Cd) (q : Nat) : Option (List Bk) := (cs.take q).foldl stepO (some [])
theorem runTo_zero (cs : List Cd) : runTo cs 0 = some [] := rfl
theorem runTo_succ {cs : List Cd} {q : Nat} (h : q < cs.length) : runTo cs (q + 1) = stepO (runTo cs q) (cs.getD q (0, 0, 0)) := by
  unfold runTo
  rw [takeL_succ layC cs q h, List.foldl_append]
  rfl
theorem foldO_none (cs : List Cd) : cs.foldl stepO none = none := by
  induction cs with
  | nil => rfl
  | cons c cs ih => exact ih
theorem runTo_none {cs : List Cd} {q r : Nat} (h : runTo cs q = none) (hr : q ≤ r) : runTo cs r = none := by
  unfold runTo at h ⊢
  have e : cs.take r = cs.take q ++ (cs.take r).drop q := by
    have := (List.take_append_drop q (cs.take r)).symm
    rwa [List.take_take, Nat.min_eq_left hr] at this
  rw [e, List.foldl_append, h, foldO_none]
theorem runTo_ok {cs : List Cd} : ∀ (q : Nat) (l : List Bk), q ≤ cs.length → runTo cs q = some l → backsOkB l = true ∧ l.length ≤ q
  | 0, l, hq, h => by rw [runTo_zero] at h; injection h with h; subst h; exact ⟨rfl, Nat.le_refl _⟩
  | q + 1, l, hq, h => by
    rw [runTo_succ (by omega)] at h
    cases hp : runTo cs q with
    | none => rw [hp] at h; cases h
    | some l0 =>
      rw [hp] at h
      obtain ⟨i1, i2⟩ := runTo_ok q l0 (by omega) hp
      simp only [stepO, Option.bind_some] at h
      split at h
      · next hc =>
        have := doL_len h
        exact ⟨doL_ok i1 hc h, by omega⟩
      · cases h
def journalB (key : Int) (cs : List Cd) (safe : Int) : Bool := keyB key && decide (cs.length ≤ 100) && decide (0 ≤ safe) && decide (safe ≤ (cs.length : Int)) && (runTo cs cs.length).isSome

end Go.Proofs.Ytldjaapbkihibaa
