/- What the two best are, told by their places in the list. -/
import Derived.Test.YtgnfcnajepbhpaaSPair2
namespace Go.Proofs.Ytgnfcnajepbhpaa
open Go.ChangeShapes Go.WideShapes Go.ChangeAt Go.RowKit Go.Joins
set_option linter.unusedVariables false
set_option linter.unusedSimpArgs false

theorem mem_scL {key b : Int} {l : List Bk} {z : Sc} : z ∈ scL key b l ↔ ∃ i, i < l.length ∧ (l.getD i (0, 0, false)).2.2 = false ∧ z = scOf key b (l.getD i (0, 0, false)) := by
  unfold scL
  constructor
  · intro h
    obtain ⟨x, hx, e⟩ := List.mem_map.1 h
    obtain ⟨h1, h2⟩ := List.mem_filter.1 hx
    obtain ⟨i, hi, e2⟩ := List.getElem_of_mem h1
    have e3 : l.getD i (0, 0, false) = x := by simp [hi, e2]
    exact ⟨i, hi, by rw [e3]; simpa using h2, by rw [e3, ← e]; rfl⟩
  · rintro ⟨i, hi, hd, rfl⟩
    refine List.mem_map.2 ⟨l.getD i (0, 0, false), List.mem_filter.2 ⟨?_, by rw [hd]; rfl⟩, rfl⟩
    rw [List.getD_eq_getElem?_getD, List.getElem?_eq_getElem hi]
    exact List.getElem_mem hi
theorem id_inj {l : List Bk} (h : backsOkB l = true) {i j : Nat} (hi : i < l.length) (hj : j < l.length) (e : (l.getD i (0, 0, false)).1 = (l.getD j (0, 0, false)).1) : i = j := by
  rcases Nat.lt_trichotomy i j with h1 | h1 | h1
  · have := backs_lt h j hj i h1; omega
  · exact h1
  · have := backs_lt h i hi j h1; omega
def scAt (key b : Int) (l : List Bk) (i : Nat) : Int := scoreI key b (l.getD i (0, 0, false)).1 (l.getD i (0, 0, false)).2.1
theorem scOf_eq (key b : Int) (l : List Bk) (i : Nat) : scOf key b (l.getD i (0, 0, false)) = ((l.getD i (0, 0, false)).1, scAt key b l i) := rfl
theorem pairs_facts {key b : Int} {l : List Bk} (hl : backsOkB l = true) (hn : scL key b l ≠ []) :
    ∃ k1 k2, k1 < l.length ∧ k2 < l.length ∧ pairL (pick (scL key b l)) = [(l.getD k1 (0, 0, false)).1, (l.getD k2 (0, 0, false)).1] ∧ (l.getD k1 (0, 0, false)).2.2 = false ∧ (l.getD k2 (0, 0, false)).2.2 = false ∧
      (∀ k, k < l.length → (l.getD k (0, 0, false)).2.2 = false → scAt key b l k ≤ scAt key b l k1) ∧ (∀ k, k < l.length → (l.getD k (0, 0, false)).2.2 = false → k ≠ k1 → scAt key b l k ≤ scAt key b l k2) ∧ (k1 = k2 ↔ (scL key b l).length = 1) := by
  have hB := best_scL (key := key) (b := b) hl
  have hok : ∀ z ∈ scL key b l, okS z := fun z hz => scL_mem_ok hl hz
  generalize hp : pick (scL key b l) = p at hB
  obtain ⟨p1, p2⟩ := p
  match p1, p2, hB with
  | none, t, hB => exact absurd hB.1 hn
  | some o, none, hB =>
    have hB : scL key b l = [o] := hB
    obtain ⟨k1, h1, d1, e1⟩ := mem_scL.1 (show o ∈ scL key b l by rw [hB]; exact List.mem_singleton.2 rfl)
    have one : ∀ k, k < l.length → (l.getD k (0, 0, false)).2.2 = false → k = k1 := fun k hk hd => by
      have hm := (mem_scL (key := key) (b := b)).2 ⟨k, hk, hd, rfl⟩
      rw [hB] at hm
      have e := List.mem_singleton.1 hm
      have e' : (l.getD k (0, 0, false)).1 = (l.getD k1 (0, 0, false)).1 := by have h := congrArg (fun z : Sc => z.1) (e.trans e1); exact h
      exact id_inj hl hk h1 e'
    refine ⟨k1, k1, h1, h1, ?_, d1, d1, fun k hk hd => ?_, fun k hk hd hne => absurd (one k hk hd) hne, ?_⟩
    · show [o.1, o.1] = _
      rw [e1]; rfl
    · rw [one k hk hd]; exact Int.le_refl _
    · rw [hB]; simp
  | some o, some t, hB =>
    obtain ⟨ho, ht, hne, hb1, hb2⟩ := hB
    have oo := hok o ho
    have ot := hok t ht
    obtain ⟨k1, h1, d1, e1⟩ := mem_scL.1 ho
    obtain ⟨k2, h2, d2, e2⟩ := mem_scL.1 ht
    have hkne : k1 ≠ k2 := fun e => hne (by rw [e1, e2, e])
    refine ⟨k1, k2, h1, h2, ?_, d1, d2, fun k hk hd => ?_, fun k hk hd hk1 => ?_, ?_⟩
    · show [o.1, t.1] = _
      rw [e1, e2]; rfl
    · have hm := (mem_scL (key := key) (b := b)).2 ⟨k, hk, hd, rfl⟩
      have r := hb1 _ hm
      have oz := hok _ hm
      rw [e1] at r oo
      rw [scOf_eq] at r oo oz
      rw [scOf_eq] at r
      unfold rank at r
      unfold okS at oo oz
      dsimp only at r oo oz
      omega
    · have hm := (mem_scL (key := key) (b := b)).2 ⟨k, hk, hd, rfl⟩
      have hzo : scOf key b (l.getD k (0, 0, false)) ≠ o := fun e => hk1 (by
        have e' : (l.getD k (0, 0, false)).1 = (l.getD k1 (0, 0, false)).1 := by have h := congrArg (fun z : Sc => z.1) (e.trans e1); exact h
        exact id_inj hl hk h1 e')
      have r := hb2 _ hm hzo
      have oz := hok _ hm
      rw [e2] at r ot
      rw [scOf_eq] at r ot oz
      rw [scOf_eq] at r
      unfold rank at r
      unfold okS at ot oz
      dsimp only at r ot oz
      omega
    · refine ⟨fun e => absurd e hkne, fun e => ?_⟩
      exfalso
      obtain ⟨z, hz⟩ := List.length_eq_one_iff.1 e
      rw [hz] at ho ht
      exact hne ((List.mem_singleton.1 ht).trans (List.mem_singleton.1 ho).symm)
/-- How many of the first j do not drain. -/
def cnt (l : List Bk) (j : Nat) : Nat := ((l.take j).filter (fun x => !x.2.2)).length
theorem cnt_le (l : List Bk) (j : Nat) : cnt l j ≤ j := by
  unfold cnt; have := List.length_filter_le (fun x : Bk => !x.2.2) (l.take j); simp at this ⊢; omega
theorem cnt_yes {l : List Bk} {j : Nat} {x y : Int} (hj : j < l.length) (h : l.getD j (0, 0, false) = (x, y, false)) : cnt l (j + 1) = cnt l j + 1 := by
  unfold cnt; rw [takeL_succ layK l j hj, show l.getD j layK.d = l.getD j (0, 0, false) from rfl, h]; simp
theorem cnt_no {l : List Bk} {j : Nat} {x y : Int} (hj : j < l.length) (h : l.getD j (0, 0, false) = (x, y, true)) : cnt l (j + 1) = cnt l j := by
  unfold cnt; rw [takeL_succ layK l j hj, show l.getD j layK.d = l.getD j (0, 0, false) from rfl, h]; simp
theorem cnt_all (key b : Int) (l : List Bk) : cnt l l.length = (scL key b l).length := by
  unfold cnt scL; rw [List.take_of_length_le (Nat.le_refl _), List.length_map]

end Go.Proofs.Ytgnfcnajepbhpaa
