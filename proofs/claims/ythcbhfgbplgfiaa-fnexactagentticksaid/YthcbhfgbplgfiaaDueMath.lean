/- What is due goes: as the model has it. -/
import Derived.Test.YthcbhfgbplgfiaaWayMath2
namespace Go.Proofs.Ythcbhfgbplgfiaa
open Go.ChangeShapes Go.WideShapes Go.ChangeAt Go.RowKit Go.Joins
set_option linter.unusedVariables false
set_option linter.unusedSimpArgs false

def dueB (s : Sl) (now : Int) : Bool := s.u && decide (s.t ≤ now)
/-- The first that is due. -/
def dueAt (l : List Sl) (now : Int) : Option Nat := (List.range l.length).find? (fun j => dueB (at' l j) now)
def dueTo (l : List Sl) (now : Int) (k : Nat) : Prop := ∀ j, j < k → dueB (at' l j) now = false
theorem dueTo_succ {l : List Sl} {now : Int} {k : Nat} (h : dueTo l now k) (hk : dueB (at' l k) now = false) : dueTo l now (k + 1) := fun j hj => by
  rcases Nat.lt_succ_iff_lt_or_eq.1 hj with h1 | h1
  · exact h j h1
  · rw [h1]; exact hk
theorem dueAt_none {l : List Sl} {now : Int} (h : dueTo l now l.length) : dueAt l now = none := by
  unfold dueAt
  rw [List.find?_eq_none]
  intro x hx
  rw [h x (List.mem_range.1 hx)]; decide
theorem dueAt_some {l : List Sl} {now : Int} {k : Nat} (hk : k < l.length) (h : dueTo l now k) (hd : dueB (at' l k) now = true) : dueAt l now = some k := by
  unfold dueAt
  rw [List.find?_range_eq_some]
  refine ⟨hd, List.mem_range.2 hk, fun j hj => ?_⟩
  rw [h j hj]; rfl
theorem dueAt_spec {l : List Sl} {now : Int} {k : Nat} (h : dueAt l now = some k) : k < l.length ∧ dueB (at' l k) now = true :=
  ⟨List.mem_range.1 (List.mem_of_find?_eq_some h), by have := List.find?_some h; simpa using this⟩
/-- How many are there. -/
def cntW (m : List Sl) (j : Nat) : Nat := if (at' m j).u = true then 1 else 0
def cnt (m : List Sl) : Nat := sumTo m.length (cntW m)
theorem sumTo_le : ∀ (n : Nat) {f : Nat → Nat}, (∀ x, f x ≤ 1) → sumTo n f ≤ n
  | 0, _, _ => Nat.le_refl _
  | n + 1, f, h => by simp only [sumTo]; have := sumTo_le n h; have := h n; omega
theorem cnt_le (m : List Sl) : cnt m ≤ m.length := sumTo_le _ (fun x => by unfold cntW; split <;> omega)
theorem cnt_set {m : List Sl} {i : Nat} (hi : i < m.length) (s : Sl) : cnt (m.set i s) + cntW m i = cnt m + (if s.u = true then 1 else 0) := by
  unfold cnt
  rw [List.length_set]
  have h := sumTo_upd m.length (f := cntW (m.set i s)) (g := cntW m) hi (fun x hx => by unfold cntW; rw [at_set_ne s (fun e => hx e.symm)])
  rw [show cntW (m.set i s) i = if s.u = true then 1 else 0 by unfold cntW; rw [at_set_self s hi]] at h
  exact h
theorem cnt_drop {n : Nat} {R : List Sl} : ∀ (g : Nat) (m : List Sl) (i k : Nat), DropInv n R g m i k → cnt R = cnt m
  | g, m, i, k, hD => by
    have hlen := hD.len
    have hi := hD.hi
    have hkl := hD.hk
    cases hu : (m.getD k sl0).u with
    | false => rw [← hD.done hu]
    | true =>
      cases hm' : moves n m i k with
      | true =>
        obtain ⟨hg, hN⟩ := hD.move hu hm'
        obtain ⟨g', rfl⟩ : ∃ g', g = g' + 1 := ⟨g - 1, by omega⟩
        rw [cnt_drop g' _ _ _ hN]
        have hne : i ≠ k := fun e => by have h := hD.free; rw [e, hu] at h; cases h
        have e1 := cnt_set (m := m) (i := i) (by omega) (m.getD k sl0)
        have e2 := cnt_set (m := m.set i (m.getD k sl0)) (i := k) (by rw [List.length_set]; omega) sl0
        have c1 : cntW m i = 0 := by unfold cntW; rw [show (at' m i).u = false from hD.free]; rfl
        have c2 : cntW (m.set i (m.getD k sl0)) k = 1 := by unfold cntW; rw [at_set_ne _ hne, show (at' m k).u = true from hu]; rfl
        rw [hu, if_pos rfl] at e1
        rw [if_neg (by decide)] at e2
        omega
      | false =>
        obtain ⟨hg, hN⟩ := hD.stay hu hm'
        obtain ⟨g', rfl⟩ : ∃ g', g = g' + 1 := ⟨g - 1, by omega⟩
        exact cnt_drop g' _ _ _ hN
theorem cnt_dropAt {l : List Sl} {i : Nat} (h : tableOkB l = true) (hi : i < l.length) (hu : (at' l i).u = true) : cnt (dropAtL l i) + 1 = cnt l := by
  obtain ⟨h1, h2, _⟩ := tableOkB_iff.1 h
  rw [cnt_drop _ _ _ _ (DropInv.start h2 hi (flowsOk_of h))]
  have e := cnt_set (m := l) hi sl0
  have c1 : cntW l i = 1 := by unfold cntW; rw [hu]; rfl
  rw [if_neg (by decide)] at e
  omega
def expGo (now : Int) : Nat → List Sl → Nat → List Sl × Nat
  | 0, l, c => (l, c)
  | f + 1, l, c => match dueAt l now with
    | none => (l, c)
    | some i => expGo now f (dropAtL l i) (c + 1)
/-- What is left, and how many went. -/
def expL (l : List Sl) (now : Int) : List Sl × Nat := expGo now (cnt l + 1) l 0
structure ExpInv (n : Nat) (now : Int) (R : List Sl × Nat) (g : Nat) (m : List Sl) (c : Nat) : Prop where
  ok : tableOkB m = true
  len : m.length = n
  ms : cnt m ≤ g
  go : expGo now (g + 1) m c = R
  bd : c + cnt m ≤ 16
theorem ExpInv.start {l : List Sl} {now : Int} (h : tableOkB l = true) : ExpInv l.length now (expL l now) (cnt l) l 0 :=
  ⟨h, rfl, Nat.le_refl _, rfl, by have := cnt_le l; have := (tableOkB_iff.1 h).2.1; omega⟩
theorem ExpInv.done {n g c : Nat} {now : Int} {R : List Sl × Nat} {m : List Sl} (h : ExpInv n now R g m c) (hd : dueAt m now = none) : R = (m, c) := by
  rw [← h.go]; unfold expGo; rw [hd]
theorem ExpInv.step {n g c i : Nat} {now : Int} {R : List Sl × Nat} {m : List Sl} (h : ExpInv n now R g m c) (hd : dueAt m now = some i) : 1 ≤ g ∧ i < n ∧ (at' m i).u = true ∧ c + 1 ≤ 16 ∧ ExpInv n now R (g - 1) (dropAtL m i) (c + 1) := by
  obtain ⟨h1, h2⟩ := dueAt_spec hd
  have hu : (at' m i).u = true := by unfold dueB at h2; exact ((Bool.and_eq_true _ _).mp h2).1
  have hc := cnt_dropAt h.ok h1 hu
  have hms := h.ms
  have hbd := h.bd
  have hg : 1 ≤ g := by omega
  refine ⟨hg, by rw [← h.len]; exact h1, hu, by omega, dropAtL_ok h.ok h1, by rw [dropAtL_length]; exact h.len, by omega, ?_, by omega⟩
  rw [← h.go, show g - 1 + 1 = g by omega]
  conv => rhs; unfold expGo
  rw [hd]
theorem way_at {m : List Sl} {i : Nat} (h : tableOkB m = true) (hi : i < m.length) (hu : (at' m i).u = true) : endL m (at' m i).a (at' m i).p = ((i : Int), true) := by
  have ht := ((Bool.and_eq_true _ _).mp ((tableOkB_iff.1 h).2.2 i hi)).2
  unfold wayB at ht
  rw [show (m.getD i sl0).u = true from hu] at ht
  simpa using ht
def expM (l : List Sl) (now : Int) : List Sl := if tableOkB l = true then (expL l now).1 else []
def expN (l : List Sl) (now : Int) : Int := if tableOkB l = true then ((expL l now).2 : Nat) else -1
theorem expGo_length (now : Int) : ∀ (f : Nat) (l : List Sl) (c : Nat), (expGo now f l c).1.length = l.length
  | 0, l, c => rfl
  | f + 1, l, c => by
    unfold expGo
    cases hd : dueAt l now with
    | none => rfl
    | some i => rw [expGo_length now f]; exact dropAtL_length l i
theorem expL_length (l : List Sl) (now : Int) : (expL l now).1.length = l.length := expGo_length now _ l 0
theorem expM_len (l : List Sl) (now : Int) : (expM l now).length ≤ 16 := by
  unfold expM
  split
  · next h => rw [expL_length]; exact (tableOkB_iff.1 h).2.1
  · exact Nat.zero_le _

end Go.Proofs.Ythcbhfgbplgfiaa
