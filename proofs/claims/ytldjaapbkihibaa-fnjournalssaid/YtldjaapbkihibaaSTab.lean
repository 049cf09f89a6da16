/- Rows of ints that own their memory, each row its own: TableOf's answers. -/
import Derived.Test.YtldjaapbkihibaaLInts
import Derived.Test.YtldjaapbkihibaaSPair2
namespace Go.Proofs.Ytldjaapbkihibaa
open Go.ChangeShapes Go.WideShapes Go.ChangeAt Go.RowKit Go.Joins
set_option linter.unusedVariables false
set_option linter.unusedSimpArgs false

theorem ownL.rds {α : Type} {L : Lay α} {e : TypeId} {w : World} {base n c : Nat} {o : Option Addr} {l : List α} (h : ownL L e w base (.slice o n c) l) : RdL L w.heap.size w o l := by
  obtain ⟨o', c', e', hr⟩ := h.open
  injection e' with e1 e2 e3
  rw [e1]; exact hr
/-- Rows of unlike types never share a block. -/
theorem own_apart {w : World} {b1 b2 s1 s2 n1 n2 : Nat} {e1 e2 : TypeId} {v1 v2 : Value} {x1 x2 : List Value} (h1 : w.ownsRow b1 e1 s1 v1 n1 x1) (h2 : w.ownsRow b2 e2 s2 v2 n2 x2) (he : e1 ≠ e2) : v1.ownBlock = none ∨ v1.ownBlock ≠ v2.ownBlock := by
  rcases h1.2 with ⟨rfl, _⟩ | ⟨g, cap, cur, rfl, _, hg, _⟩
  · exact .inl rfl
  · right
    rcases h2.2 with ⟨rfl, _⟩ | ⟨g', cap', cur', rfl, _, hg', _⟩
    · simp [Value.ownBlock]
    · intro e
      simp [Value.ownBlock] at e
      subst e
      rw [hg] at hg'
      simp at hg'
      exact he hg'.2
theorem intNe : (3 : TypeId) ≠ 43 := by decide
theorem nintNe : (43 : TypeId) ≠ 3 := by decide

def hv (hs : List Hd) (i : Nat) : Value := .slice (hs.getD i (none, 0, 0)).1 (hs.getD i (none, 0, 0)).2.1 (hs.getD i (none, 0, 0)).2.2
/-- The first k rows: each its own, no two in one block. -/
structure Tab (R : Nat → List Int) (k : Nat) (w : World) (base : Nat) (hs : List Hd) : Prop where
  len : hs.length = k
  row : ∀ i, i < k → ownI w base (hv hs i) (R i)
  apart : ∀ i j, i < k → j < k → i ≠ j → (hv hs i).ownBlock = none ∨ (hv hs i).ownBlock ≠ (hv hs j).ownBlock
theorem Tab.nil (R : Nat → List Int) (w : World) (base : Nat) : Tab R 0 w base [] := ⟨rfl, fun i h => absurd h (Nat.not_lt_zero _), fun i _ h => absurd h (Nat.not_lt_zero _)⟩
theorem Tab.kept {R : Nat → List Int} {k : Nat} {w w' : World} {base : Nat} {hs : List Hd} (h : Tab R k w base hs) (hb : Below w.heap.size w w') : Tab R k w' base hs :=
  ⟨h.len, fun i hi => own_kept (h.row i hi) hb, h.apart⟩
theorem Tab.grown {R : Nat → List Int} {k : Nat} {w w' : World} {base : Nat} {hs : List Hd} {r : Option Nat} (h : Tab R k w base hs) (hg : w.grownBy w' r) (hn : ∀ i, i < k → (hv hs i).ownBlock = none ∨ (hv hs i).ownBlock ≠ r) : Tab R k w' base hs :=
  ⟨h.len, fun i hi => (h.row i hi).kept hg (hn i hi), h.apart⟩
/-- A row of another type has grown. -/
theorem Tab.other {R : Nat → List Int} {k : Nat} {w w' : World} {base b2 s2 n2 : Nat} {hs : List Hd} {e2 : TypeId} {v2 : Value} {x2 : List Value} (h : Tab R k w base hs) (h2 : w.ownsRow b2 e2 s2 v2 n2 x2) (he : 3 ≠ e2) (hg : w.grownBy w' v2.ownBlock) : Tab R k w' base hs :=
  h.grown hg fun i hi => own_apart (h.row i hi) h2 he
theorem hv_left {hs : List Hd} {x : Hd} {i : Nat} (h : i < hs.length) : hv (hs ++ [x]) i = hv hs i := by
  unfold hv; rw [List.getD_eq_getElem?_getD, List.getElem?_append_left h, ← List.getD_eq_getElem?_getD]
theorem hv_last {hs : List Hd} {x : Hd} : hv (hs ++ [x]) hs.length = .slice x.1 x.2.1 x.2.2 := by
  unfold hv; rw [List.getD_eq_getElem?_getD, List.getElem?_append_right (Nat.le_refl _), Nat.sub_self]; rfl
theorem Tab.snoc {R : Nat → List Int} {k : Nat} {w : World} {base n0 : Nat} {hs : List Hd} {o : Option Addr} {m c : Nat} (h : Tab R k w base hs) (hlt : ∀ i, i < k → ∀ b, (hv hs i).ownBlock = some b → b < n0) (hbn : base ≤ n0)
    (hr : ownI w n0 (.slice o m c) (R k)) : Tab R (k + 1) w base (hs ++ [(o, m, c)]) := by
  have hl := h.len
  have new : hv (hs ++ [(o, m, c)]) k = .slice o m c := by rw [← hl]; exact hv_last
  refine ⟨by simp [hl], fun i hi => ?_, fun i j hi hj hij => ?_⟩
  · rcases Nat.lt_succ_iff_lt_or_eq.1 hi with h' | h'
    · rw [hv_left (by omega)]; exact h.row i h'
    · subst h'; rw [new]; exact own_mono hr hbn
  · rcases Nat.lt_succ_iff_lt_or_eq.1 hi with h' | h'
    · rw [hv_left (by omega)]
      rcases Nat.lt_succ_iff_lt_or_eq.1 hj with g' | g'
      · rw [hv_left (by omega)]; exact h.apart i j h' g' hij
      · subst g'; rw [new]
        cases hob : (hv hs i).ownBlock with
        | none => exact .inl rfl
        | some b =>
          right
          intro e
          have h1 := hlt i h' b hob
          have h2 := (hr.lt b e.symm).1
          omega
    · subst h'
      rw [new]
      cases hob : (Value.slice o m c).ownBlock with
      | none => exact .inl rfl
      | some b =>
        right
        rw [hv_left (by omega)]
        intro e
        have h1 := hlt j (by omega) b e.symm
        have h2 := (hr.lt b hob).1
        omega
theorem Tab.lt {R : Nat → List Int} {k : Nat} {w : World} {base : Nat} {hs : List Hd} (h : Tab R k w base hs) : ∀ i, i < k → ∀ b, (hv hs i).ownBlock = some b → b < w.heap.size :=
  fun i hi b e => ((h.row i hi).lt b e).2
def rowsOf (R : Nat → List Int) (n : Nat) : List (List Int) := (List.range n).map R
theorem rowsOf_length (R : Nat → List Int) (n : Nat) : (rowsOf R n).length = n := by simp [rowsOf]
theorem rowsOf_get (R : Nat → List Int) (n i : Nat) (h : i < n) : (rowsOf R n).getD i [] = R i := by simp [rowsOf, h]
theorem Tab.rd {R : Nat → List Int} {n : Nat} {w : World} {base b2 m c : Nat} {hs : List Hd} {o : Option Addr} (h : Tab R n w base hs) (ho : ownL layH 43 w b2 (.slice o m c) hs) : RdLL w.heap.size w o (rowsOf R n) := by
  refine ⟨hs, by rw [h.len, rowsOf_length], ownL.rds ho, fun i hi => ?_⟩
  rw [rowsOf_length] at hi
  rw [rowsOf_get R n i hi]
  have hr := h.row i hi
  obtain ⟨o', c', e', _⟩ := ownL.open (L := layI) hr
  unfold hv at e'
  injection e' with e1 e2 e3
  exact ⟨e2, ownL.rds (L := layI) hr⟩

/-- A table that is its caller's own, or none. -/
def OwnT (w : World) (base : Nat) (v : Value) (n : Nat) (R : Nat → List Int) : Prop :=
  (v = .slice none 0 0 ∧ n = 0) ∨ ∃ g hs, v = .slice (some ⟨g, 0, none⟩) n n ∧ ownL layH 43 w base v hs ∧ Tab R n w base hs
theorem OwnT.kept {w w' : World} {base n : Nat} {v : Value} {R : Nat → List Int} (h : OwnT w base v n R) (hb : Below w.heap.size w w') : OwnT w' base v n R := by
  rcases h with h | ⟨g, hs, e, ho, ht⟩
  · exact .inl h
  · exact .inr ⟨g, hs, e, own_kept ho hb, ht.kept hb⟩
theorem OwnT.grown {w w' : World} {base n gx : Nat} {v : Value} {R : Nat → List Int} (h : OwnT w base v n R) (hg : w.grownBy w' (some gx)) (hx : gx < base) : OwnT w' base v n R := by
  have key : ∀ {u : Value} {e : TypeId} {s m : Nat} {xs : List Value}, w.ownsRow base e s u m xs → u.ownBlock = none ∨ u.ownBlock ≠ some gx := fun {u e s m xs} hu => by
    cases hob : u.ownBlock with
    | none => exact .inl rfl
    | some b => right; have := (hu.lt b hob).1; intro e'; injection e' with e'; omega
  rcases h with h | ⟨g, hs, e, ho, ht⟩
  · exact .inl h
  · exact .inr ⟨g, hs, e, World.ownsRow.kept ho hg (key ho), ht.grown hg fun i hi => key (ht.row i hi)⟩
theorem OwnT.open {w : World} {base n : Nat} {v : Value} {R : Nat → List Int} (h : OwnT w base v n R) : ∃ o c, v = .slice o n c ∧ RdLL w.heap.size w o (rowsOf R n) := by
  rcases h with ⟨rfl, rfl⟩ | ⟨g, hs, rfl, ho, ht⟩
  · exact ⟨none, 0, rfl, [], rfl, .inl rfl, fun i hi => by simp [rowsOf] at hi⟩
  · exact ⟨_, _, rfl, ht.rd ho⟩

/-- Where row i's marks begin. -/
def st (R : Nat → List Int) (k : Int) : Nat → Int
  | 0 => k
  | i + 1 => st R k i + (R i).length
theorem st_bd (R : Nat → List Int) (k : Int) (h : ∀ i, (R i).length ≤ 2) : ∀ i, k ≤ st R k i ∧ st R k i ≤ k + 2 * i
  | 0 => by unfold st; omega
  | i + 1 => by have := st_bd R k h i; have := h i; unfold st; omega
/-- The first i rows hold marks. -/
def mkd (R : Nat → List Int) (k : Int) (i j : Nat) : List Int := if j < i then markI (st R k j) (R j).length else R j
theorem Tab.marked {R : Nat → List Int} {k : Int} {n i : Nat} {w w' : World} {base : Nat} {hs : List Hd} (hi : i < n) (h : Tab (mkd R k i) n w base hs)
    (ho : ownI w' base (hv hs i) (markI (st R k i) (R i).length)) (hg : w.grownBy w' (hv hs i).ownBlock) : Tab (mkd R k (i + 1)) n w' base hs := by
  refine ⟨h.len, fun j hj => ?_, h.apart⟩
  by_cases e : j = i
  · subst e
    rw [mkd, if_pos (Nat.lt_succ_self _)]; exact ho
  · have hr := (h.row j hj).kept hg (h.apart j i hj hi e)
    have e2 : mkd R k (i + 1) j = mkd R k i j := by
      unfold mkd
      by_cases h1 : j < i
      · rw [if_pos h1, if_pos (by omega)]
      · rw [if_neg h1, if_neg (by omega)]
    rw [e2]; exact hr

end Go.Proofs.Ytldjaapbkihibaa
