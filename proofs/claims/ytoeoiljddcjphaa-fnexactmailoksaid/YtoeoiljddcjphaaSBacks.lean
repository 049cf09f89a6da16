/- BacksOk on both sides. -/
import Derived.Test.YtoeoiljddcjphaaBacks
import Derived.Deep.QuietTactic
import Derived.BigQuiet
namespace Go.Proofs.Ytoeoiljddcjphaa
open Go.ChangeShapes Go.WideShapes Go.ChangeAt Go.RowKit Go.Joins
set_option linter.unusedVariables false
set_option linter.unusedSimpArgs false

def backB (i g : Int) : Bool := decide (0 ≤ i) && decide (i < 6) && decide (1 ≤ g) && decide (g ≤ 100)
theorem backB_iff {i g : Int} : backB i g = true ↔ 0 ≤ i ∧ i < 6 ∧ 1 ≤ g ∧ g ≤ 100 := by simp [backB, and_assoc]
theorem backB_parts {i g : Int} : backB i g = true ↔ (0 ≤ i ∧ i < 6 ∧ 1 ≤ g ∧ g ≤ 100 ∧ True) := by simp [backB, and_assoc]
/-- The element at i is as it should be, and above the one ahead of it. -/
def okAt (l : List Bk) (i : Nat) : Bool := backB (l.getD i (0, 0, false)).1 (l.getD i (0, 0, false)).2.1 && (decide (i = 0) || decide ((l.getD (i - 1) (0, 0, false)).1 < (l.getD i (0, 0, false)).1))
def okTo (l : List Bk) (k : Nat) : Prop := ∀ i, i < k → okAt l i = true
def backsOkB (l : List Bk) : Bool := (List.range l.length).all (okAt l)
theorem backsOkB_iff {l : List Bk} : backsOkB l = true ↔ okTo l l.length := by simp [backsOkB, okTo]
theorem okTo_succ {l : List Bk} {k : Nat} (h : okTo l k) (hk : okAt l k = true) : okTo l (k + 1) := fun i hi => by
  rcases Nat.lt_succ_iff_lt_or_eq.1 hi with h1 | h1
  · exact h i h1
  · rw [h1]; exact hk
theorem backsOkB_no {l : List Bk} {k : Nat} (hk : k < l.length) (h : okAt l k = false) : false = backsOkB l := by
  cases hb : backsOkB l with
  | false => rfl
  | true => rw [backsOkB_iff.1 hb k hk] at h; cases h
theorem okAt_zero {l : List Bk} {x y : Int} {z : Bool} (h : l.getD 0 (0, 0, false) = (x, y, z)) : okAt l 0 = backB x y := by simp only [okAt, h]; simp
theorem okAt_succ {l : List Bk} {k : Nat} {x y x' y' : Int} {z z' : Bool} (h : l.getD (k + 1) (0, 0, false) = (x, y, z)) (h' : l.getD k (0, 0, false) = (x', y', z')) : okAt l (k + 1) = (backB x y && decide (x' < x)) := by simp only [okAt, h, h', Nat.add_sub_cancel]; simp

end Go.Proofs.Ytoeoiljddcjphaa
