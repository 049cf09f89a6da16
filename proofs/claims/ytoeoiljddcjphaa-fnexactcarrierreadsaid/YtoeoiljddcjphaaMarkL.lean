/- The laws' marks in a row of records of whole numbers, whatever their layout: what stands there behind them. -/
import Derived.Test.YtoeoiljddcjphaaLists
namespace Go.Proofs.Ytoeoiljddcjphaa
open Go.ChangeShapes Go.WideShapes Go.ChangeAt Go.RowKit Go.Joins
set_option linter.unusedVariables false
set_option linter.unusedSimpArgs false

variable {α : Type}

/-- n records, marked from k on, m numbers each. -/
def mkL (f : Int → α) (m : Nat) (k : Int) (n : Nat) : List α := (List.range n).map (fun (i : Nat) => f (k + (m : Int) * (i : Int)))
theorem mkL_length (f : Int → α) (m : Nat) (k : Int) (n : Nat) : (mkL f m k n).length = n := by simp [mkL]
theorem mkL_get (f : Int → α) (m : Nat) (k : Int) (n i : Nat) (d : α) (h : i < n) : (mkL f m k n).getD i d = f (k + (m : Int) * (i : Int)) := by simp [mkL, h]
theorem mkL_succ (f : Int → α) (m : Nat) (k : Int) (n : Nat) : mkL f m k (n + 1) = mkL f m k n ++ [f (k + (m : Int) * (n : Int))] := by simp [mkL, List.range_succ]
def mkTo (f : Int → α) (m : Nat) (l : List α) (k : Int) (i : Nat) : List α := mkL f m k i ++ l.drop i
theorem mkTo_zero (f : Int → α) (m : Nat) (l : List α) (k : Int) : mkTo f m l k 0 = l := by simp [mkTo, mkL]
theorem mkTo_all (f : Int → α) (m : Nat) (l : List α) (k : Int) : mkTo f m l k l.length = mkL f m k l.length := by simp [mkTo]
theorem mkTo_length (f : Int → α) (m : Nat) (l : List α) (k : Int) (i : Nat) (h : i ≤ l.length) : (mkTo f m l k i).length = l.length := by simp [mkTo, mkL_length]; omega
theorem mkTo_set (f : Int → α) (m : Nat) (l : List α) (k : Int) (i : Nat) (h : i < l.length) : (mkTo f m l k i).set i (f (k + (m : Int) * (i : Int))) = mkTo f m l k (i + 1) := by
  unfold mkTo
  rw [List.drop_eq_getElem_cons h, List.set_append_right _ _ (by rw [mkL_length]; exact Nat.le_refl _), mkL_length, Nat.sub_self, List.set_cons_zero, mkL_succ, List.append_assoc]
  rfl
theorem flat_set2 (L : Lay α) (hk : L.k = 2) {v0 v1 : Value} {a : α} (ha : L.cs a = [v0, v1]) : ∀ (l : List α) (i : Nat), ((l.flatMap L.cs).set (i * 2) v0).set (i * 2 + 1) v1 = (l.set i a).flatMap L.cs
  | [], i => by simp
  | q :: l, 0 => by
    have hq := (L.len q).trans hk
    match hc : L.cs q, hq with
    | [q0, q1], _ => simp [ha, hc]
  | q :: l, i + 1 => by
    have hq := (L.len q).trans hk
    match hc : L.cs q, hq with
    | [q0, q1], _ =>
      rw [show (i + 1) * 2 = i * 2 + 1 + 1 by omega]
      simp only [List.flatMap_cons, hc, List.cons_append, List.nil_append, List.set_cons_succ]
      rw [flat_set2 L hk ha l i]
theorem grown_set1 {w wr : World} {base g c n : Nat} {e : TypeId} {size : Nat} {xs : List Value} {j : Nat} {u : Value} (hown : wr.ownsRow base e size (.slice (some ⟨g, 0, none⟩) n c) n xs) (hg : w.grownBy wr (some g)) :
    (wr.setCell ⟨g, j, none⟩ u).ownsRow base e size (.slice (some ⟨g, 0, none⟩) n c) n (xs.set j u) ∧ w.grownBy (wr.setCell ⟨g, j, none⟩ u) (some g) := by
  have h := hown.stored j u
  exact ⟨h.1, ⟨hg.os, hg.tape, hg.output, by have := h.2.size; have := hg.size; omega, fun i hi hne => (h.2.block i (Nat.lt_of_lt_of_le hi hg.size) hne).trans (hg.block i hi hne)⟩⟩

end Go.Proofs.Ytoeoiljddcjphaa
