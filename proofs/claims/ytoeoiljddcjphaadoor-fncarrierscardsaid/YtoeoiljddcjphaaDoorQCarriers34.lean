/- What is carried, as text: the words, and the model's. -/
import Derived.Test.YtoeoiljddcjphaaDoorQCarriers33
import Derived.Test.YtoeoiljddcjphaaDoorQCarriers17
import Derived.Test.YtoeoiljddcjphaaDoorQCarriers20
namespace Go.Proofs.YtoeoiljddcjphaaDoor
open Go.ChangeShapes Go.WideShapes Go.ChangeAt Go.RowKit Go.Joins
set_option linter.unusedVariables false
set_option linter.unusedSimpArgs false


/-- The letter of what is done at a stop. -/
def letFn (y : Int) : Int := if y = 1 then 104 else 111
def hereT (h : Bool) : List Int := if h = true then [62] else []
/-- A stop's text. -/
def segT (x : Stop) : List Int := [32] ++ (hereT x.2 ++ ([letFn x.1.2] ++ digL x.1.1.toNat))
def stT (g : List (Int × Int)) (pl : Int) (pre : List Nat) : List Int := pre.flatMap (fun i => segT (stopAt g pl i))
theorem stT_snoc (g : List (Int × Int)) (pl : Int) (pre : List Nat) (k : Nat) : stT g pl (pre ++ [k]) = stT g pl pre ++ segT (stopAt g pl k) := by simp [stT]
def carrTL (a b f s : Int) (n : Nat) (g : List (Int × Int)) (pl : Int) : List Int := pktT a b f s n ++ stT g pl (upto (fun i => i) g.length)
theorem pktT_le (a b f s : Int) (n : Nat) : (pktT a b f s n).length ≤ 300000 := by
 cases h : packetOkB a b f s n with
 | false => rw [pktT_no h]; simp
 | true =>
  obtain ⟨a', b', s', _, _, _, _, _, ha, hb, hs, hn, e⟩ := pktT_yes h
  have := pktTL_len a' b' f s' n
  rw [e]; omega
theorem routeT_seg (op : Bool) : ∀ (g : List (Int × Int)) (p : Int), routeR op p g = true → ∀ i, i < g.length → segOkB (g.getD i (0, 0)).1 (g.getD i (0, 0)).2 = true
 | [], _, _, i, hi => by simp at hi
 | q :: g, p, h, i, hi => by
  rw [routeR, Bool.and_eq_true, Bool.and_eq_true, Bool.and_eq_true] at h
  cases i with
  | zero => exact h.1.1.1
  | succ i => exact routeT_seg op g _ h.2 i (by simpa using hi)
theorem stop_seg {a b f s : Int} {n : Nat} {g : List (Int × Int)} {pl st : Int} (h : carrierOkB a b f s n g pl st = true) (k : Nat) : (0 ≤ (stopAt g pl k).1.1 ∧ (stopAt g pl k).1.1 < 6) ∧ ((stopAt g pl k).1.2 = 0 ∨ (stopAt g pl k).1.2 = 1) := by
 unfold stopAt
 by_cases hk : k < g.length
 ·have h2 : routeR (opens3 f) 0 g = true := by unfold carrierOkB at h; rw [Bool.and_eq_true] at h; exact h.2
  have := segOkB_iff.1 (routeT_seg _ g 0 h2 k hk)
  rw [List.getD_eq_getElem?_getD] at this
  show (0 ≤ (g[k]?.getD (0, 0)).1 ∧ (g[k]?.getD (0, 0)).1 < 6) ∧ ((g[k]?.getD (0, 0)).2 = 0 ∨ (g[k]?.getD (0, 0)).2 = 1)
  omega
 ·have e : g[k]? = none := by simp; omega
  rw [e]
  simp
theorem segT_len {x : Stop} (h0 : 0 ≤ x.1.1) (h1 : x.1.1 < 6) : (segT x).length ≤ 10 := by
 have := digL_len x.1.1.toNat
 have h2 : (hereT x.2).length ≤ 1 := by unfold hereT; split <;> simp
 simp only [segT, List.length_append, List.length_cons, List.length_nil]
 omega
theorem stT_len {a b f s : Int} {n : Nat} {g : List (Int × Int)} {pl st : Int} (h : carrierOkB a b f s n g pl st = true) : ∀ (pre : List Nat), (stT g pl pre).length ≤ 10 * pre.length
 | [] => by simp [stT]
 | k :: pre => by
  have h1 := stT_len h pre
  have h2 := stop_seg h k
  have h3 := segT_len h2.1.1 h2.1.2
  have e : stT g pl (k :: pre) = segT (stopAt g pl k) ++ stT g pl pre := by simp [stT]
  rw [e, List.length_append, List.length_cons]
  omega
theorem segT_eq (K : List Int) (h : Bool) (y : Int) (x : Nat) : (((K ++ [32]) ++ hereT h) ++ [letFn y]) ++ digL x = K ++ segT (((x : Int), y), h) := by simp [segT]

end Go.Proofs.YtoeoiljddcjphaaDoor

