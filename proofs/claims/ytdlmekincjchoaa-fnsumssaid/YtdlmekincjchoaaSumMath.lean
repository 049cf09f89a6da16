/- The sum pays no heed to the order of pairs, nor to noughts behind. -/
import Derived.Test.YtdlmekincjchoaaSSum
namespace Go.Proofs.Ytdlmekincjchoaa
open Go.ChangeShapes Go.WideShapes Go.ChangeAt Go.RowKit Go.Joins
set_option linter.unusedVariables false
set_option linter.unusedSimpArgs false

theorem stepL_swap (n x y : Int) (hn : 0 ≤ n ∧ n ≤ 65535) (hx : 0 ≤ x ∧ x ≤ 65535) (hy : 0 ≤ y ∧ y ≤ 65535) : stepL (stepL n x) y = stepL (stepL n y) x := by
  unfold stepL
  split <;> split <;> split <;> split <;> omega
theorem stepL_zero (n : Int) (hn : 0 ≤ n ∧ n ≤ 65535) : stepL n 0 = n := by unfold stepL; split <;> omega

/-- Two lists that are alike but for each two pairs, which may have changed their places. -/
theorem sumTo_swap {l m : List Int} (hl : isB l) (hm : isB m) (k : Nat) (h : ∀ j, j < k → (pairL m (4 * j) = pairL l (4 * j + 2) ∧ pairL m (4 * j + 2) = pairL l (4 * j))) : sumTo m (2 * k) = sumTo l (2 * k) := by
  induction k with
  | zero => rfl
  | succ k ih =>
    have e := ih (fun j hj => h j (by omega))
    obtain ⟨h1, h2⟩ := h k (by omega)
    have s := sumTo_bd hl (2 * k)
    have a1 := pairL_bd hl (4 * k)
    have a2 := pairL_bd hl (4 * k + 2)
    show stepL (stepL (sumTo m (2 * k)) (pairL m (2 * (2 * k)))) (pairL m (2 * (2 * k + 1))) = stepL (stepL (sumTo l (2 * k)) (pairL l (2 * (2 * k)))) (pairL l (2 * (2 * k + 1)))
    rw [e, show 2 * (2 * k) = 4 * k by omega, show 2 * (2 * k + 1) = 4 * k + 2 by omega, h1, h2]
    exact stepL_swap _ _ _ s a2 a1
theorem sumTo_on {l m : List Int} (k n : Nat) (hk : sumTo m k = sumTo l k) (h : ∀ j, k ≤ j → j < k + n → pairL m (2 * j) = pairL l (2 * j)) : sumTo m (k + n) = sumTo l (k + n) := by
  induction n with
  | zero => exact hk
  | succ n ih =>
    have e := ih (fun j h1 h2 => h j h1 (by omega))
    show stepL (sumTo m (k + n)) (pairL m (2 * (k + n))) = stepL (sumTo l (k + n)) (pairL l (2 * (k + n)))
    rw [e, h (k + n) (by omega) (by omega)]

/-- The same length, pairs changed over in each four: the same sum. -/
theorem checkL_swap {l m : List Int} (hl : isB l) (hm : isB m) (hlen : m.length = l.length) (h : ∀ j, 4 * j + 3 < l.length → (pairL m (4 * j) = pairL l (4 * j + 2) ∧ pairL m (4 * j + 2) = pairL l (4 * j)))
    (hr : ∀ i, 4 * (l.length / 4) ≤ i → m.getD i 0 = l.getD i 0) : checkL m = checkL l := by
  unfold checkL
  rw [hlen]
  have e := sumTo_swap hl hm (l.length / 4) (fun j hj => h j (by omega))
  have e2 := sumTo_on (2 * (l.length / 4)) ((l.length + 1) / 2 - 2 * (l.length / 4)) e (fun j h1 _ => by unfold pairL; rw [hr _ (by omega), hr _ (by omega)])
  rw [show 2 * (l.length / 4) + ((l.length + 1) / 2 - 2 * (l.length / 4)) = (l.length + 1) / 2 by omega] at e2
  rw [e2]

theorem sumTo_end0 {l : List Int} (hl : isB l) (k n : Nat) (hk : l.length ≤ 2 * k) : sumTo l (k + n) = sumTo l k := by
  induction n with
  | zero => rfl
  | succ n ih =>
    show stepL (sumTo l (k + n)) (pairL l (2 * (k + n))) = _
    have p : pairL l (2 * (k + n)) = 0 := by
      unfold pairL
      simp [List.getElem?_eq_none (show l.length ≤ 2 * (k + n) by omega), List.getElem?_eq_none (show l.length ≤ 2 * (k + n) + 1 by omega)]
    rw [p, ih]
    exact stepL_zero _ (sumTo_bd hl k)
/-- Noughts behind change nothing. -/
theorem checkL_zeros {l : List Int} (hl : isB l) (n : Nat) : checkL (l ++ List.replicate n 0) = checkL l := by
  have hg : ∀ i, (l ++ List.replicate n 0).getD i 0 = l.getD i 0 := by
    intro i
    simp only [List.getD_eq_getElem?_getD, List.getElem?_append, List.getElem?_replicate]
    split
    · rfl
    · rename_i h
      rw [List.getElem?_eq_none (Nat.le_of_not_lt h)]
      split <;> rfl
  have hp : ∀ i, pairL (l ++ List.replicate n 0) i = pairL l i := fun i => by unfold pairL; rw [hg, hg]
  have hs : ∀ k, sumTo (l ++ List.replicate n 0) k = sumTo l k := by
    intro k
    induction k with
    | zero => rfl
    | succ k ih => unfold sumTo; rw [ih, hp]
  unfold checkL
  rw [hs]
  obtain ⟨d, hd⟩ : ∃ d, ((l ++ List.replicate n 0).length + 1) / 2 = (l.length + 1) / 2 + d := ⟨((l ++ List.replicate n 0).length + 1) / 2 - (l.length + 1) / 2, by simp; omega⟩
  rw [hd, sumTo_end0 hl _ d (by omega)]

end Go.Proofs.Ytdlmekincjchoaa
