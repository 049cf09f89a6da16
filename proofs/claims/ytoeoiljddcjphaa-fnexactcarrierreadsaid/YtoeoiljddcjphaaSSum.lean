/- CheckSum on both sides: a plain function on lists of bytes, and the contracts. -/
import Derived.Test.YtoeoiljddcjphaaBytes
import Derived.Test.YtoeoiljddcjphaaBits
namespace Go.Proofs.Ytoeoiljddcjphaa
open Go.ChangeShapes Go.WideShapes Go.ChangeAt Go.RowKit Go.Joins
set_option linter.unusedVariables false
set_option linter.unusedSimpArgs false

def pairLS (l : List Int) (i : Nat) : Int := l.getD i 0 * 256 + l.getD (i + 1) 0
def stepL (n x : Int) : Int := if 65535 < n + x then n + x - 65535 else n + x
def sumToS (l : List Int) : Nat → Int
  | 0 => 0
  | k + 1 => stepL (sumToS l k) (pairLS l (2 * k))
def checkL (l : List Int) : Int := 65535 - sumToS l ((l.length + 1) / 2)

def sumL (l : List Int) : Int := if 2000 < l.length then -1 else checkL l

theorem pairL_bd {l : List Int} (h : isB l) (i : Nat) : 0 ≤ pairLS l i ∧ pairLS l i ≤ 65535 := by
  have h1 := h.get i; have h2 := h.get (i + 1); unfold pairLS; omega
theorem sumTo_bd {l : List Int} (h : isB l) (k : Nat) : 0 ≤ sumToS l k ∧ sumToS l k ≤ 65535 := by
  induction k with
  | zero => simp [sumToS]
  | succ k ih => have := pairL_bd h (2 * k); unfold sumToS stepL; split <;> omega

set_option maxHeartbeats 1000000 in
theorem pairAt_any (o : Option Addr) (cap : Nat) (l : List Int) (i : Nat) (w : World) (hR : Rd w o l) (hB8 : isB l) (hlen : l.length ≤ 1048576) (hi : i < l.length) :
    Calls Try.prog 70 #[.slice o l.length cap, .int .i64 i] w fun e w' => e = .returned (.int .i64 (pairLS l i)) ∧ w = w' := by
  rcases hR with hR | ⟨b, off, rfl, hbl, hcell⟩
  · subst hR; simp at hi
  have hc0 := hcell i hi
  have b0 := hB8.get i
  by_cases h1 : i + 1 < l.length
  · have hc1 := hcell (i + 1) h1
    have b1 := hB8.get (i + 1)
    have e1 : off + (i + 1) = off + i + 1 := by omega
    rw [e1] at hc1
    have HP := hide (show l.getD i 0 * 256 + l.getD (i + 1) 0 = pairLS l i from rfl)
    clear hcell
    generalize l.getD i 0 = x at *
    generalize l.getD (i + 1) 0 = y at *
    have HO := hide (or_bytes x y b0 b1)
    go_enter Try.func70, Try.ntmps70
    go_wp2
    go_ret
    exact ⟨ret_int (HO.out.trans HP.out), rfl⟩
  · have HP : Hid (l.getD i 0 * 256 = pairLS l i) := by
      have : l.getD (i + 1) 0 = 0 := by simp [List.getElem?_eq_none (Nat.le_of_not_lt h1)]
      unfold Hid pairLS; rw [this]; omega
    clear hcell
    generalize l.getD i 0 = x at *
    go_enter Try.func70, Try.ntmps70
    go_wp2
    go_ret
    exact ⟨ret_int HP.out, rfl⟩

theorem sumTo_yes (l : List Int) (j k : Nat) (hj : j = 2 * k) (h : 65535 < sumToS l k + pairLS l j) : sumToS l (k + 1) = sumToS l k + pairLS l j - 65535 := by subst hj; simp [sumToS, stepL, h]
theorem sumTo_no (l : List Int) (j k : Nat) (hj : j = 2 * k) (h : ¬ 65535 < sumToS l k + pairLS l j) : sumToS l (k + 1) = sumToS l k + pairLS l j := by subst hj; simp [sumToS, stepL, h]
theorem pairL_end (l : List Int) (j : Nat) (h : ¬ j + 1 < l.length) : pairLS l j = l.getD j 0 * 256 := by
  have : l.getD (j + 1) 0 = 0 := by simp [List.getElem?_eq_none (Nat.le_of_not_lt h)]
  unfold pairLS; rw [this]; omega
theorem sumTo_end (l : List Int) (j k : Nat) (hj : j = 2 * k) (h1 : j ≤ l.length + 1) (h2 : ¬ j < l.length) : 65535 - sumToS l k = checkL l := by
  have : k = (l.length + 1) / 2 := by omega
  rw [checkL, this]

set_option maxHeartbeats 2000000 in
theorem l1sum_any (o : Option Addr) (cap : Nat) (l : List Int) (w : World) (hR : Rd w o l) (hB8 : isB l) (hlen : l.length ≤ 1048576) :
    Calls Try.prog 91 #[.slice o l.length cap] w fun e w' => e = .returned (.int .i64 (checkL l)) ∧ w = w' := by
  go_enter Try.func91, Try.ntmps91
  go_wp2
  go_loop [3, 4, 5] (fun n i _ => ∃ j k : Nat, Hid (j = 2 * k) ∧ j ≤ l.length + 1 ∧ i = .int .i64 j ∧ n = .int .i64 (sumToS l k))
    (fun _ i _ => l.length + 1 - (intOf i).toNat)
  case atStart => exact ⟨0, 0, rfl, by omega, rfl, rfl⟩
  case round =>
    obtain ⟨j, k, hjk, hj, rfl, rfl⟩ := hrel
    have hs := sumTo_bd hB8 k
    by_cases hlt : j < l.length
    · rcases hR with hR | ⟨b, off, rfl, hbl, hcell⟩
      · subst hR; simp at hlt
      have hc0 := hcell j hlt
      have b0 := hB8.get j
      have hp := pairL_bd hB8 j
      have HY := hide (sumTo_yes l j k hjk.out)
      have HN := hide (sumTo_no l j k hjk.out)
      by_cases h1 : j + 1 < l.length
      · have hc1 := hcell (j + 1) h1
        have b1 := hB8.get (j + 1)
        have hc1' := hc1
        rw [show off + (j + 1) = off + j + 1 by omega] at hc1'
        have HP := hide (show l.getD j 0 * 256 + l.getD (j + 1) 0 = pairLS l j from rfl)
        clear hcell
        generalize l.getD j 0 = x at *
        generalize l.getD (j + 1) 0 = y at *
        by_cases h2 : 65535 < sumToS l k + pairLS l j
        · have h2' : 65535 < sumToS l k + (x * 256 + y) := by rw [HP.out]; exact h2
          have E := hide (show sumToS l k + (x * 256 + y) - 65535 = sumToS l (k + 1) by rw [HY.out h2, HP.out])
          clear h2 HY HN hp
          go_wp2
          go_round
          case rel => exact ⟨j + 2, k + 1, (by have := hjk.out; show j + 2 = 2 * (k + 1); omega), by omega, by go_num, by rw [← E.out]⟩
          case measure => simp [intOf]; omega
        · have h2' : ¬ 65535 < sumToS l k + (x * 256 + y) := by rw [HP.out]; exact h2
          have E := hide (show sumToS l k + (x * 256 + y) = sumToS l (k + 1) by rw [HN.out h2, HP.out])
          clear h2 HY HN hp
          go_wp2
          go_round
          case rel => exact ⟨j + 2, k + 1, (by have := hjk.out; show j + 2 = 2 * (k + 1); omega), by omega, by go_num, by rw [← E.out]⟩
          case measure => simp [intOf]; omega
      · have HP := hide (pairL_end l j h1).symm
        clear hcell
        generalize l.getD j 0 = x at *
        by_cases h2 : 65535 < sumToS l k + pairLS l j
        · have h2' : 65535 < sumToS l k + x * 256 := by rw [HP.out]; exact h2
          have E := hide (show sumToS l k + x * 256 - 65535 = sumToS l (k + 1) by rw [HY.out h2, HP.out])
          clear h2 HY HN hp
          go_wp2
          go_round
          case rel => exact ⟨j + 2, k + 1, (by have := hjk.out; show j + 2 = 2 * (k + 1); omega), by omega, by go_num, by rw [← E.out]⟩
          case measure => simp [intOf]; omega
        · have h2' : ¬ 65535 < sumToS l k + x * 256 := by rw [HP.out]; exact h2
          have E := hide (show sumToS l k + x * 256 = sumToS l (k + 1) by rw [HN.out h2, HP.out])
          clear h2 HY HN hp
          go_wp2
          go_round
          case rel => exact ⟨j + 2, k + 1, (by have := hjk.out; show j + 2 = 2 * (k + 1); omega), by omega, by go_num, by rw [← E.out]⟩
          case measure => simp [intOf]; omega
    · have E := hide (sumTo_end l j k hjk.out hj hlt)
      go_wp2
      go_ret
      exact ⟨ret_int E.out, rfl⟩

set_option maxHeartbeats 2000000 in
theorem implCheckSum_any (o : Option Addr) (cap : Nat) (l : List Int) (w : World) (hR : Rd w o l) (hB8 : isB l) (hlen : l.length ≤ 1048576) :
    Calls Try.prog 38 #[.slice o l.length cap] w fun e w' => e = .returned (.int .i64 (sumL l)) ∧ w = w' := by
  by_cases h : 2000 < l.length
  · rw [sumL, if_pos h]
    go_enter Try.func38, Try.ntmps38
    go_wp2
    go_ret
    exact ⟨rfl, rfl⟩
  · rw [sumL, if_neg h]
    go_enter Try.func38, Try.ntmps38
    go_wp2
    go_loop [3, 4] (fun n i => ∃ j k : Nat, Hid (j = 2 * k) ∧ j ≤ l.length + 1 ∧ i = .int .i64 j ∧ n = .int .i64 (sumToS l k))
      (fun _ i => l.length + 1 - (intOf i).toNat)
    case atStart => exact ⟨0, 0, rfl, by omega, rfl, rfl⟩
    case round =>
      obtain ⟨j, k, hjk, hj, rfl, rfl⟩ := hrel
      have hs := sumTo_bd hB8 k
      by_cases hlt : j < l.length
      · have hp := pairL_bd hB8 j
        by_cases h2 : 65535 < sumToS l k + pairLS l j
        · have E := hide (sumTo_yes l j k hjk.out h2).symm
          go_wp2_with (go_at_call 70; refine (pairAt_any o cap l j _ hR hB8 hlen hlt).mono ?_; rintro e w1 ⟨rfl, rfl⟩)
          go_round
          case rel => exact ⟨j + 2, k + 1, (by have := hjk.out; show j + 2 = 2 * (k + 1); omega), by omega, by go_num, by rw [← E.out]⟩
          case measure => simp [intOf]; omega
        · have E := hide (sumTo_no l j k hjk.out h2).symm
          go_wp2_with (go_at_call 70; refine (pairAt_any o cap l j _ hR hB8 hlen hlt).mono ?_; rintro e w1 ⟨rfl, rfl⟩)
          go_round
          case rel => exact ⟨j + 2, k + 1, (by have := hjk.out; show j + 2 = 2 * (k + 1); omega), by omega, by go_num, by rw [← E.out]⟩
          case measure => simp [intOf]; omega
      · have E := hide (sumTo_end l j k hjk.out hj hlt)
        go_wp2
        go_ret
        exact ⟨ret_int E.out, rfl⟩

end Go.Proofs.Ytoeoiljddcjphaa
