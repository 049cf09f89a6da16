/- A packet's bytes: they are read as it, and their sum is nought. -/
import Derived.Test.YtdoijnmgnocjaaaDoorSRead2
namespace Go.Proofs.YtdoijnmgnocjaaaDoor
open Go.ChangeShapes Go.WideShapes Go.ChangeAt Go.RowKit Go.Joins
set_option linter.unusedVariables false
set_option linter.unusedSimpArgs false

theorem packetL_eq (a b f s : Int) (l : List Int) : packetL a b f s l = [a / 256, a % 256, b / 256, b % 256, s / 256, s % 256, f, (l.length : Int), checkL (preL a b f s l) / 256, checkL (preL a b f s l) % 256] ++ l := by
  simp [packetL, preL, wordL]
theorem preL_eq (a b f s : Int) (l : List Int) : preL a b f s l = [a / 256, a % 256, b / 256, b % 256, s / 256, s % 256, f, (l.length : Int), 0, 0] ++ l := by
  simp [preL, wordL]
theorem packet_parts (a b f s : Int) (l : List Int) : pairLS (packetL a b f s l) 0 = a ∧ pairLS (packetL a b f s l) 2 = b ∧ pairLS (packetL a b f s l) 4 = s ∧ (packetL a b f s l).getD 6 0 = f ∧ (packetL a b f s l).drop 10 = l ∧ 10 ≤ (packetL a b f s l).length := by
  rw [packetL_eq]
  refine ⟨?_, ?_, ?_, ?_, ?_, ?_⟩
  · simp [pairLS]; omega
  · simp [pairLS]; omega
  · simp [pairLS]; omega
  · simp
  · simp
  · simp
theorem packet_back {a b f s : Int} {l : List Int} (h : packetOkB a b f s l.length = true) : okR (packetL a b f s l) = true := by
  obtain ⟨h0, h2, h4, h6, h10, hl⟩ := packet_parts a b f s l
  rw [okR_iff, h0, h2, h4, h6, h10]
  exact ⟨hl, h, rfl, trivial⟩

/-- The pairs' plain sum. -/
def totL (l : List Int) : Nat → Int
  | 0 => 0
  | k + 1 => totL l k + pairLS l (2 * k)
theorem sumTo_tot {l : List Int} (h : isB l) : ∀ k, ∃ q : Nat, totL l k = sumToS l k + 65535 * q
  | 0 => ⟨0, by simp [totL, sumToS]⟩
  | k + 1 => by
    obtain ⟨q, hq⟩ := sumTo_tot h k
    by_cases hc : 65535 < sumToS l k + pairLS l (2 * k)
    · refine ⟨q + 1, ?_⟩
      rw [totL, sumTo_yes l (2 * k) k rfl hc]; omega
    · refine ⟨q, ?_⟩
      rw [totL, sumTo_no l (2 * k) k rfl hc]; omega
theorem sumTo_zero {l : List Int} (h : isB l) : ∀ k, sumToS l k = 0 → totL l k = 0
  | 0 => fun _ => rfl
  | k + 1 => by
    intro h0
    have hb := sumTo_bd h k
    have hp := pairL_bd h (2 * k)
    by_cases hc : 65535 < sumToS l k + pairLS l (2 * k)
    · rw [sumTo_yes l (2 * k) k rfl hc] at h0; omega
    · rw [sumTo_no l (2 * k) k rfl hc] at h0
      have := sumTo_zero h k (by omega)
      rw [totL, this]; omega
theorem pair_pk (a b f s : Int) (l : List Int) (k : Nat) : pairLS (packetL a b f s l) (2 * k) = pairLS (preL a b f s l) (2 * k) + (if k = 4 then checkL (preL a b f s l) else 0) := by
  rw [packetL_eq]
  generalize hc : checkL (preL a b f s l) = c
  rw [preL_eq]
  by_cases hk : k < 5
  · rcases (show k = 0 ∨ k = 1 ∨ k = 2 ∨ k = 3 ∨ k = 4 by omega) with h | h | h | h | h <;> subst h <;> simp [pairLS] <;> omega
  · rw [if_neg (by omega)]
    have e : ∀ j, 10 ≤ j → ∀ (p : List Int), p.length = 10 → (p ++ l).getD j 0 = l.getD (j - 10) 0 := fun j hj p hp => by
      simp [List.getD_eq_getElem?_getD, List.getElem?_append_right (show p.length ≤ j by omega), hp]
    unfold pairLS
    rw [e _ (by omega) _ rfl, e _ (by omega) _ rfl, e _ (by omega) _ rfl, e _ (by omega) _ rfl]; omega
theorem tot_pk (a b f s : Int) (l : List Int) : ∀ k, totL (packetL a b f s l) k = totL (preL a b f s l) k + (if 4 < k then checkL (preL a b f s l) else 0)
  | 0 => by simp [totL]
  | k + 1 => by
    rw [totL, totL, tot_pk a b f s l k, pair_pk]
    by_cases h4 : k = 4
    · subst h4; simp; omega
    · rw [if_neg h4]
      by_cases h5 : 4 < k
      · rw [if_pos h5, if_pos (by omega)]; omega
      · rw [if_neg h5, if_neg (by omega)]; omega
theorem packetL_length (a b f s : Int) (l : List Int) : (packetL a b f s l).length = 10 + l.length := by rw [packetL_eq]; simp; omega
theorem packet_sum {a b f s : Int} {l : List Int} (h : isB l) (hl : l.length ≤ 16) (ha : 0 ≤ a ∧ a < 65536) (hb : 0 ≤ b ∧ b < 65536) (hf : 0 ≤ f ∧ f < 16) (hs : 0 ≤ s ∧ s < 65536) : sumL (packetL a b f s l) = 0 := by
  have hpk := packetL_isB h hl ha hb hf hs
  have hpr := preL_isB h hl ha hb hf hs
  have hn : (packetL a b f s l).length = 10 + l.length := packetL_length a b f s l
  have hn' : (preL a b f s l).length = 10 + l.length := preL_length a b f s l
  obtain ⟨N, hN⟩ : ∃ N, (10 + l.length + 1) / 2 = N := ⟨_, rfl⟩
  have h4 : 4 < N := by omega
  obtain ⟨q, hq⟩ := sumTo_tot hpr N
  obtain ⟨q', hq'⟩ := sumTo_tot hpk N
  have ht := tot_pk a b f s l N
  rw [if_pos h4] at ht
  have hc : checkL (preL a b f s l) = 65535 - sumToS (preL a b f s l) N := by unfold checkL; rw [hn', hN]
  have hbd := sumTo_bd hpk N
  have hbd' := sumTo_bd hpr N
  have hz := sumTo_zero hpk N
  unfold sumL
  rw [if_neg (by omega)]
  unfold checkL
  rw [hn, hN]
  rw [hc] at ht
  have hne : sumToS (packetL a b f s l) N ≠ 0 := fun e => by have := hz e; omega
  omega

end Go.Proofs.YtdoijnmgnocjaaaDoor
