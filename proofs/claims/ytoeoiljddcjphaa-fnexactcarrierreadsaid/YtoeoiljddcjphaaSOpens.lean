/- Contracts of Opens, on both sides. -/
import Derived.Test.YtoeoiljddcjphaaSPacket
namespace Go.Proofs.Ytoeoiljddcjphaa
open Go.ChangeShapes Go.WideShapes Go.ChangeAt Go.RowKit Go.Joins
set_option linter.unusedVariables false
set_option linter.unusedSimpArgs false

def opensB (a b f s : Int) (n : Nat) : Bool := packetOkB a b f s n && (bits .and .i64 f 3 == 1)
theorem opens_bits (f : Int) (h0 : 0 ≤ f) (h1 : f < 16) : ((bits .and .i64 f 1 != 0) && !(bits .and .i64 f 2 != 0)) = (bits .and .i64 f 3 == 1) := by
  have h : f = 0 ∨ f = 1 ∨ f = 2 ∨ f = 3 ∨ f = 4 ∨ f = 5 ∨ f = 6 ∨ f = 7 ∨ f = 8 ∨ f = 9 ∨ f = 10 ∨ f = 11 ∨ f = 12 ∨ f = 13 ∨ f = 14 ∨ f = 15 := by omega
  rcases h with h | h | h | h | h | h | h | h | h | h | h | h | h | h | h | h <;> subst h <;> decide +kernel
theorem opensB_no {a b f s : Int} {n : Nat} (h : ¬ packetOkB a b f s n = true) : false = opensB a b f s n := by simp [opensB, h]
theorem opensB_yes {a b f s : Int} {n : Nat} (h : packetOkB a b f s n = true) : (bits .and .i64 f 3 == 1) = opensB a b f s n := by simp [opensB, h]
theorem opensB_no1 {a b f s : Int} {n : Nat} (h : packetOkB a b f s n = true) (h1 : ¬ (bits .and .i64 f 1 != 0) = true) : false = opensB a b f s n := by
  have q := packetOkB_iff.1 h
  rw [← opensB_yes h, ← opens_bits f q.2.1 q.2.2.1]
  simp [Bool.eq_false_iff.2 h1]
theorem opensB_yes1 {a b f s : Int} {n : Nat} (h : packetOkB a b f s n = true) (h1 : (bits .and .i64 f 1 != 0) = true) : (!(bits .and .i64 f 2 != 0)) = opensB a b f s n := by
  have q := packetOkB_iff.1 h
  rw [← opensB_yes h, ← opens_bits f q.2.1 q.2.2.1, h1, Bool.true_and]

set_option maxHeartbeats 400000 in
theorem implOpens_any (a b f s : Int) (o : Option Addr) (len cap : Nat) (w : World) (hl : len ≤ maxLen) :
    Calls Try.prog 89 #[pkt a b f s (.slice o len cap)] w fun e w' => e = .returned (.bool (opensB a b f s len)) ∧ Below w.heap.size w w' := by
  have hB : Below w.heap.size w w := Below.refl _ _
  by_cases h : packetOkB a b f s len = true
  · by_cases h1 : (bits .and .i64 f 1 != 0) = true
    · have HY := hide (opensB_yes1 h h1)
      go_enter Try.func89, Try.ntmps89
      go_wp2_with (first | (go_at_call 62; refine (implPacketOk_any a b f s o len cap _ hl).mono ?_; rintro e w1 ⟨rfl, hb⟩; obtain ⟨hc, hf⟩ := bcell hb; have hz0 : w.heap.size < w1.heap.size := (by have hz := hb.size; (try simp at hz); omega); have hB : Below w.heap.size w w1 := (by refine Below.trans ?_ (hb.mono (by have hs := hB.size; (try simp) <;> omega)); (repeat (first | with_reducible exact hB | with_reducible exact Below.refl _ _ | with_reducible refine Below.drew ?_ | with_reducible refine below_drewN ?_ _ | with_reducible refine Below.alloc ?_ ?_ _ | with_reducible refine Below.setCell ?_ ?_ _ | (focus (simp; done)) | (focus (simp; omega)) | omega)))) | go_in)
      go_ret
      exact ⟨ret_bool HY.out, by (repeat (first | with_reducible exact hB | with_reducible exact Below.refl _ _ | with_reducible refine Below.drew ?_ | with_reducible refine below_drewN ?_ _ | with_reducible refine Below.alloc ?_ ?_ _ | with_reducible refine Below.setCell ?_ ?_ _ | (focus (simp; done)) | (focus (simp; omega)) | omega))⟩
    · have HN := hide (opensB_no1 h h1)
      have h1' := Bool.eq_false_iff.2 h1
      go_enter Try.func89, Try.ntmps89
      go_wp2_with (first | (go_at_call 62; refine (implPacketOk_any a b f s o len cap _ hl).mono ?_; rintro e w1 ⟨rfl, hb⟩; obtain ⟨hc, hf⟩ := bcell hb; have hz0 : w.heap.size < w1.heap.size := (by have hz := hb.size; (try simp at hz); omega); have hB : Below w.heap.size w w1 := (by refine Below.trans ?_ (hb.mono (by have hs := hB.size; (try simp) <;> omega)); (repeat (first | with_reducible exact hB | with_reducible exact Below.refl _ _ | with_reducible refine Below.drew ?_ | with_reducible refine below_drewN ?_ _ | with_reducible refine Below.alloc ?_ ?_ _ | with_reducible refine Below.setCell ?_ ?_ _ | (focus (simp; done)) | (focus (simp; omega)) | omega)))) | go_in)
      go_ret
      exact ⟨ret_bool HN.out, by (repeat (first | with_reducible exact hB | with_reducible exact Below.refl _ _ | with_reducible refine Below.drew ?_ | with_reducible refine below_drewN ?_ _ | with_reducible refine Below.alloc ?_ ?_ _ | with_reducible refine Below.setCell ?_ ?_ _ | (focus (simp; done)) | (focus (simp; omega)) | omega))⟩
  · have HN := hide (opensB_no h)
    go_enter Try.func89, Try.ntmps89
    go_wp2_with (first | (go_at_call 62; refine (implPacketOk_any a b f s o len cap _ hl).mono ?_; rintro e w1 ⟨rfl, hb⟩; obtain ⟨hc, hf⟩ := bcell hb; have hz0 : w.heap.size < w1.heap.size := (by have hz := hb.size; (try simp at hz); omega); have hB : Below w.heap.size w w1 := (by refine Below.trans ?_ (hb.mono (by have hs := hB.size; (try simp) <;> omega)); (repeat (first | with_reducible exact hB | with_reducible exact Below.refl _ _ | with_reducible refine Below.drew ?_ | with_reducible refine below_drewN ?_ _ | with_reducible refine Below.alloc ?_ ?_ _ | with_reducible refine Below.setCell ?_ ?_ _ | (focus (simp; done)) | (focus (simp; omega)) | omega)))) | go_in)
    go_ret
    exact ⟨ret_bool HN.out, by (repeat (first | with_reducible exact hB | with_reducible exact Below.refl _ _ | with_reducible refine Below.drew ?_ | with_reducible refine below_drewN ?_ _ | with_reducible refine Below.alloc ?_ ?_ _ | with_reducible refine Below.setCell ?_ ?_ _ | (focus (simp; done)) | (focus (simp; omega)) | omega))⟩

end Go.Proofs.Ytoeoiljddcjphaa
