/- The laws' sameInts; how many buckets have another pair. -/
import Derived.Test.YtgnfcnajepbhpaaSMoved
namespace Go.Proofs.Ytgnfcnajepbhpaa
open Go.ChangeShapes Go.WideShapes Go.ChangeAt Go.RowKit Go.Joins
set_option linter.unusedVariables false
set_option linter.unusedSimpArgs false

set_option maxHeartbeats 1000000 in
theorem sameInts_any (o1 o2 : Option Addr) (c1 c2 : Nat) (l : List Int) (w : World) (h1 : RdI w.heap.size w o1 l) (h2 : RdI w.heap.size w o2 l) (hl : l.length ≤ 1048576) :
    Calls Try.prog 26 #[.slice o1 l.length c1, .slice o2 l.length c2] w fun e w' => e = .returned (.bool true) ∧ Below w.heap.size w w' := by
  go_enter Try.func26, Try.ntmps26
  go_wp2
  go_loopw [5] (fun i wr => ∃ k : Nat, k ≤ l.length ∧ i = .int .i64 k ∧ Below w.heap.size w wr)
    (fun i _ => l.length - (intOf i).toNat)
  case atStart => exact ⟨0, Nat.zero_le _, rfl, Below.refl _ _⟩
  case round =>
    obtain ⟨k, hk, rfl, hBr⟩ := hrel
    by_cases hlt : k < l.length
    · rcases h1 with h1 | ⟨b1, off1, rfl, hb1, hcell1⟩
      · subst h1; simp at hlt
      rcases h2 with h2 | ⟨b2, off2, rfl, hb2, hcell2⟩
      · subst h2; simp at hlt
      have hc1 : wr.cell? ⟨b1, off1 + k, none⟩ = some (.int .i64 (l.getD k 0)) := (hBr.cell (p := ⟨b1, off1 + k, none⟩) hb1).trans (RdL.int hcell1 k hlt)
      have hc2 : wr.cell? ⟨b2, off2 + k, none⟩ = some (.int .i64 (l.getD k 0)) := (hBr.cell (p := ⟨b2, off2 + k, none⟩) hb2).trans (RdL.int hcell2 k hlt)
      have HB := hide hBr
      clear hcell1 hcell2 hBr
      have i1 : (k : Int) < (l.length : Int) := by omega
      generalize l.getD k 0 = x at *
      go_wp2
      go_quiet (fail)
      go_wp2
      go_roundw
      case rel => exact ⟨k + 1, by omega, by go_num, below_drewN HB.out _⟩
      case measure => simp [intOf]; omega
    · have e : k = l.length := by omega
      subst e
      go_wp2
      go_ret
      exact ⟨rfl, hBr⟩

/-- How many of the first k buckets someone was in. -/
def wasTo (t : List (List Int)) (i : Int) : Nat → Int
  | 0 => 0
  | k + 1 => wasTo t i k + (if i ∈ t.getD k [] then 1 else 0)
theorem wasTo_bd (t : List (List Int)) (i : Int) : ∀ k, 0 ≤ wasTo t i k ∧ wasTo t i k ≤ k
  | 0 => ⟨Int.le_refl _, Int.le_refl _⟩
  | k + 1 => by have := wasTo_bd t i k; unfold wasTo; split <;> omega
theorem moved_was {t u : List (List Int)} {i : Int} (n : Nat) (h : ∀ k, k < n → i ∉ t.getD k [] → t.getD k [] = u.getD k []) : ∀ k, k ≤ n → movedTo t u k ≤ wasTo t i k
  | 0, _ => Int.le_refl _
  | k + 1, hk => by
    have ih := moved_was n h k (by omega)
    unfold movedTo wasTo
    by_cases hm : i ∈ t.getD k []
    · rw [if_pos hm]; split <;> omega
    · rw [if_neg hm, if_pos (h k (by omega) hm)]; omega
theorem moved_self (t : List (List Int)) : ∀ k, movedTo t t k = 0
  | 0 => rfl
  | k + 1 => by unfold movedTo; rw [if_pos rfl, moved_self t k]; rfl

end Go.Proofs.Ytgnfcnajepbhpaa
