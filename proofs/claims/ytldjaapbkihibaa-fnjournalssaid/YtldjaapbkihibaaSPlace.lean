/- Copies of rows; the model's search for somebody. -/
import Derived.Test.YtldjaapbkihibaaPlaceMath
import Derived.Test.YtldjaapbkihibaaAppL
import Derived.Test.YtldjaapbkihibaaLCmds
import Derived.Test.YtldjaapbkihibaaSContest
namespace Go.Proofs.Ytldjaapbkihibaa
open Go.ChangeShapes Go.WideShapes Go.ChangeAt Go.RowKit Go.Joins
set_option linter.unusedVariables false
set_option linter.unusedSimpArgs false

theorem appK0 : AppOk layK 23 39 := ⟨Try.underlying23, ⟨_, _, infoBack, rfl, by decide⟩, by decide, fun a u hu => by
  simp [layK] at hu; rcases hu with rfl | rfl | rfl <;> rfl⟩
theorem appC0 : AppOk layC 45 28 := ⟨Try.underlying45, ⟨_, _, infoCmd, rfl, by decide⟩, by decide, fun a u hu => by
  simp [layC] at hu; rcases hu with rfl | rfl | rfl <;> rfl⟩
set_option maxHeartbeats 400000 in
theorem cloneBacks_any (o : Option Addr) (cap : Nat) (l : List Bk) (w : World) (hR : RdK w.heap.size w o l) (hn : o = none → cap = 0) (hl : l.length ≤ 1048576) :
    Calls Try.prog 109 #[.slice o l.length cap] w fun e w' => ∃ v, e = .returned v ∧ ownK w' w.heap.size v l ∧ Below w.heap.size w w' := by
  go_enter Try.func109, Try.ntmps109
  go_wp2_with (at_builtin; refine wpList_append_lay appK0 rfl _ _ rfl w.heap.size (.slice none 0 0) [] rfl (World.ownsRow_nil _ _ _ _) o cap w.heap.size l l.length rfl rfl hn hR ?c1 (Nat.le_refl _) ?_)
  case c1 => simp; omega
  intro v w1 hv hg _
  have HR := hide (show ownK w1 w.heap.size v l ∧ Below w.heap.size w w1 from ⟨hv, (Below.refl _ _).grown hg (Nat.le_refl _) (fun k h => by cases h)⟩)
  clear hv hg
  go_wp2
  go_ret
  exact ⟨_, rfl, HR.out.1, HR.out.2⟩
set_option maxHeartbeats 400000 in
theorem cloneCmds_any (o : Option Addr) (cap : Nat) (l : List Cd) (w : World) (hR : RdC w.heap.size w o l) (hn : o = none → cap = 0) (hl : l.length ≤ 1048576) :
    Calls Try.prog 82 #[.slice o l.length cap] w fun e w' => ∃ v, e = .returned v ∧ ownC w' w.heap.size v l ∧ Below w.heap.size w w' := by
  go_enter Try.func82, Try.ntmps82
  go_wp2_with (at_builtin; refine wpList_append_lay appC0 rfl _ _ rfl w.heap.size (.slice none 0 0) [] rfl (World.ownsRow_nil _ _ _ _) o cap w.heap.size l l.length rfl rfl hn hR ?c1 (Nat.le_refl _) ?_)
  case c1 => simp; omega
  intro v w1 hv hg _
  have HR := hide (show ownC w1 w.heap.size v l ∧ Below w.heap.size w w1 from ⟨hv, (Below.refl _ _).grown hg (Nat.le_refl _) (fun k h => by cases h)⟩)
  clear hv hg
  go_wp2
  go_ret
  exact ⟨_, rfl, HR.out.1, HR.out.2⟩

/-- In a list of those who serve whoever is found is found at its place. -/
theorem there_at {l : List Bk} (h : backsOkB l = true) {id : Int} {k : Nat} (hk : k < l.length) (e : (l.getD k (0, 0, false)).1 = id) : placeN l id = k ∧ thereB l id = true := by
  have hp : placeN l id = k := placeN_eq (Nat.le_of_lt hk) (fun j hj => by rw [← e]; exact backs_lt h k hk j hj) (.inr (by rw [e]; exact Int.lt_irrefl _))
  exact ⟨hp, by unfold thereB; rw [hp, e]; simp [hk]⟩
theorem there_no {l : List Bk} {id : Int} (h : ∀ k, k < l.length → (l.getD k (0, 0, false)).1 ≠ id) : thereB l id = false := by
  unfold thereB
  by_cases hp : placeN l id < l.length
  · have := h _ hp
    rw [show ((l.getD (placeN l id) (0, 0, false)).1 == id) = false from beq_eq_false_iff_ne.2 this, Bool.and_false]
  · simp [hp]
def findI (l : List Bk) (id : Int) : Int := if thereB l id then (placeN l id : Int) else -1

set_option maxHeartbeats 1000000 in
theorem l4find_any (o : Option Addr) (cap : Nat) (l : List Bk) (id : Int) (w : World) (hR : RdK w.heap.size w o l) (hl : l.length ≤ 1048576) (hok : backsOkB l = true) :
    Calls Try.prog 117 #[.slice o l.length cap, .int .i64 id] w fun e w' => e = .returned (.int .i64 (findI l id)) ∧ w = w' := by
  go_enter Try.func117, Try.ntmps117
  go_wp2
  go_loop [5] (fun av => ∃ k : Nat, k ≤ l.length ∧ av = .int .i64 k ∧ Hid (∀ j, j < k → (l.getD j (0, 0, false)).1 ≠ id))
    (fun av => l.length - (intOf av).toNat)
  case atStart => exact ⟨0, Nat.zero_le _, rfl, fun j hj => absurd hj (Nat.not_lt_zero _)⟩
  case round =>
    obtain ⟨k, hk, rfl, HJ⟩ := hrel
    by_cases hlt : k < l.length
    · rcases hR with hR | ⟨b, off, rfl, hbl, hcell⟩
      · subst hR; simp at hlt
      obtain ⟨x, y, z, hxy⟩ : ∃ x y z, l.getD k (0, 0, false) = (x, y, z) := ⟨_, _, _, rfl⟩
      have hcx := (RdL.back (C := w.heap.size) hcell k hlt).1
      rw [hxy] at hcx
      dsimp only at hcx
      have z1 : (k : Int) < (l.length : Int) := by omega
      by_cases hx : x = id
      · have ht := there_at (id := id) hok hlt ((congrArg (fun q => q.1) hxy).trans hx)
        have HF := hide (show findI l id = (k : Int) by unfold findI; rw [ht.2, ht.1]; rfl)
        have hx' : (x == id) = true := by simpa using hx
        clear hxy hcell ht HJ hx
        go_wp2
        go_ret
        exact ⟨by rw [HF.out]; rfl, rfl⟩
      · have HJ2 : Hid (∀ j, j < k + 1 → (l.getD j (0, 0, false)).1 ≠ id) := fun j hj => by
          rcases Nat.lt_succ_iff_lt_or_eq.1 hj with h | h
          · exact HJ.out j h
          · rw [h, hxy]; exact hx
        have hx' : (x == id) = false := by simpa using hx
        clear hxy hcell hx
        go_wp2
        go_round
        case rel => exact ⟨k + 1, by omega, by go_num, HJ2⟩
        case measure => simp [intOf]; omega
    · have e : k = l.length := by omega
      have HF := hide (show findI l id = -1 by unfold findI; rw [there_no (e ▸ HJ.out)]; rfl)
      subst e
      clear HJ
      go_wp2
      go_ret
      exact ⟨by rw [HF.out]; rfl, rfl⟩

end Go.Proofs.Ytldjaapbkihibaa
