/- The zero packet. -/
import Derived.Test.YtoeoiljddcjphaaSPacket
import Derived.RegionTactic
namespace Go.Proofs.Ytoeoiljddcjphaa
open Go.ChangeShapes Go.WideShapes Go.ChangeAt Go.RowKit Go.Joins
set_option linter.unusedVariables false
set_option linter.unusedSimpArgs false

/-- The zero packet. -/
def nonePB (a b f s : Int) (len : Nat) : Bool := decide (a = 0) && decide (b = 0) && decide (f = 0) && decide (s = 0) && decide (len = 0)

set_option maxRecDepth 100000 in
set_option maxHeartbeats 2000000 in
theorem isNoPacket_any (a b f s : Int) (o : Option Addr) (len cap : Nat) (w : World) :
    Calls Try.prog 85 #[pkt a b f s (.slice o len cap)] w fun e w' => e = .returned (.bool (nonePB a b f s len)) ∧ Below w.heap.size w w' := by
  have hB : Below w.heap.size w w := Below.refl _ _
  by_cases q0 : a = 0
  · subst q0
    by_cases q1 : b = 0
    · subst q1
      by_cases q2 : f = 0
      · subst q2
        by_cases q3 : s = 0
        · subst q3
          by_cases q4 : len = 0
          · subst q4
            go_enter Try.func85, Try.ntmps85
            go_wp2
            all_goals go_ret
            all_goals exact ⟨ret_bool (by simp [nonePB]), by (repeat (first | with_reducible exact hB | with_reducible exact Below.refl _ _ | with_reducible refine Below.drew ?_ | with_reducible refine below_drewN ?_ _ | with_reducible refine Below.alloc ?_ ?_ _ | with_reducible refine Below.setCell ?_ ?_ _ | (focus (simp; done)) | (focus (simp; omega)) | omega))⟩
          · skip
            go_enter Try.func85, Try.ntmps85
            go_wp2
            all_goals go_ret
            all_goals exact ⟨ret_bool (by have e2 : decide (len = 0) = false := decide_eq_false (by omega); unfold nonePB; rw [e2]; simp <;> omega), by (repeat (first | with_reducible exact hB | with_reducible exact Below.refl _ _ | with_reducible refine Below.drew ?_ | with_reducible refine below_drewN ?_ _ | with_reducible refine Below.alloc ?_ ?_ _ | with_reducible refine Below.setCell ?_ ?_ _ | (focus (simp; done)) | (focus (simp; omega)) | omega))⟩
        · skip
          go_enter Try.func85, Try.ntmps85
          go_wp2
          all_goals go_ret
          all_goals exact ⟨ret_bool (by have e2 : decide (s = 0) = false := decide_eq_false (by omega); unfold nonePB; rw [e2]; simp <;> omega), by (repeat (first | with_reducible exact hB | with_reducible exact Below.refl _ _ | with_reducible refine Below.drew ?_ | with_reducible refine below_drewN ?_ _ | with_reducible refine Below.alloc ?_ ?_ _ | with_reducible refine Below.setCell ?_ ?_ _ | (focus (simp; done)) | (focus (simp; omega)) | omega))⟩
      · skip
        go_enter Try.func85, Try.ntmps85
        go_wp2
        all_goals go_ret
        all_goals exact ⟨ret_bool (by have e2 : decide (f = 0) = false := decide_eq_false (by omega); unfold nonePB; rw [e2]; simp <;> omega), by (repeat (first | with_reducible exact hB | with_reducible exact Below.refl _ _ | with_reducible refine Below.drew ?_ | with_reducible refine below_drewN ?_ _ | with_reducible refine Below.alloc ?_ ?_ _ | with_reducible refine Below.setCell ?_ ?_ _ | (focus (simp; done)) | (focus (simp; omega)) | omega))⟩
    · skip
      go_enter Try.func85, Try.ntmps85
      go_wp2
      all_goals go_ret
      all_goals exact ⟨ret_bool (by have e2 : decide (b = 0) = false := decide_eq_false (by omega); unfold nonePB; rw [e2]; simp <;> omega), by (repeat (first | with_reducible exact hB | with_reducible exact Below.refl _ _ | with_reducible refine Below.drew ?_ | with_reducible refine below_drewN ?_ _ | with_reducible refine Below.alloc ?_ ?_ _ | with_reducible refine Below.setCell ?_ ?_ _ | (focus (simp; done)) | (focus (simp; omega)) | omega))⟩
  · skip
    go_enter Try.func85, Try.ntmps85
    go_wp2
    all_goals go_ret
    all_goals exact ⟨ret_bool (by have e2 : decide (a = 0) = false := decide_eq_false (by omega); unfold nonePB; rw [e2]; simp <;> omega), by (repeat (first | with_reducible exact hB | with_reducible exact Below.refl _ _ | with_reducible refine Below.drew ?_ | with_reducible refine below_drewN ?_ _ | with_reducible refine Below.alloc ?_ ?_ _ | with_reducible refine Below.setCell ?_ ?_ _ | (focus (simp; done)) | (focus (simp; omega)) | omega))⟩
end Go.Proofs.Ytoeoiljddcjphaa
