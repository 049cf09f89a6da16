/- Contracts of PoolCmdOk, on both sides. -/
import Derived.Test.YtdoijnmgnocjaaaSBacks2
namespace Go.Proofs.Ytdoijnmgnocjaaa
open Go.ChangeShapes Go.WideShapes Go.ChangeAt Go.RowKit Go.Joins
set_option linter.unusedVariables false
set_option linter.unusedSimpArgs false

/-- A command that may be: Kind is one of four, Id one of six, Weight as the Kind wants it. -/
def CmdOk (k i g : Int) : Prop := 0 ≤ k ∧ k ≤ 3 ∧ 0 ≤ i ∧ i < 6 ∧ ((k ≤ 1 ∧ 1 ≤ g ∧ g ≤ 100) ∨ (2 ≤ k ∧ g = 0))
def cmdOkB (k i g : Int) : Bool := decide (0 ≤ k) && decide (k ≤ 3) && decide (0 ≤ i) && decide (i < 6) && ((decide (k ≤ 1) && decide (1 ≤ g) && decide (g ≤ 100)) || (decide (2 ≤ k) && decide (g = 0)))
theorem cmdOkB_iff {k i g : Int} : cmdOkB k i g = true ↔ CmdOk k i g := by simp [cmdOkB, CmdOk, and_assoc]
abbrev cmd (k i g : Int) : Value := .agg #[.int .i64 k, .int .i64 i, .int .i64 g]

theorem cmdOkB_yes {k i g : Int} {t : Bool} (h : t = true ↔ CmdOk k i g) : t = cmdOkB k i g := by
  rw [Bool.eq_iff_iff, h, cmdOkB_iff]

set_option maxHeartbeats 1000000 in
theorem specPoolCmdOk_any (k i g : Int) (w : World) :
    Calls Try.prog 56 #[cmd k i g] w fun e w' => e = .returned (.bool (cmdOkB k i g)) ∧ Below w.heap.size w w' := by
  have hB : Below w.heap.size w w := Below.refl _ _
  go_enter Try.func56, Try.ntmps56
  go_wp2
  all_goals go_ret
  all_goals refine ⟨ret_bool (cmdOkB_yes ?_), by (repeat (first | with_reducible exact hB | with_reducible exact Below.refl _ _ | with_reducible refine Below.drew ?_ | with_reducible refine below_drewN ?_ _ | with_reducible refine Below.alloc ?_ ?_ _ | with_reducible refine Below.setCell ?_ ?_ _ | (focus (simp; done)) | (focus (simp; omega)) | omega))⟩
  all_goals (simp [CmdOk]; omega)

set_option maxHeartbeats 1000000 in
theorem implPoolCmdOk_any (k i g : Int) (w : World) :
    Calls Try.prog 60 #[cmd k i g] w fun e w' => e = .returned (.bool (cmdOkB k i g)) ∧ Below w.heap.size w w' := by
  have hB : Below w.heap.size w w := Below.refl _ _
  have hb := fun w => isBack_any i w
  have hg := fun w => isWeight_any g w
  generalize hI : (decide (0 ≤ i) && decide (i < 6)) = I at hb
  generalize hG : (decide (1 ≤ g) && decide (g ≤ 100)) = G at hg
  have HI := hide (show I = true ↔ 0 ≤ i ∧ i < 6 by rw [← hI]; simp)
  have HG := hide (show G = true ↔ 1 ≤ g ∧ g ≤ 100 by rw [← hG]; simp)
  clear hI hG
  cases I <;> cases G
  all_goals (
    go_enter Try.func60, Try.ntmps60
    go_wp2_with (first | (go_at_call 43; refine (hb _).mono ?_; rintro e w1 ⟨rfl, rfl⟩) | (go_at_call 92; refine (hg _).mono ?_; rintro e w1 ⟨rfl, rfl⟩))
    all_goals go_ret
    all_goals refine ⟨ret_bool (cmdOkB_yes ?_), by (repeat (first | with_reducible exact hB | with_reducible exact Below.refl _ _ | with_reducible refine Below.drew ?_ | with_reducible refine below_drewN ?_ _ | with_reducible refine Below.alloc ?_ ?_ _ | with_reducible refine Below.setCell ?_ ?_ _ | (focus (simp; done)) | (focus (simp; omega)) | omega))⟩
    all_goals (have h1 := HI.out; have h2 := HG.out; (try simp only [beq_iff_eq, beq_eq_false_iff_ne, ne_eq] at *); simp at h1 h2; simp [CmdOk]; try omega))

end Go.Proofs.Ytdoijnmgnocjaaa
