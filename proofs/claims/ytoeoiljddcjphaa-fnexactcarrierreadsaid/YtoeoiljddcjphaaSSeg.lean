/- Contracts of SegOk, on both sides. -/
import Derived.Test.YtoeoiljddcjphaaBase
namespace Go.Proofs.Ytoeoiljddcjphaa
open Go.ChangeShapes Go.WideShapes Go.ChangeAt Go.RowKit Go.Joins
set_option linter.unusedVariables false
set_option linter.unusedSimpArgs false

/-- Back is one of six, Fn one of two. -/
def segOkB (b f : Int) : Bool := decide (0 ≤ b) && decide (b < 6) && decide (0 ≤ f) && decide (f ≤ 1)
theorem segOkB_iff {b f : Int} : segOkB b f = true ↔ 0 ≤ b ∧ b < 6 ∧ 0 ≤ f ∧ f ≤ 1 := by simp [segOkB, and_assoc]
theorem segOkB_parts {b f : Int} : segOkB b f = true ↔ (0 ≤ b ∧ b < 6 ∧ 0 ≤ f ∧ f ≤ 1 ∧ True) := by simp [segOkB, and_assoc]
abbrev seg (b f : Int) : Value := .agg #[.int .i64 b, .int .i64 f]

set_option maxHeartbeats 400000 in
theorem specSegOk_any (b f : Int) (w : World) :
    Calls Try.prog 31 #[seg b f] w fun e w' => e = .returned (.bool (segOkB b f)) ∧ Below w.heap.size w w' := by
  have hB : Below w.heap.size w w := Below.refl _ _
  go_enter Try.func31, Try.ntmps31
  go_wp2
  all_goals go_ret
  all_goals refine ⟨?_, by (repeat (first | with_reducible exact hB | with_reducible exact Below.refl _ _ | with_reducible refine Below.drew ?_ | with_reducible refine below_drewN ?_ _ | with_reducible refine Below.alloc ?_ ?_ _ | with_reducible refine Below.setCell ?_ ?_ _ | (focus (simp; done)) | (focus (simp; omega)) | omega))⟩
  all_goals first | (simp [segOkB, *]; done) | (simp [segOkB]; omega)

set_option maxHeartbeats 400000 in
theorem implSegOk_any (b f : Int) (w : World) :
    Calls Try.prog 13 #[seg b f] w fun e w' => e = .returned (.bool (segOkB b f)) ∧ Below w.heap.size w w' := by
  have hB : Below w.heap.size w w := Below.refl _ _
  by_cases h1 : 0 ≤ b
  · by_cases h2 : b < 6
    · by_cases h3 : 0 ≤ f
      · by_cases h4 : f ≤ 1
        · by_cases h7 : f = 0
          · subst h7
            have HY := hide (show true = segOkB b 0 by simp [segOkB, h1, h2])
            go_enter Try.func13, Try.ntmps13
            go_wp2
            go_ret
            exact ⟨ret_bool HY.out, by (repeat (first | with_reducible exact hB | with_reducible exact Below.refl _ _ | with_reducible refine Below.drew ?_ | with_reducible refine below_drewN ?_ _ | with_reducible refine Below.alloc ?_ ?_ _ | with_reducible refine Below.setCell ?_ ?_ _ | (focus (simp; done)) | (focus (simp; omega)) | omega))⟩
          · have h8 : f = 1 := by omega
            subst h8
            have HY := hide (show true = segOkB b 1 by simp [segOkB, h1, h2])
            go_enter Try.func13, Try.ntmps13
            go_wp2
            go_ret
            exact ⟨ret_bool HY.out, by (repeat (first | with_reducible exact hB | with_reducible exact Below.refl _ _ | with_reducible refine Below.drew ?_ | with_reducible refine below_drewN ?_ _ | with_reducible refine Below.alloc ?_ ?_ _ | with_reducible refine Below.setCell ?_ ?_ _ | (focus (simp; done)) | (focus (simp; omega)) | omega))⟩
        · have HN := hide (bool_no (segOkB_parts (b := b) (f := f)) (fun q => h4 q.2.2.2.1))
          go_enter Try.func13, Try.ntmps13
          go_wp2
          all_goals go_ret
          all_goals refine ⟨ret_bool ?_, by (repeat (first | with_reducible exact hB | with_reducible exact Below.refl _ _ | with_reducible refine Below.drew ?_ | with_reducible refine below_drewN ?_ _ | with_reducible refine Below.alloc ?_ ?_ _ | with_reducible refine Below.setCell ?_ ?_ _ | (focus (simp; done)) | (focus (simp; omega)) | omega))⟩
          all_goals first | exact HN.out | (rw [← HN.out]; simp; omega)
      · have HN := hide (bool_no (segOkB_parts (b := b) (f := f)) (fun q => h3 q.2.2.1))
        go_enter Try.func13, Try.ntmps13
        go_wp2
        all_goals go_ret
        all_goals refine ⟨ret_bool ?_, by (repeat (first | with_reducible exact hB | with_reducible exact Below.refl _ _ | with_reducible refine Below.drew ?_ | with_reducible refine below_drewN ?_ _ | with_reducible refine Below.alloc ?_ ?_ _ | with_reducible refine Below.setCell ?_ ?_ _ | (focus (simp; done)) | (focus (simp; omega)) | omega))⟩
        all_goals first | exact HN.out | (rw [← HN.out]; simp; omega)
    · have HN := hide (bool_no (segOkB_parts (b := b) (f := f)) (fun q => h2 q.2.1))
      go_enter Try.func13, Try.ntmps13
      go_wp2
      all_goals go_ret
      all_goals refine ⟨ret_bool ?_, by (repeat (first | with_reducible exact hB | with_reducible exact Below.refl _ _ | with_reducible refine Below.drew ?_ | with_reducible refine below_drewN ?_ _ | with_reducible refine Below.alloc ?_ ?_ _ | with_reducible refine Below.setCell ?_ ?_ _ | (focus (simp; done)) | (focus (simp; omega)) | omega))⟩
      all_goals first | exact HN.out | (rw [← HN.out]; simp; omega)
  · have HN := hide (bool_no (segOkB_parts (b := b) (f := f)) (fun q => h1 q.1))
    go_enter Try.func13, Try.ntmps13
    go_wp2
    all_goals go_ret
    all_goals refine ⟨ret_bool ?_, by (repeat (first | with_reducible exact hB | with_reducible exact Below.refl _ _ | with_reducible refine Below.drew ?_ | with_reducible refine below_drewN ?_ _ | with_reducible refine Below.alloc ?_ ?_ _ | with_reducible refine Below.setCell ?_ ?_ _ | (focus (simp; done)) | (focus (simp; omega)) | omega))⟩
    all_goals first | exact HN.out | (rw [← HN.out]; simp; omega)

end Go.Proofs.Ytoeoiljddcjphaa
