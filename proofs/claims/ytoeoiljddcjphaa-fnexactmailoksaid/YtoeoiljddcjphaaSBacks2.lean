/- The program's BacksOk. -/
import Derived.Test.YtoeoiljddcjphaaSBacks
import Derived.Test.YtoeoiljddcjphaaGrow
namespace Go.Proofs.Ytoeoiljddcjphaa
open Go.ChangeShapes Go.WideShapes Go.ChangeAt Go.RowKit Go.Joins
set_option linter.unusedVariables false
set_option linter.unusedSimpArgs false

theorem backB_lt (i g : Int) : backB i g = ((decide (0 ≤ i) && decide (i < 6)) && (decide (1 ≤ g) && decide (g ≤ 100))) := by simp [backB, Bool.and_assoc]
set_option maxHeartbeats 400000 in
theorem isBack_any (n : Int) (w : World) : Calls Try.prog 39 #[.int .i64 n] w fun e w' => e = .returned (.bool (decide (0 ≤ n) && decide (n < 6))) ∧ w = w' := by
  go_enter Try.func39, Try.ntmps39
  go_wp2
  all_goals go_ret
  all_goals refine ⟨?_, rfl⟩
  all_goals first | (simp [*]; done) | (simp; omega)
theorem box3 (w : World) (x y z : Value) (t : TypeId) : (w.alloc (.cells #[x, y, z] t)).cell? ⟨w.heap.size, 0, none⟩ = some x ∧ (w.alloc (.cells #[x, y, z] t)).cell? ⟨w.heap.size, 1, none⟩ = some y ∧ (w.alloc (.cells #[x, y, z] t)).cell? ⟨w.heap.size, 2, none⟩ = some z := by simp
theorem alloc_old (w : World) (o : Obj) {b off : Nat} {u : Value} (h : w.cell? ⟨b, off, none⟩ = some u) (hb : b < w.heap.size) : (w.alloc o).cell? ⟨b, off, none⟩ = some u :=
  ((Below.alloc (Below.refl _ _) (Nat.le_refl _) o).cell (p := ⟨b, off, none⟩) hb).trans h

end Go.Proofs.Ytoeoiljddcjphaa
