/- Rows of flows, in the words of Lists: how they lie, and 'append' onto them. -/
import Derived.Test.YtajfkcpifnpkeaaGreatGrLCmd
import Derived.Test.YtajfkcpifnpkeaaGreatGrFr
namespace Go.Proofs.YtajfkcpifnpkeaaGreat
open Go.ChangeShapes Go.WideShapes Go.ChangeAt Go.RowKit Go.Joins
set_option linter.unusedVariables false
set_option linter.unusedSimpArgs false

def layF : Lay (Int × Int) := ⟨2, fun a => [.int .i64 a.1, .int .i64 a.2], (0, 0), fun _ => rfl⟩
theorem infoFlow : (Tryz.prog.info? 66).map (fun i => (i.zero, i.size, i.bytes)) = some (some (.agg #[.int .i64 0, .int .i64 0]), 2, 16) := by kernel_rfl
theorem rd_flow1 (w : World) (x y : Int) : RdL layF (w.alloc (.cells #[.int .i64 x, .int .i64 y] 66)).heap.size (w.alloc (.cells #[.int .i64 x, .int .i64 y] 66)) (some ⟨w.heap.size, 0, none⟩) [(x, y)] := by
  refine .inr ⟨w.heap.size, 0, rfl, by simp, fun i hi j hj => ?_⟩
  have hi0 : i = 0 := by simpa using hi
  have hj0 : j < 2 := hj
  subst hi0
  match j, hj0 with
  | 0, _ => simp [layF]
  | 1, _ => simp [layF]

end Go.Proofs.YtajfkcpifnpkeaaGreat
