/- Rows of flows, in the words of Lists: how they lie, and 'append' onto them. -/
import Derived.Test.YtiijecnhbioehaaAppL
import Derived.Test.YtiijecnhbioehaaFr
namespace Go.Proofs.Ytiijecnhbioehaa
open Go.ChangeShapes Go.WideShapes Go.ChangeAt Go.RowKit Go.Joins
set_option linter.unusedVariables false
set_option linter.unusedSimpArgs false

def layF : Lay (Int × Int) := ⟨2, fun a => [.int .i64 a.1, .int .i64 a.2], (0, 0), fun _ => rfl⟩
theorem infoFlow : (Try.prog.info? 27).map (fun i => (i.zero, i.size, i.bytes)) = some (some (.agg #[.int .i64 0, .int .i64 0]), 2, 16) := by kernel_rfl
theorem appF : AppOk layF 48 27 := ⟨Try.underlying48, ⟨_, _, infoFlow, rfl, by decide⟩, by decide, fun a u hu => by
  simp [layF] at hu; rcases hu with rfl | rfl <;> rfl⟩
theorem rd_flow1 (w : World) (x y : Int) : RdL layF (w.alloc (.cells #[.int .i64 x, .int .i64 y] 27)).heap.size (w.alloc (.cells #[.int .i64 x, .int .i64 y] 27)) (some ⟨w.heap.size, 0, none⟩) [(x, y)] := by
  refine .inr ⟨w.heap.size, 0, rfl, by simp, fun i hi j hj => ?_⟩
  have hi0 : i = 0 := by simpa using hi
  have hj0 : j < 2 := hj
  subst hi0
  match j, hj0 with
  | 0, _ => simp [layF]
  | 1, _ => simp [layF]

end Go.Proofs.Ytiijecnhbioehaa
