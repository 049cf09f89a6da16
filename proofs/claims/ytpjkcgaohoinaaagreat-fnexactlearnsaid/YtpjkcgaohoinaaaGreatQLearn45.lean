/- The program's CarrierOk. -/
import Derived.Test.YtpjkcgaohoinaaaGreatQLearn43
import Derived.Test.YtpjkcgaohoinaaaGreatQLearn44
namespace Go.Proofs.YtpjkcgaohoinaaaGreat
open Go.ChangeShapes Go.WideShapes Go.ChangeAt Go.RowKit Go.Joins
set_option linter.unusedVariables false
set_option linter.unusedSimpArgs false

set_option maxHeartbeats 400000 in
theorem isStamp_any (n : Int) (w : World) : Calls Tryz.prog 27 #[.int .i64 n] w fun e w' => e = .returned (.bool (decide (0 ≤ n) && decide (n ≤ 100000))) ∧ w = w' := by
 go_enter Tryz.func27, Tryz.ntmps27
 go_wp2
 all_goals go_ret
 all_goals refine ⟨?_, rfl⟩
 all_goals first | (simp [*]; done) | (simp; omega)

end Go.Proofs.YtpjkcgaohoinaaaGreat

