/- Two drawn flows. -/
import Derived.Test.YtncdjmniphnpgaaSDraw6
namespace Go.Proofs.Ytncdjmniphnpgaa
open Go.ChangeShapes Go.WideShapes Go.ChangeAt Go.RowKit Go.Joins
set_option linter.unusedVariables false
set_option linter.unusedSimpArgs false
set_option maxRecDepth 100000

theorem put_over {B : Nat} {w w' : World} (h : Below B w w') (P o : Nat) (v : Value) (hP : B ≤ P) : Below B w (w'.setCell ⟨P, o, none⟩ v) :=
  Below.setCell (p := ⟨P, o, none⟩) h hP v
theorem fieldFlow (a b f s : Int) (v : Value) (w : World) : (Instr.field 124 (.agg #[.int .i64 a, .int .i64 b, .int .i64 f, .int .i64 s, v]) 0).run Try.prog w = .ok (.agg #[.int .i64 a, .int .i64 b]) w := by
  first | rfl | kernel_rfl

end Go.Proofs.Ytncdjmniphnpgaa
