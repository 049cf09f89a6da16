/- Rows of commands: how they read; the laws' own helpers over them: szPoolCmdS, toPoolCmdS, eqPoolCmd, eqPoolCmdS. -/
import Derived.Deep.RegionHeld3
import Derived.Test.YtmmhgkkcpjhiiaaDoorQPoolText06
import Derived.Test.YtmmhgkkcpjhiiaaDoorQPoolText03
namespace Go.Proofs.YtmmhgkkcpjhiiaaDoor
open Go.ChangeShapes Go.WideShapes Go.ChangeAt Go.RowKit Go.Joins
set_option linter.unusedVariables false
set_option linter.unusedSimpArgs false

abbrev Cd := Int × Int × Int
def layC : Lay Cd := ⟨3, fun a => [.int .i64 a.1, .int .i64 a.2.1, .int .i64 a.2.2], (0, 0, 0), fun _ => rfl⟩
end Go.Proofs.YtmmhgkkcpjhiiaaDoor

