/- Contracts of the laws' own helpers over what is carried: one that came in, its size, its copy, its comparison. -/
import Derived.Deep.RegionHeld3
import Derived.Test.YtoeoiljddcjphaaDoorQCarriers15
import Derived.Test.YtoeoiljddcjphaaDoorQCarriers01
import Derived.Test.YtoeoiljddcjphaaDoorQCarriers02
namespace Go.Proofs.YtoeoiljddcjphaaDoor
open Go.ChangeShapes Go.WideShapes Go.ChangeAt Go.RowKit Go.Joins
set_option linter.unusedVariables false
set_option linter.unusedSimpArgs false

abbrev crr (a b f s : Int) (v g : Value) (p t : Int) : Value := .agg #[.int .i64 a, .int .i64 b, .int .i64 f, .int .i64 s, v, g, .int .i64 p, .int .i64 t]

end Go.Proofs.YtoeoiljddcjphaaDoor

