/- A box of a pool that is laid at any place among calls: what its end wants. -/
import Derived.Deep.RegionHeld3
import Derived.Deep.CutRange
import Derived.BigQuiet
import Derived.ChangeKeysEq
import Derived.Laws.StructEq
import Derived.Test.YtpjkcgaohoinaaaGreatQLearn30
import Derived.Test.YtpjkcgaohoinaaaGreatQLearn13
import Derived.Test.YtpjkcgaohoinaaaGreatQLearn29
import Derived.Test.YtpjkcgaohoinaaaGreatQLearn09
namespace Go.Proofs.YtpjkcgaohoinaaaGreat
open Go.ChangeShapes Go.WideShapes Go.ChangeAt Go.RowKit Go.Joins
set_option linter.unusedVariables false
set_option linter.unusedSimpArgs false

theorem RiPm.stps : Stps RiPm := ⟨fun h s hd => RiPm.step h s hd⟩
theorem InPm.stps : Stps InPm := ⟨fun h s hd => InPm.step h s hd⟩
end Go.Proofs.YtpjkcgaohoinaaaGreat

