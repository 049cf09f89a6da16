/- The program's side of chapter 5: TableOk. -/
import Derived.Test.YtajfkcpifnpkeaaGreatGrSCell3
import Derived.Test.YtajfkcpifnpkeaaGreatGrSTabS2
namespace Go.Proofs.YtajfkcpifnpkeaaGreat
open Go.ChangeShapes Go.WideShapes Go.ChangeAt Go.RowKit Go.Joins
set_option linter.unusedVariables false
set_option linter.unusedSimpArgs false

theorem specTableOk_sh (v : Value) (m : List Sl) (w : World) (hR : RdT w.heap.size w v m) (hc : capT v) (hf : m.length ≤ 1048576) :
    Calls Tryz.prog 48 #[v] w fun e w' => e = .returned (.bool (tableOkB m)) ∧ Below w.heap.size w w' := by
  obtain ⟨vl, rfl, o, c, rfl, r⟩ := hR
  exact specTableOk_any o c m w r hf
end Go.Proofs.YtajfkcpifnpkeaaGreat
