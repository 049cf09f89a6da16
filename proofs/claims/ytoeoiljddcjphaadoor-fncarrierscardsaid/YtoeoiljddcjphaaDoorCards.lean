/-
  DERIVED. GIVEN WITH THE SEED: THE CARDS: each row of YtoeoiljddcjphaaDoorRows.lean that lists a variable, with what it lists TIED to the program's text (the seventh form; the later family's looks); each row that meets fmt, with fmt's text TOLD by the authors' own Lean function (tested against real Go, not proved from fmt's source: count such statements apart). THE CARD IS WHAT COUNTS. Prove the row's statement (the work); the ties are given (YtoeoiljddcjphaaDoorTie.lean); close each card by the builder's one call (the guide's Derived/Test/ToyasCard.lean, 'card_holds'). Laid BY PROGRAM, IN A SANDBOX (cutbox-door.mjs). By AI agents, Wed Nov 11 2026. No macro, syntax, notation, axiom, sorry.
-/
import Derived.Test.YtoeoiljddcjphaaDoorRows
import GoSem.ClaimSeven
namespace Go.Proofs.YtoeoiljddcjphaaDoor
namespace Rows

/-- THE TIED CARD OF 'laws.FnCarriers'. -/
def fnCarriersCard : Claim7 := { stood := { row := fnCarriersRow, standIns := [], harness := (true, "83e354edf494c385adfbb89ff276fdc0b3ce3a9d238ea3352355d7d762bbaef2"), looks := false }, kinds := [], alts := [], laidByText := true, laidKinds := [.data, .data, .data], laidTests := true, laidLooks := .later }
def FnCarriersCardSaid : Prop := Claim7.holds Tryd.pinned (.plain (OpenSpec.ofChange fnCarriersSpec)) fnCarriersCard

/-- THE TIED CARD OF 'laws.FnExactCarrierText'. -/
def fnExactCarrierTextCard : Claim7 := { stood := { row := fnExactCarrierTextRow, standIns := [], harness := (true, "83e354edf494c385adfbb89ff276fdc0b3ce3a9d238ea3352355d7d762bbaef2"), looks := false }, kinds := [], alts := [], laidByText := true, laidKinds := [.data, .data, .data], laidTests := true, laidLooks := .later }
def FnExactCarrierTextCardSaid : Prop := Claim7.holds Tryd.pinned (.plain (OpenSpec.ofChange fnExactCarrierTextSpec)) fnExactCarrierTextCard

/-- THE SECOND FORM's CARD OF 'laws.FnCarriers'. -/
def fnCarriersUptoCard : Claim7 := { stood := { row := fnCarriersUptoRow, standIns := [], harness := (true, "83e354edf494c385adfbb89ff276fdc0b3ce3a9d238ea3352355d7d762bbaef2"), looks := false }, kinds := [], alts := [], laidByText := true, laidKinds := [.data, .data, .data], laidTests := true, laidLooks := .later }
def FnCarriersUptoCardSaid : Prop := Claim7.holds Tryd.pinned (.plain (OpenSpec.upto fnCarriersSpec)) fnCarriersUptoCard

/-- THE SECOND FORM's CARD OF 'laws.FnExactCarrierText'. -/
def fnExactCarrierTextUptoCard : Claim7 := { stood := { row := fnExactCarrierTextUptoRow, standIns := [], harness := (true, "83e354edf494c385adfbb89ff276fdc0b3ce3a9d238ea3352355d7d762bbaef2"), looks := false }, kinds := [], alts := [], laidByText := true, laidKinds := [.data, .data, .data], laidTests := true, laidLooks := .later }
def FnExactCarrierTextUptoCardSaid : Prop := Claim7.holds Tryd.pinned (.plain (OpenSpec.upto fnExactCarrierTextSpec)) fnExactCarrierTextUptoCard
end Rows
end Go.Proofs.YtoeoiljddcjphaaDoor
