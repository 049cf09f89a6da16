/-
  DERIVED. GIVEN WITH THE SEED: THE CARDS: each row of YtljogkoaaidlcaaDoorRows.lean that lists a variable, with what it lists TIED to the program's text (the seventh form; the later family's looks); each row that meets fmt, with fmt's text TOLD by the authors' own Lean function (tested against real Go, not proved from fmt's source: count such statements apart). THE CARD IS WHAT COUNTS. Prove the row's statement (the work); the ties are given (YtljogkoaaidlcaaDoorTie.lean); close each card by the builder's one call (the guide's Derived/Test/ToyasCard.lean, 'card_holds'). Laid BY PROGRAM, IN A SANDBOX (cutbox-door.mjs). By AI agents, Wed Nov 11 2026. No macro, syntax, notation, axiom, sorry.
-/
import Derived.Test.YtljogkoaaidlcaaDoorRows
import GoSem.ClaimSeven
namespace Go.Proofs.YtljogkoaaidlcaaDoor
namespace Rows

/-- THE TIED CARD OF 'laws.FnExactAgentText'. -/
def fnExactAgentTextCard : Claim7 := { stood := { row := fnExactAgentTextRow, standIns := [], harness := (true, "89209a9365a01297849cd6976ad1084e2742c999bd6a84c51a7ade5452466e66"), looks := false }, kinds := [], alts := [], laidByText := true, laidKinds := [.data, .data, .data], laidTests := true, laidLooks := .later }
def FnExactAgentTextCardSaid : Prop := Claim7.holds Tryd.pinned (.plain (OpenSpec.ofChange fnExactAgentTextSpec)) fnExactAgentTextCard

/-- THE SECOND FORM's CARD OF 'laws.FnExactAgentText'. -/
def fnExactAgentTextUptoCard : Claim7 := { stood := { row := fnExactAgentTextUptoRow, standIns := [], harness := (true, "89209a9365a01297849cd6976ad1084e2742c999bd6a84c51a7ade5452466e66"), looks := false }, kinds := [], alts := [], laidByText := true, laidKinds := [.data, .data, .data], laidTests := true, laidLooks := .later }
def FnExactAgentTextUptoCardSaid : Prop := Claim7.holds Tryd.pinned (.plain (OpenSpec.upto fnExactAgentTextSpec)) fnExactAgentTextUptoCard
end Rows
end Go.Proofs.YtljogkoaaidlcaaDoor
