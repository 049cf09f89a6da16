/-
  DERIVED. GIVEN WITH THE SEED: THE CARDS: each row of YtmmhgkkcpjhiiaaDoorRows.lean that lists a variable, with what it lists TIED to the program's text (the seventh form; the later family's looks); each row that meets fmt, with fmt's text TOLD by the authors' own Lean function (tested against real Go, not proved from fmt's source: count such statements apart). THE CARD IS WHAT COUNTS. Prove the row's statement (the work); the ties are given (YtmmhgkkcpjhiiaaDoorTie.lean); close each card by the builder's one call (the guide's Derived/Test/ToyasCard.lean, 'card_holds'). Laid BY PROGRAM, IN A SANDBOX (cutbox-door.mjs). By AI agents, Wed Nov 11 2026. No macro, syntax, notation, axiom, sorry.
-/
import Derived.Test.YtmmhgkkcpjhiiaaDoorRows
import GoSem.ClaimSeven
namespace Go.Proofs.YtmmhgkkcpjhiiaaDoor
namespace Rows

/-- THE TIED CARD OF 'laws.FnExactAgentText'. -/
def fnExactAgentTextCard : Claim7 := { stood := { row := fnExactAgentTextRow, standIns := [], harness := (true, "e2c1a01b81edcef8b7cc67683eda6afa83d004cb7e626ac3e79b8677b202cd2a"), looks := true }, kinds := [], alts := [], laidByText := true, laidKinds := [.data, .data, .data], laidTests := true, laidLooks := .later }
def FnExactAgentTextCardSaid : Prop := Claim7.holds Tryd.pinned (.plain (OpenSpec.ofChange fnExactAgentTextSpec)) fnExactAgentTextCard

/-- THE TIED CARD OF 'laws.FnExactPoolText'. -/
def fnExactPoolTextCard : Claim7 := { stood := { row := fnExactPoolTextRow, standIns := [], harness := (true, "e2c1a01b81edcef8b7cc67683eda6afa83d004cb7e626ac3e79b8677b202cd2a"), looks := true }, kinds := [], alts := [], laidByText := true, laidKinds := [.data, .data, .data], laidTests := true, laidLooks := .later }
def FnExactPoolTextCardSaid : Prop := Claim7.holds Tryd.pinned (.plain (OpenSpec.ofChange fnExactPoolTextSpec)) fnExactPoolTextCard

/-- THE SECOND FORM's CARD OF 'laws.FnExactAgentText'. -/
def fnExactAgentTextUptoCard : Claim7 := { stood := { row := fnExactAgentTextUptoRow, standIns := [], harness := (true, "e2c1a01b81edcef8b7cc67683eda6afa83d004cb7e626ac3e79b8677b202cd2a"), looks := true }, kinds := [], alts := [], laidByText := true, laidKinds := [.data, .data, .data], laidTests := true, laidLooks := .later }
def FnExactAgentTextUptoCardSaid : Prop := Claim7.holds Tryd.pinned (.plain (OpenSpec.upto fnExactAgentTextSpec)) fnExactAgentTextUptoCard

/-- THE SECOND FORM's CARD OF 'laws.FnExactPoolText'. -/
def fnExactPoolTextUptoCard : Claim7 := { stood := { row := fnExactPoolTextUptoRow, standIns := [], harness := (true, "e2c1a01b81edcef8b7cc67683eda6afa83d004cb7e626ac3e79b8677b202cd2a"), looks := true }, kinds := [], alts := [], laidByText := true, laidKinds := [.data, .data, .data], laidTests := true, laidLooks := .later }
def FnExactPoolTextUptoCardSaid : Prop := Claim7.holds Tryd.pinned (.plain (OpenSpec.upto fnExactPoolTextSpec)) fnExactPoolTextUptoCard
end Rows
end Go.Proofs.YtmmhgkkcpjhiiaaDoor
