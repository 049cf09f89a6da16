/-
  No cell of these rows narrows 'for every input' (looked for: loops, veiled, ifaces, maps, wideKeys, modest, calm, conditions, laid).
  DERIVED. THE GIVEN ROWS OF THIS SEAT. 5 by the template 'for every input the law returns true; each argument reads behind the call as it read before'; 0 by the template 'total and deterministic' (their statements: YtbjdijbmhjmiaaaTotals.lean).
  GIVEN WITH THE SEED: the statements are not yours to turn. If you find one false, say at which input.
  Laid BY PROGRAM, IN A SANDBOX (cutbox-rows.mjs): the forced cells as the released guide's own fill.sh prints them over the translation c8b5b680dcaafdc5… (all of the seat's roots in one cut). By AI agents, Wed Nov 11 2026. No macro, syntax, notation, axiom, sorry.
-/
import Derived.Test.YtbjdijbmhjmiaaaChecked
import GoSem.Claim
import GoSem.ClaimJoined
import GoSem.ClaimMapViews
import Derived.JoinedTies
import Derived.KernelRfl
namespace Go.Proofs.Ytbjdijbmhjmiaaa
/- THE CELL 'sum', in the pinned program and in every row, IS THE sha256 OF THE DUMP (.gsa) THAT YtbjdijbmhjmiaaaProg.lean LOADS. Nothing in Lean hashes anything: it is a label: what it is worth is what the hold of that sum in a sandbox is worth. -/
noncomputable def Try.pinned : Pinned := { name := "ytbjdijbmhjmiaaa", sum := "c8b5b680dcaafdc5a8c30e225604e38362c676d156abe9276de65550678a1882", checked := Try.checked }
namespace Rows
def none {H : Type} : Left H := { results := [], args := [] }

/-- 'laws.FnSums': WHATEVER THE INPUT: true; the input reads as it did. -/
def fnSumsSpec : ChangeSpec := { name := "fnSums", fn := fun _ => fun
  | [d] => { results := [.lit (.bool true)], args := [d] }
  | _ => none }
def fnSumsRow : OpenClaim := { program := "ytbjdijbmhjmiaaa", sum := "c8b5b680dcaafdc5a8c30e225604e38362c676d156abe9276de65550678a1882", func := "loop.example/g00607/laws.FnSums", spec := "fnSums", plainKeys := false, apart := false }
def FnSumsSaid : Prop := fnSumsRow.holds Try.pinned (OpenSpec.ofChange fnSumsSpec)

/-- ITS FALSE NEIGHBOUR: 'it returns false'. Refute it at one input. -/
def fnSumsWrong : ChangeSpec := { name := "fnSums", fn := fun _ => fun
  | [d] => { results := [.lit (.bool false)], args := [d] }
  | _ => none }
def FnSumsWrongFalsely : Prop := fnSumsRow.holds Try.pinned (OpenSpec.ofChange fnSumsWrong)

/-- 'laws.FnFlows': WHATEVER THE INPUT: true; the input reads as it did. -/
def fnFlowsSpec : ChangeSpec := { name := "fnFlows", fn := fun _ => fun
  | [d] => { results := [.lit (.bool true)], args := [d] }
  | _ => none }
def fnFlowsRow : OpenClaim := { program := "ytbjdijbmhjmiaaa", sum := "c8b5b680dcaafdc5a8c30e225604e38362c676d156abe9276de65550678a1882", func := "loop.example/g00607/laws.FnFlows", spec := "fnFlows", plainKeys := false, apart := false }
def FnFlowsSaid : Prop := fnFlowsRow.holds Try.pinned (OpenSpec.ofChange fnFlowsSpec)

/-- ITS FALSE NEIGHBOUR: 'it returns false'. Refute it at one input. -/
def fnFlowsWrong : ChangeSpec := { name := "fnFlows", fn := fun _ => fun
  | [d] => { results := [.lit (.bool false)], args := [d] }
  | _ => none }
def FnFlowsWrongFalsely : Prop := fnFlowsRow.holds Try.pinned (OpenSpec.ofChange fnFlowsWrong)

/-- 'laws.FnNexts': WHATEVER THE INPUT: true; the input reads as it did. -/
def fnNextsSpec : ChangeSpec := { name := "fnNexts", fn := fun _ => fun
  | [d] => { results := [.lit (.bool true)], args := [d] }
  | _ => none }
def fnNextsRow : OpenClaim := { program := "ytbjdijbmhjmiaaa", sum := "c8b5b680dcaafdc5a8c30e225604e38362c676d156abe9276de65550678a1882", func := "loop.example/g00607/laws.FnNexts", spec := "fnNexts", unfollowed := true, recurses := true, plainKeys := false, apart := false }
def FnNextsSaid : Prop := fnNextsRow.holds Try.pinned (OpenSpec.ofChange fnNextsSpec)

/-- ITS FALSE NEIGHBOUR: 'it returns false'. Refute it at one input. -/
def fnNextsWrong : ChangeSpec := { name := "fnNexts", fn := fun _ => fun
  | [d] => { results := [.lit (.bool false)], args := [d] }
  | _ => none }
def FnNextsWrongFalsely : Prop := fnNextsRow.holds Try.pinned (OpenSpec.ofChange fnNextsWrong)

/-- 'laws.FnExactFlowCmp': WHATEVER THE INPUT: true; the input reads as it did. -/
def fnExactFlowCmpSpec : ChangeSpec := { name := "fnExactFlowCmp", fn := fun _ => fun
  | [d1, d2] => { results := [.lit (.bool true)], args := [d1, d2] }
  | _ => none }
def fnExactFlowCmpRow : OpenClaim := { program := "ytbjdijbmhjmiaaa", sum := "c8b5b680dcaafdc5a8c30e225604e38362c676d156abe9276de65550678a1882", func := "loop.example/g00607/laws.FnExactFlowCmp", spec := "fnExactFlowCmp", plainKeys := false, apart := false }
def FnExactFlowCmpSaid : Prop := fnExactFlowCmpRow.holds Try.pinned (OpenSpec.ofChange fnExactFlowCmpSpec)

/-- ITS FALSE NEIGHBOUR: 'it returns false'. Refute it at one input. -/
def fnExactFlowCmpWrong : ChangeSpec := { name := "fnExactFlowCmp", fn := fun _ => fun
  | [d1, d2] => { results := [.lit (.bool false)], args := [d1, d2] }
  | _ => none }
def FnExactFlowCmpWrongFalsely : Prop := fnExactFlowCmpRow.holds Try.pinned (OpenSpec.ofChange fnExactFlowCmpWrong)

/-- 'laws.FnExactOpens': WHATEVER THE INPUT: true; the input reads as it did. -/
def fnExactOpensSpec : ChangeSpec := { name := "fnExactOpens", fn := fun _ => fun
  | [d] => { results := [.lit (.bool true)], args := [d] }
  | _ => none }
def fnExactOpensRow : OpenClaim := { program := "ytbjdijbmhjmiaaa", sum := "c8b5b680dcaafdc5a8c30e225604e38362c676d156abe9276de65550678a1882", func := "loop.example/g00607/laws.FnExactOpens", spec := "fnExactOpens", plainKeys := false, apart := false }
def FnExactOpensSaid : Prop := fnExactOpensRow.holds Try.pinned (OpenSpec.ofChange fnExactOpensSpec)

/-- ITS FALSE NEIGHBOUR: 'it returns false'. Refute it at one input. -/
def fnExactOpensWrong : ChangeSpec := { name := "fnExactOpens", fn := fun _ => fun
  | [d] => { results := [.lit (.bool false)], args := [d] }
  | _ => none }
def FnExactOpensWrongFalsely : Prop := fnExactOpensRow.holds Try.pinned (OpenSpec.ofChange fnExactOpensWrong)

/- THE SECOND FORM. 'bulk': how many values and letters a reading holds, each counted each time it is reached (what is shared counts as often as it is met; a slice's spare places count too). A statement '..UptoSaid' is the law's where the arguments, and the package variables that the reading takes, are together of bulk at most 1048576: NARROWER than '..Said'. Prove '..Said' where nothing that the law and all that it calls make is longer than what came in: it says more and counts as full. Else prove '..UptoSaid'. A law counts once. -/
mutual
def uptoBulk {H : Type} : DataW H → Nat
  | .lit (.string bytes) => bytes.length + 1
  | .lit _ => 1
  | .nil => 1
  | .ptr d => uptoBulk d + 1
  | .slice elems spare => uptoBulkAll elems + uptoBulkAll spare + 1
  | .agg parts => uptoBulkAll parts + 1
  | .iface _ d => uptoBulk d + 1
  | .map entries => uptoBulkEntries entries + 1
  | .held _ => 1
def uptoBulkAll {H : Type} : List (DataW H) → Nat
  | [] => 0
  | d :: r => uptoBulk d + uptoBulkAll r
def uptoBulkEntries {H : Type} : List (Lit × DataW H) → Nat
  | [] => 0
  | x :: r => uptoBulkEntry x + uptoBulkEntries r
def uptoBulkEntry {H : Type} : Lit × DataW H → Nat
  | (.string bytes, d) => bytes.length + uptoBulk d + 1
  | (_, d) => uptoBulk d + 1
 end
def uptoSmall : (H : Type) → List (DataW H) → Bool := fun _ ds => decide (uptoBulkAll ds ≤ 1048576)
def OpenSpec.upto (s : _root_.Go.ChangeSpec) : _root_.Go.OpenSpec := { _root_.Go.OpenSpec.ofChange s with cond := some uptoSmall }

/-- 'laws.FnSums', WHERE WHAT IT READS IS OF BULK AT MOST 1048576: true; the input reads as it did. -/
def fnSumsUptoRow : OpenClaim := { program := "ytbjdijbmhjmiaaa", sum := "c8b5b680dcaafdc5a8c30e225604e38362c676d156abe9276de65550678a1882", func := "loop.example/g00607/laws.FnSums", spec := "fnSums", plainKeys := false, apart := false, narrowed := true }
def FnSumsUptoSaid : Prop := fnSumsUptoRow.holds Try.pinned (OpenSpec.upto fnSumsSpec)

/-- 'laws.FnFlows', WHERE WHAT IT READS IS OF BULK AT MOST 1048576: true; the input reads as it did. -/
def fnFlowsUptoRow : OpenClaim := { program := "ytbjdijbmhjmiaaa", sum := "c8b5b680dcaafdc5a8c30e225604e38362c676d156abe9276de65550678a1882", func := "loop.example/g00607/laws.FnFlows", spec := "fnFlows", plainKeys := false, apart := false, narrowed := true }
def FnFlowsUptoSaid : Prop := fnFlowsUptoRow.holds Try.pinned (OpenSpec.upto fnFlowsSpec)

/-- 'laws.FnNexts', WHERE WHAT IT READS IS OF BULK AT MOST 1048576: true; the input reads as it did. -/
def fnNextsUptoRow : OpenClaim := { program := "ytbjdijbmhjmiaaa", sum := "c8b5b680dcaafdc5a8c30e225604e38362c676d156abe9276de65550678a1882", func := "loop.example/g00607/laws.FnNexts", spec := "fnNexts", unfollowed := true, recurses := true, plainKeys := false, apart := false, narrowed := true }
def FnNextsUptoSaid : Prop := fnNextsUptoRow.holds Try.pinned (OpenSpec.upto fnNextsSpec)

/-- 'laws.FnExactFlowCmp', WHERE WHAT IT READS IS OF BULK AT MOST 1048576: true; the input reads as it did. -/
def fnExactFlowCmpUptoRow : OpenClaim := { program := "ytbjdijbmhjmiaaa", sum := "c8b5b680dcaafdc5a8c30e225604e38362c676d156abe9276de65550678a1882", func := "loop.example/g00607/laws.FnExactFlowCmp", spec := "fnExactFlowCmp", plainKeys := false, apart := false, narrowed := true }
def FnExactFlowCmpUptoSaid : Prop := fnExactFlowCmpUptoRow.holds Try.pinned (OpenSpec.upto fnExactFlowCmpSpec)

/-- 'laws.FnExactOpens', WHERE WHAT IT READS IS OF BULK AT MOST 1048576: true; the input reads as it did. -/
def fnExactOpensUptoRow : OpenClaim := { program := "ytbjdijbmhjmiaaa", sum := "c8b5b680dcaafdc5a8c30e225604e38362c676d156abe9276de65550678a1882", func := "loop.example/g00607/laws.FnExactOpens", spec := "fnExactOpens", plainKeys := false, apart := false, narrowed := true }
def FnExactOpensUptoSaid : Prop := fnExactOpensUptoRow.holds Try.pinned (OpenSpec.upto fnExactOpensSpec)

end Rows
end Go.Proofs.Ytbjdijbmhjmiaaa
