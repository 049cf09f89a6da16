/-
  No cell of these rows narrows 'for every input' (looked for: loops, veiled, ifaces, maps, wideKeys, modest, calm, conditions, laid).
  DERIVED. THE GIVEN ROWS OF THIS SEAT. 8 by the template 'for every input the law returns true; each argument reads behind the call as it read before'; 0 by the template 'total and deterministic' (their statements: YtdlmekincjchoaaTotals.lean).
  GIVEN WITH THE SEED: the statements are not yours to turn. If you find one false, say at which input.
  Laid BY PROGRAM, IN A SANDBOX (cutbox-rows.mjs): the forced cells as the released guide's own fill.sh prints them over the translation 50251d95686eec13… (all of the seat's roots in one cut). By AI agents, Wed Nov 11 2026. No macro, syntax, notation, axiom, sorry.
-/
import Derived.Test.YtdlmekincjchoaaChecked
import GoSem.Claim
import GoSem.ClaimJoined
import GoSem.ClaimMapViews
import Derived.JoinedTies
import Derived.KernelRfl
namespace Go.Proofs.Ytdlmekincjchoaa
/- THE CELL 'sum', in the pinned program and in every row, IS THE sha256 OF THE DUMP (.gsa) THAT YtdlmekincjchoaaProg.lean LOADS. Nothing in Lean hashes anything: it is a label: what it is worth is what the hold of that sum in a sandbox is worth. -/
noncomputable def Try.pinned : Pinned := { name := "ytdlmekincjchoaa", sum := "50251d95686eec1322b72235c6b7bf71c87a8864bd43067597f0dcb7d1dd367d", checked := Try.checked }
namespace Rows
def none {H : Type} : Left H := { results := [], args := [] }

/-- 'laws.FnSums': WHATEVER THE INPUT: true; the input reads as it did. -/
def fnSumsSpec : ChangeSpec := { name := "fnSums", fn := fun _ => fun
  | [d] => { results := [.lit (.bool true)], args := [d] }
  | _ => none }
def fnSumsRow : OpenClaim := { program := "ytdlmekincjchoaa", sum := "50251d95686eec1322b72235c6b7bf71c87a8864bd43067597f0dcb7d1dd367d", func := "loop.example/g00607/laws.FnSums", spec := "fnSums", apart := false }
def FnSumsSaid : Prop := fnSumsRow.holds Try.pinned (OpenSpec.ofChange fnSumsSpec)

/-- ITS FALSE NEIGHBOUR: 'it returns false'. Refute it at one input. -/
def fnSumsWrong : ChangeSpec := { name := "fnSums", fn := fun _ => fun
  | [d] => { results := [.lit (.bool false)], args := [d] }
  | _ => none }
def FnSumsWrongFalsely : Prop := fnSumsRow.holds Try.pinned (OpenSpec.ofChange fnSumsWrong)

/-- 'laws.FnNexts': WHATEVER THE INPUT: true; the input reads as it did. -/
def fnNextsSpec : ChangeSpec := { name := "fnNexts", fn := fun _ => fun
  | [d] => { results := [.lit (.bool true)], args := [d] }
  | _ => none }
def fnNextsRow : OpenClaim := { program := "ytdlmekincjchoaa", sum := "50251d95686eec1322b72235c6b7bf71c87a8864bd43067597f0dcb7d1dd367d", func := "loop.example/g00607/laws.FnNexts", spec := "fnNexts", unfollowed := true, recurses := true, apart := false }
def FnNextsSaid : Prop := fnNextsRow.holds Try.pinned (OpenSpec.ofChange fnNextsSpec)

/-- ITS FALSE NEIGHBOUR: 'it returns false'. Refute it at one input. -/
def fnNextsWrong : ChangeSpec := { name := "fnNexts", fn := fun _ => fun
  | [d] => { results := [.lit (.bool false)], args := [d] }
  | _ => none }
def FnNextsWrongFalsely : Prop := fnNextsRow.holds Try.pinned (OpenSpec.ofChange fnNextsWrong)

/-- 'laws.FnExactCarrierOk': WHATEVER THE INPUT: true; the input reads as it did. -/
def fnExactCarrierOkSpec : ChangeSpec := { name := "fnExactCarrierOk", fn := fun _ => fun
  | [d] => { results := [.lit (.bool true)], args := [d] }
  | _ => none }
def fnExactCarrierOkRow : OpenClaim := { program := "ytdlmekincjchoaa", sum := "50251d95686eec1322b72235c6b7bf71c87a8864bd43067597f0dcb7d1dd367d", func := "loop.example/g00607/laws.FnExactCarrierOk", spec := "fnExactCarrierOk", unfollowed := true, recurses := true, apart := false }
def FnExactCarrierOkSaid : Prop := fnExactCarrierOkRow.holds Try.pinned (OpenSpec.ofChange fnExactCarrierOkSpec)

/-- ITS FALSE NEIGHBOUR: 'it returns false'. Refute it at one input. -/
def fnExactCarrierOkWrong : ChangeSpec := { name := "fnExactCarrierOk", fn := fun _ => fun
  | [d] => { results := [.lit (.bool false)], args := [d] }
  | _ => none }
def FnExactCarrierOkWrongFalsely : Prop := fnExactCarrierOkRow.holds Try.pinned (OpenSpec.ofChange fnExactCarrierOkWrong)

/-- 'laws.FnExactNext': WHATEVER THE INPUT: true; the input reads as it did. -/
def fnExactNextSpec : ChangeSpec := { name := "fnExactNext", fn := fun _ => fun
  | [d] => { results := [.lit (.bool true)], args := [d] }
  | _ => none }
def fnExactNextRow : OpenClaim := { program := "ytdlmekincjchoaa", sum := "50251d95686eec1322b72235c6b7bf71c87a8864bd43067597f0dcb7d1dd367d", func := "loop.example/g00607/laws.FnExactNext", spec := "fnExactNext", unfollowed := true, recurses := true, apart := false }
def FnExactNextSaid : Prop := fnExactNextRow.holds Try.pinned (OpenSpec.ofChange fnExactNextSpec)

/-- ITS FALSE NEIGHBOUR: 'it returns false'. Refute it at one input. -/
def fnExactNextWrong : ChangeSpec := { name := "fnExactNext", fn := fun _ => fun
  | [d] => { results := [.lit (.bool false)], args := [d] }
  | _ => none }
def FnExactNextWrongFalsely : Prop := fnExactNextRow.holds Try.pinned (OpenSpec.ofChange fnExactNextWrong)

/-- 'laws.FnExactHere': WHATEVER THE INPUT: true; the input reads as it did. -/
def fnExactHereSpec : ChangeSpec := { name := "fnExactHere", fn := fun _ => fun
  | [d] => { results := [.lit (.bool true)], args := [d] }
  | _ => none }
def fnExactHereRow : OpenClaim := { program := "ytdlmekincjchoaa", sum := "50251d95686eec1322b72235c6b7bf71c87a8864bd43067597f0dcb7d1dd367d", func := "loop.example/g00607/laws.FnExactHere", spec := "fnExactHere", unfollowed := true, recurses := true, apart := false }
def FnExactHereSaid : Prop := fnExactHereRow.holds Try.pinned (OpenSpec.ofChange fnExactHereSpec)

/-- ITS FALSE NEIGHBOUR: 'it returns false'. Refute it at one input. -/
def fnExactHereWrong : ChangeSpec := { name := "fnExactHere", fn := fun _ => fun
  | [d] => { results := [.lit (.bool false)], args := [d] }
  | _ => none }
def FnExactHereWrongFalsely : Prop := fnExactHereRow.holds Try.pinned (OpenSpec.ofChange fnExactHereWrong)

/-- 'laws.FnExactCarrierBytes': WHATEVER THE INPUT: true; the input reads as it did. -/
def fnExactCarrierBytesSpec : ChangeSpec := { name := "fnExactCarrierBytes", fn := fun _ => fun
  | [d] => { results := [.lit (.bool true)], args := [d] }
  | _ => none }
def fnExactCarrierBytesRow : OpenClaim := { program := "ytdlmekincjchoaa", sum := "50251d95686eec1322b72235c6b7bf71c87a8864bd43067597f0dcb7d1dd367d", func := "loop.example/g00607/laws.FnExactCarrierBytes", spec := "fnExactCarrierBytes", unfollowed := true, recurses := true, apart := false }
def FnExactCarrierBytesSaid : Prop := fnExactCarrierBytesRow.holds Try.pinned (OpenSpec.ofChange fnExactCarrierBytesSpec)

/-- ITS FALSE NEIGHBOUR: 'it returns false'. Refute it at one input. -/
def fnExactCarrierBytesWrong : ChangeSpec := { name := "fnExactCarrierBytes", fn := fun _ => fun
  | [d] => { results := [.lit (.bool false)], args := [d] }
  | _ => none }
def FnExactCarrierBytesWrongFalsely : Prop := fnExactCarrierBytesRow.holds Try.pinned (OpenSpec.ofChange fnExactCarrierBytesWrong)

/-- 'laws.FnExactCarrierRead': WHATEVER THE INPUT: true; the input reads as it did. -/
def fnExactCarrierReadSpec : ChangeSpec := { name := "fnExactCarrierRead", fn := fun _ => fun
  | [d] => { results := [.lit (.bool true)], args := [d] }
  | _ => none }
def fnExactCarrierReadRow : OpenClaim := { program := "ytdlmekincjchoaa", sum := "50251d95686eec1322b72235c6b7bf71c87a8864bd43067597f0dcb7d1dd367d", func := "loop.example/g00607/laws.FnExactCarrierRead", spec := "fnExactCarrierRead", unfollowed := true, recurses := true, apart := false }
def FnExactCarrierReadSaid : Prop := fnExactCarrierReadRow.holds Try.pinned (OpenSpec.ofChange fnExactCarrierReadSpec)

/-- ITS FALSE NEIGHBOUR: 'it returns false'. Refute it at one input. -/
def fnExactCarrierReadWrong : ChangeSpec := { name := "fnExactCarrierRead", fn := fun _ => fun
  | [d] => { results := [.lit (.bool false)], args := [d] }
  | _ => none }
def FnExactCarrierReadWrongFalsely : Prop := fnExactCarrierReadRow.holds Try.pinned (OpenSpec.ofChange fnExactCarrierReadWrong)

/-- 'laws.FnExactHuntPair': WHATEVER THE INPUT: true; the input reads as it did. -/
def fnExactHuntPairSpec : ChangeSpec := { name := "fnExactHuntPair", fn := fun _ => fun
  | [d] => { results := [.lit (.bool true)], args := [d] }
  | _ => none }
def fnExactHuntPairRow : OpenClaim := { program := "ytdlmekincjchoaa", sum := "50251d95686eec1322b72235c6b7bf71c87a8864bd43067597f0dcb7d1dd367d", func := "loop.example/g00607/laws.FnExactHuntPair", spec := "fnExactHuntPair", unfollowed := true, recurses := true, apart := false }
def FnExactHuntPairSaid : Prop := fnExactHuntPairRow.holds Try.pinned (OpenSpec.ofChange fnExactHuntPairSpec)

/-- ITS FALSE NEIGHBOUR: 'it returns false'. Refute it at one input. -/
def fnExactHuntPairWrong : ChangeSpec := { name := "fnExactHuntPair", fn := fun _ => fun
  | [d] => { results := [.lit (.bool false)], args := [d] }
  | _ => none }
def FnExactHuntPairWrongFalsely : Prop := fnExactHuntPairRow.holds Try.pinned (OpenSpec.ofChange fnExactHuntPairWrong)

/- THE SECOND FORM. 'bulk': how many values and letters a reading holds, each counted each time it is reached (what is shared counts as often as it is met; a slice's spare places count too). A statement '..UptoSaid' is the law's where the arguments, and the package variables that the reading takes, are together of bulk at most 1048576: NARROWER than '..Said'. Prove '..Said' where nothing that the law and all that it calls make is longer than what came in: it says more and counts as full. Else prove '..UptoSaid'. A law counts once. -/
mutual
def uptoBulk {H : Type} : DataW H → Nat
  | .lit (.string bytes) => bytes.length + 1
  | .lit _ => 1
  | .nil => 1
  | .ptr d => uptoBulk d + 1
  | .slice elems spare => uptoBulkAll elems + uptoBulkAll spare + 1
  | .agg parts => uptoBulkAll parts + 1
  | .iface _ d => uptoBulk d + 1
  | .map entries => uptoBulkEntries entries + 1
  | .held _ => 1
def uptoBulkAll {H : Type} : List (DataW H) → Nat
  | [] => 0
  | d :: r => uptoBulk d + uptoBulkAll r
def uptoBulkEntries {H : Type} : List (Lit × DataW H) → Nat
  | [] => 0
  | x :: r => uptoBulkEntry x + uptoBulkEntries r
def uptoBulkEntry {H : Type} : Lit × DataW H → Nat
  | (.string bytes, d) => bytes.length + uptoBulk d + 1
  | (_, d) => uptoBulk d + 1
 end
def uptoSmall : (H : Type) → List (DataW H) → Bool := fun _ ds => decide (uptoBulkAll ds ≤ 1048576)
def OpenSpec.upto (s : _root_.Go.ChangeSpec) : _root_.Go.OpenSpec := { _root_.Go.OpenSpec.ofChange s with cond := some uptoSmall }

/-- 'laws.FnSums', WHERE WHAT IT READS IS OF BULK AT MOST 1048576: true; the input reads as it did. -/
def fnSumsUptoRow : OpenClaim := { program := "ytdlmekincjchoaa", sum := "50251d95686eec1322b72235c6b7bf71c87a8864bd43067597f0dcb7d1dd367d", func := "loop.example/g00607/laws.FnSums", spec := "fnSums", apart := false, narrowed := true }
def FnSumsUptoSaid : Prop := fnSumsUptoRow.holds Try.pinned (OpenSpec.upto fnSumsSpec)

/-- 'laws.FnNexts', WHERE WHAT IT READS IS OF BULK AT MOST 1048576: true; the input reads as it did. -/
def fnNextsUptoRow : OpenClaim := { program := "ytdlmekincjchoaa", sum := "50251d95686eec1322b72235c6b7bf71c87a8864bd43067597f0dcb7d1dd367d", func := "loop.example/g00607/laws.FnNexts", spec := "fnNexts", unfollowed := true, recurses := true, apart := false, narrowed := true }
def FnNextsUptoSaid : Prop := fnNextsUptoRow.holds Try.pinned (OpenSpec.upto fnNextsSpec)

/-- 'laws.FnExactCarrierOk', WHERE WHAT IT READS IS OF BULK AT MOST 1048576: true; the input reads as it did. -/
def fnExactCarrierOkUptoRow : OpenClaim := { program := "ytdlmekincjchoaa", sum := "50251d95686eec1322b72235c6b7bf71c87a8864bd43067597f0dcb7d1dd367d", func := "loop.example/g00607/laws.FnExactCarrierOk", spec := "fnExactCarrierOk", unfollowed := true, recurses := true, apart := false, narrowed := true }
def FnExactCarrierOkUptoSaid : Prop := fnExactCarrierOkUptoRow.holds Try.pinned (OpenSpec.upto fnExactCarrierOkSpec)

/-- 'laws.FnExactNext', WHERE WHAT IT READS IS OF BULK AT MOST 1048576: true; the input reads as it did. -/
def fnExactNextUptoRow : OpenClaim := { program := "ytdlmekincjchoaa", sum := "50251d95686eec1322b72235c6b7bf71c87a8864bd43067597f0dcb7d1dd367d", func := "loop.example/g00607/laws.FnExactNext", spec := "fnExactNext", unfollowed := true, recurses := true, apart := false, narrowed := true }
def FnExactNextUptoSaid : Prop := fnExactNextUptoRow.holds Try.pinned (OpenSpec.upto fnExactNextSpec)

/-- 'laws.FnExactHere', WHERE WHAT IT READS IS OF BULK AT MOST 1048576: true; the input reads as it did. -/
def fnExactHereUptoRow : OpenClaim := { program := "ytdlmekincjchoaa", sum := "50251d95686eec1322b72235c6b7bf71c87a8864bd43067597f0dcb7d1dd367d", func := "loop.example/g00607/laws.FnExactHere", spec := "fnExactHere", unfollowed := true, recurses := true, apart := false, narrowed := true }
def FnExactHereUptoSaid : Prop := fnExactHereUptoRow.holds Try.pinned (OpenSpec.upto fnExactHereSpec)

/-- 'laws.FnExactCarrierBytes', WHERE WHAT IT READS IS OF BULK AT MOST 1048576: true; the input reads as it did. -/
def fnExactCarrierBytesUptoRow : OpenClaim := { program := "ytdlmekincjchoaa", sum := "50251d95686eec1322b72235c6b7bf71c87a8864bd43067597f0dcb7d1dd367d", func := "loop.example/g00607/laws.FnExactCarrierBytes", spec := "fnExactCarrierBytes", unfollowed := true, recurses := true, apart := false, narrowed := true }
def FnExactCarrierBytesUptoSaid : Prop := fnExactCarrierBytesUptoRow.holds Try.pinned (OpenSpec.upto fnExactCarrierBytesSpec)

/-- 'laws.FnExactCarrierRead', WHERE WHAT IT READS IS OF BULK AT MOST 1048576: true; the input reads as it did. -/
def fnExactCarrierReadUptoRow : OpenClaim := { program := "ytdlmekincjchoaa", sum := "50251d95686eec1322b72235c6b7bf71c87a8864bd43067597f0dcb7d1dd367d", func := "loop.example/g00607/laws.FnExactCarrierRead", spec := "fnExactCarrierRead", unfollowed := true, recurses := true, apart := false, narrowed := true }
def FnExactCarrierReadUptoSaid : Prop := fnExactCarrierReadUptoRow.holds Try.pinned (OpenSpec.upto fnExactCarrierReadSpec)

/-- 'laws.FnExactHuntPair', WHERE WHAT IT READS IS OF BULK AT MOST 1048576: true; the input reads as it did. -/
def fnExactHuntPairUptoRow : OpenClaim := { program := "ytdlmekincjchoaa", sum := "50251d95686eec1322b72235c6b7bf71c87a8864bd43067597f0dcb7d1dd367d", func := "loop.example/g00607/laws.FnExactHuntPair", spec := "fnExactHuntPair", unfollowed := true, recurses := true, apart := false, narrowed := true }
def FnExactHuntPairUptoSaid : Prop := fnExactHuntPairUptoRow.holds Try.pinned (OpenSpec.upto fnExactHuntPairSpec)

end Rows
end Go.Proofs.Ytdlmekincjchoaa
