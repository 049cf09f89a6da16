/-
  No cell of these rows narrows 'for every input' (looked for: loops, veiled, ifaces, maps, wideKeys, modest, calm, conditions, laid).
  DERIVED. THE GIVEN ROWS OF THIS SEAT. 5 by the template 'for every input the law returns true; each argument reads behind the call as it read before'; 0 by the template 'total and deterministic' (their statements: YteffhdcankkfkaaGreatTotals.lean).
  GIVEN WITH THE SEED: the statements are not yours to turn. If you find one false, say at which input.
  Laid BY PROGRAM, IN A SANDBOX (cutbox-rows.mjs): the forced cells as the released guide's own fill.sh prints them over the translation 9d6740b13691a385… (all of the seat's roots in one cut). By AI agents, Wed Nov 11 2026. No macro, syntax, notation, axiom, sorry.
-/
import Derived.Test.YteffhdcankkfkaaGreatChecked
import GoSem.Claim
import GoSem.ClaimJoined
import GoSem.ClaimMapViews
import Derived.JoinedTies
import Derived.KernelRfl
namespace Go.Proofs.YteffhdcankkfkaaGreat
/- THE CELL 'sum', in the pinned program and in every row, IS THE sha256 OF THE DUMP (.gsa) THAT YteffhdcankkfkaaGreatProg.lean LOADS. Nothing in Lean hashes anything: it is a label: what it is worth is what the hold of that sum in a sandbox is worth. -/
noncomputable def Tryz.pinned : Pinned := { name := "yteffhdcankkfkaagreat", sum := "9d6740b13691a3850870616f3ac0e6635d534f0a3ece94bda0535b19287ae1e0", checked := Tryz.checked }
namespace Rows
def none {H : Type} : Left H := { results := [], args := [] }

/-- 'laws.FnExactClusterNew': WHATEVER THE INPUT: true; the input reads as it did. -/
def fnExactClusterNewSpec : ChangeSpec := { name := "fnExactClusterNew", fn := fun _ => fun
  | [d1, d2, d3] => { results := [.lit (.bool true)], args := [d1, d2, d3] }
  | _ => none }
def fnExactClusterNewRow : OpenClaim := { program := "yteffhdcankkfkaagreat", sum := "9d6740b13691a3850870616f3ac0e6635d534f0a3ece94bda0535b19287ae1e0", func := "loop.example/g00607/laws.FnExactClusterNew", spec := "fnExactClusterNew", unfollowed := true, recurses := true, apart := false }
def FnExactClusterNewSaid : Prop := fnExactClusterNewRow.holds Tryz.pinned (OpenSpec.ofChange fnExactClusterNewSpec)

/-- ITS FALSE NEIGHBOUR: 'it returns false'. Refute it at one input. -/
def fnExactClusterNewWrong : ChangeSpec := { name := "fnExactClusterNew", fn := fun _ => fun
  | [d1, d2, d3] => { results := [.lit (.bool false)], args := [d1, d2, d3] }
  | _ => none }
def FnExactClusterNewWrongFalsely : Prop := fnExactClusterNewRow.holds Tryz.pinned (OpenSpec.ofChange fnExactClusterNewWrong)

/-- 'laws.FnExactLose': WHATEVER THE INPUT: true; the input reads as it did. -/
def fnExactLoseSpec : ChangeSpec := { name := "fnExactLose", fn := fun _ => fun
  | [d1, d2] => { results := [.lit (.bool true)], args := [d1, d2] }
  | _ => none }
def fnExactLoseRow : OpenClaim := { program := "yteffhdcankkfkaagreat", sum := "9d6740b13691a3850870616f3ac0e6635d534f0a3ece94bda0535b19287ae1e0", func := "loop.example/g00607/laws.FnExactLose", spec := "fnExactLose", inPlace := ["slices.overlaps[loop.example/g00607/impl.Back]"], unfollowed := true, recurses := true, apart := false }
def FnExactLoseSaid : Prop := fnExactLoseRow.holds Tryz.pinned (OpenSpec.ofChange fnExactLoseSpec)

/-- ITS FALSE NEIGHBOUR: 'it returns false'. Refute it at one input. -/
def fnExactLoseWrong : ChangeSpec := { name := "fnExactLose", fn := fun _ => fun
  | [d1, d2] => { results := [.lit (.bool false)], args := [d1, d2] }
  | _ => none }
def FnExactLoseWrongFalsely : Prop := fnExactLoseRow.holds Tryz.pinned (OpenSpec.ofChange fnExactLoseWrong)

/-- 'laws.FnExactTwice': WHATEVER THE INPUT: true; the input reads as it did. -/
def fnExactTwiceSpec : ChangeSpec := { name := "fnExactTwice", fn := fun _ => fun
  | [d1, d2] => { results := [.lit (.bool true)], args := [d1, d2] }
  | _ => none }
def fnExactTwiceRow : OpenClaim := { program := "yteffhdcankkfkaagreat", sum := "9d6740b13691a3850870616f3ac0e6635d534f0a3ece94bda0535b19287ae1e0", func := "loop.example/g00607/laws.FnExactTwice", spec := "fnExactTwice", inPlace := ["slices.overlaps[loop.example/g00607/impl.Back]"], unfollowed := true, recurses := true, apart := false }
def FnExactTwiceSaid : Prop := fnExactTwiceRow.holds Tryz.pinned (OpenSpec.ofChange fnExactTwiceSpec)

/-- ITS FALSE NEIGHBOUR: 'it returns false'. Refute it at one input. -/
def fnExactTwiceWrong : ChangeSpec := { name := "fnExactTwice", fn := fun _ => fun
  | [d1, d2] => { results := [.lit (.bool false)], args := [d1, d2] }
  | _ => none }
def FnExactTwiceWrongFalsely : Prop := fnExactTwiceRow.holds Tryz.pinned (OpenSpec.ofChange fnExactTwiceWrong)

/-- 'laws.FnExactSetLimit': WHATEVER THE INPUT: true; the input reads as it did. -/
def fnExactSetLimitSpec : ChangeSpec := { name := "fnExactSetLimit", fn := fun _ => fun
  | [d1, d2, d3] => { results := [.lit (.bool true)], args := [d1, d2, d3] }
  | _ => none }
def fnExactSetLimitRow : OpenClaim := { program := "yteffhdcankkfkaagreat", sum := "9d6740b13691a3850870616f3ac0e6635d534f0a3ece94bda0535b19287ae1e0", func := "loop.example/g00607/laws.FnExactSetLimit", spec := "fnExactSetLimit", inPlace := ["slices.overlaps[loop.example/g00607/impl.Back]"], unfollowed := true, recurses := true, apart := false }
def FnExactSetLimitSaid : Prop := fnExactSetLimitRow.holds Tryz.pinned (OpenSpec.ofChange fnExactSetLimitSpec)

/-- ITS FALSE NEIGHBOUR: 'it returns false'. Refute it at one input. -/
def fnExactSetLimitWrong : ChangeSpec := { name := "fnExactSetLimit", fn := fun _ => fun
  | [d1, d2, d3] => { results := [.lit (.bool false)], args := [d1, d2, d3] }
  | _ => none }
def FnExactSetLimitWrongFalsely : Prop := fnExactSetLimitRow.holds Tryz.pinned (OpenSpec.ofChange fnExactSetLimitWrong)

/-- 'laws.FnExactListed': WHATEVER THE INPUT: true; the input reads as it did. -/
def fnExactListedSpec : ChangeSpec := { name := "fnExactListed", fn := fun _ => fun
  | [d1, d2] => { results := [.lit (.bool true)], args := [d1, d2] }
  | _ => none }
def fnExactListedRow : OpenClaim := { program := "yteffhdcankkfkaagreat", sum := "9d6740b13691a3850870616f3ac0e6635d534f0a3ece94bda0535b19287ae1e0", func := "loop.example/g00607/laws.FnExactListed", spec := "fnExactListed", inPlace := ["slices.overlaps[loop.example/g00607/impl.Back]"], unfollowed := true, recurses := true, apart := false }
def FnExactListedSaid : Prop := fnExactListedRow.holds Tryz.pinned (OpenSpec.ofChange fnExactListedSpec)

/-- ITS FALSE NEIGHBOUR: 'it returns false'. Refute it at one input. -/
def fnExactListedWrong : ChangeSpec := { name := "fnExactListed", fn := fun _ => fun
  | [d1, d2] => { results := [.lit (.bool false)], args := [d1, d2] }
  | _ => none }
def FnExactListedWrongFalsely : Prop := fnExactListedRow.holds Tryz.pinned (OpenSpec.ofChange fnExactListedWrong)

/- THE SECOND FORM. 'bulk': how many values and letters a reading holds, each counted each time it is reached (what is shared counts as often as it is met; a slice's spare places count too). A statement '..UptoSaid' is the law's where the arguments, and the package variables that the reading takes, are together of bulk at most 1048576: NARROWER than '..Said'. Prove '..Said' where nothing that the law and all that it calls make is longer than what came in: it says more and counts as full. Else prove '..UptoSaid'. A law counts once. -/
mutual
def uptoBulk {H : Type} : DataW H → Nat
  | .lit (.string bytes) => bytes.length + 1
  | .lit _ => 1
  | .nil => 1
  | .ptr d => uptoBulk d + 1
  | .slice elems spare => uptoBulkAll elems + uptoBulkAll spare + 1
  | .agg parts => uptoBulkAll parts + 1
  | .iface _ d => uptoBulk d + 1
  | .map entries => uptoBulkEntries entries + 1
  | .held _ => 1
def uptoBulkAll {H : Type} : List (DataW H) → Nat
  | [] => 0
  | d :: r => uptoBulk d + uptoBulkAll r
def uptoBulkEntries {H : Type} : List (Lit × DataW H) → Nat
  | [] => 0
  | x :: r => uptoBulkEntry x + uptoBulkEntries r
def uptoBulkEntry {H : Type} : Lit × DataW H → Nat
  | (.string bytes, d) => bytes.length + uptoBulk d + 1
  | (_, d) => uptoBulk d + 1
 end
def uptoSmall : (H : Type) → List (DataW H) → Bool := fun _ ds => decide (uptoBulkAll ds ≤ 1048576)
def OpenSpec.upto (s : _root_.Go.ChangeSpec) : _root_.Go.OpenSpec := { _root_.Go.OpenSpec.ofChange s with cond := some uptoSmall }

/-- 'laws.FnExactClusterNew', WHERE WHAT IT READS IS OF BULK AT MOST 1048576: true; the input reads as it did. -/
def fnExactClusterNewUptoRow : OpenClaim := { program := "yteffhdcankkfkaagreat", sum := "9d6740b13691a3850870616f3ac0e6635d534f0a3ece94bda0535b19287ae1e0", func := "loop.example/g00607/laws.FnExactClusterNew", spec := "fnExactClusterNew", unfollowed := true, recurses := true, apart := false, narrowed := true }
def FnExactClusterNewUptoSaid : Prop := fnExactClusterNewUptoRow.holds Tryz.pinned (OpenSpec.upto fnExactClusterNewSpec)

/-- 'laws.FnExactLose', WHERE WHAT IT READS IS OF BULK AT MOST 1048576: true; the input reads as it did. -/
def fnExactLoseUptoRow : OpenClaim := { program := "yteffhdcankkfkaagreat", sum := "9d6740b13691a3850870616f3ac0e6635d534f0a3ece94bda0535b19287ae1e0", func := "loop.example/g00607/laws.FnExactLose", spec := "fnExactLose", inPlace := ["slices.overlaps[loop.example/g00607/impl.Back]"], unfollowed := true, recurses := true, apart := false, narrowed := true }
def FnExactLoseUptoSaid : Prop := fnExactLoseUptoRow.holds Tryz.pinned (OpenSpec.upto fnExactLoseSpec)

/-- 'laws.FnExactTwice', WHERE WHAT IT READS IS OF BULK AT MOST 1048576: true; the input reads as it did. -/
def fnExactTwiceUptoRow : OpenClaim := { program := "yteffhdcankkfkaagreat", sum := "9d6740b13691a3850870616f3ac0e6635d534f0a3ece94bda0535b19287ae1e0", func := "loop.example/g00607/laws.FnExactTwice", spec := "fnExactTwice", inPlace := ["slices.overlaps[loop.example/g00607/impl.Back]"], unfollowed := true, recurses := true, apart := false, narrowed := true }
def FnExactTwiceUptoSaid : Prop := fnExactTwiceUptoRow.holds Tryz.pinned (OpenSpec.upto fnExactTwiceSpec)

/-- 'laws.FnExactSetLimit', WHERE WHAT IT READS IS OF BULK AT MOST 1048576: true; the input reads as it did. -/
def fnExactSetLimitUptoRow : OpenClaim := { program := "yteffhdcankkfkaagreat", sum := "9d6740b13691a3850870616f3ac0e6635d534f0a3ece94bda0535b19287ae1e0", func := "loop.example/g00607/laws.FnExactSetLimit", spec := "fnExactSetLimit", inPlace := ["slices.overlaps[loop.example/g00607/impl.Back]"], unfollowed := true, recurses := true, apart := false, narrowed := true }
def FnExactSetLimitUptoSaid : Prop := fnExactSetLimitUptoRow.holds Tryz.pinned (OpenSpec.upto fnExactSetLimitSpec)

/-- 'laws.FnExactListed', WHERE WHAT IT READS IS OF BULK AT MOST 1048576: true; the input reads as it did. -/
def fnExactListedUptoRow : OpenClaim := { program := "yteffhdcankkfkaagreat", sum := "9d6740b13691a3850870616f3ac0e6635d534f0a3ece94bda0535b19287ae1e0", func := "loop.example/g00607/laws.FnExactListed", spec := "fnExactListed", inPlace := ["slices.overlaps[loop.example/g00607/impl.Back]"], unfollowed := true, recurses := true, apart := false, narrowed := true }
def FnExactListedUptoSaid : Prop := fnExactListedUptoRow.holds Tryz.pinned (OpenSpec.upto fnExactListedSpec)

end Rows
end Go.Proofs.YteffhdcankkfkaaGreat
