/-
  No cell of these rows narrows 'for every input' (looked for: loops, veiled, ifaces, maps, wideKeys, modest, calm, conditions, laid).
  DERIVED. THE GIVEN ROWS OF THIS SEAT. 16 by the template 'for every input the law returns true; each argument reads behind the call as it read before'; 0 by the template 'total and deterministic' (their statements: YtmmhgkkcpjhiiaaGreatTotals.lean).
  GIVEN WITH THE SEED: the statements are not yours to turn. If you find one false, say at which input.
  Laid BY PROGRAM, IN A SANDBOX (cutbox-rows.mjs): the forced cells as the released guide's own fill.sh prints them over the translation bf4c665a4692047d… (all of the seat's roots in one cut). By AI agents, Wed Nov 11 2026. No macro, syntax, notation, axiom, sorry.
-/
import Derived.Test.YtmmhgkkcpjhiiaaGreatChecked
import GoSem.Claim
import GoSem.ClaimJoined
import GoSem.ClaimMapViews
import Derived.JoinedTies
import Derived.KernelRfl
namespace Go.Proofs.YtmmhgkkcpjhiiaaGreat
/- THE CELL 'sum', in the pinned program and in every row, IS THE sha256 OF THE DUMP (.gsa) THAT YtmmhgkkcpjhiiaaGreatProg.lean LOADS. Nothing in Lean hashes anything: it is a label: what it is worth is what the hold of that sum in a sandbox is worth. -/
noncomputable def Tryz.pinned : Pinned := { name := "ytmmhgkkcpjhiiaagreat", sum := "bf4c665a4692047d5c53a377b614959ca2e08080d5e31dd24bba75ee46914c2a", checked := Tryz.checked }
namespace Rows
def none {H : Type} : Left H := { results := [], args := [] }

/-- 'laws.FnRoutes': WHATEVER THE INPUT: true; the input reads as it did. -/
def fnRoutesSpec : ChangeSpec := { name := "fnRoutes", fn := fun _ => fun
  | [d] => { results := [.lit (.bool true)], args := [d] }
  | _ => none }
def fnRoutesRow : OpenClaim := { program := "ytmmhgkkcpjhiiaagreat", sum := "bf4c665a4692047d5c53a377b614959ca2e08080d5e31dd24bba75ee46914c2a", func := "loop.example/g00607/laws.FnRoutes", spec := "fnRoutes", inPlace := ["slices.overlaps[loop.example/g00607/impl.Back]"], unfollowed := true, recurses := true, plainKeys := false, apart := false }
def FnRoutesSaid : Prop := fnRoutesRow.holds Tryz.pinned (OpenSpec.ofChange fnRoutesSpec)

/-- ITS FALSE NEIGHBOUR: 'it returns false'. Refute it at one input. -/
def fnRoutesWrong : ChangeSpec := { name := "fnRoutes", fn := fun _ => fun
  | [d] => { results := [.lit (.bool false)], args := [d] }
  | _ => none }
def FnRoutesWrongFalsely : Prop := fnRoutesRow.holds Tryz.pinned (OpenSpec.ofChange fnRoutesWrong)

/-- 'laws.FnSends': WHATEVER THE INPUT: true; the input reads as it did. -/
def fnSendsSpec : ChangeSpec := { name := "fnSends", fn := fun _ => fun
  | [d] => { results := [.lit (.bool true)], args := [d] }
  | _ => none }
def fnSendsRow : OpenClaim := { program := "ytmmhgkkcpjhiiaagreat", sum := "bf4c665a4692047d5c53a377b614959ca2e08080d5e31dd24bba75ee46914c2a", func := "loop.example/g00607/laws.FnSends", spec := "fnSends", inPlace := ["slices.overlaps[loop.example/g00607/impl.Back]"], unfollowed := true, recurses := true, plainKeys := false, apart := false }
def FnSendsSaid : Prop := fnSendsRow.holds Tryz.pinned (OpenSpec.ofChange fnSendsSpec)

/-- ITS FALSE NEIGHBOUR: 'it returns false'. Refute it at one input. -/
def fnSendsWrong : ChangeSpec := { name := "fnSends", fn := fun _ => fun
  | [d] => { results := [.lit (.bool false)], args := [d] }
  | _ => none }
def FnSendsWrongFalsely : Prop := fnSendsRow.holds Tryz.pinned (OpenSpec.ofChange fnSendsWrong)

/-- 'laws.FnLearns': WHATEVER THE INPUT: true; the input reads as it did. -/
def fnLearnsSpec : ChangeSpec := { name := "fnLearns", fn := fun _ => fun
  | [d] => { results := [.lit (.bool true)], args := [d] }
  | _ => none }
def fnLearnsRow : OpenClaim := { program := "ytmmhgkkcpjhiiaagreat", sum := "bf4c665a4692047d5c53a377b614959ca2e08080d5e31dd24bba75ee46914c2a", func := "loop.example/g00607/laws.FnLearns", spec := "fnLearns", inPlace := ["slices.overlaps[loop.example/g00607/impl.Back]"], unfollowed := true, recurses := true, plainKeys := false, apart := false }
def FnLearnsSaid : Prop := fnLearnsRow.holds Tryz.pinned (OpenSpec.ofChange fnLearnsSpec)

/-- ITS FALSE NEIGHBOUR: 'it returns false'. Refute it at one input. -/
def fnLearnsWrong : ChangeSpec := { name := "fnLearns", fn := fun _ => fun
  | [d] => { results := [.lit (.bool false)], args := [d] }
  | _ => none }
def FnLearnsWrongFalsely : Prop := fnLearnsRow.holds Tryz.pinned (OpenSpec.ofChange fnLearnsWrong)

/-- 'laws.FnCrashes': WHATEVER THE INPUT: true; the input reads as it did. -/
def fnCrashesSpec : ChangeSpec := { name := "fnCrashes", fn := fun _ => fun
  | [d] => { results := [.lit (.bool true)], args := [d] }
  | _ => none }
def fnCrashesRow : OpenClaim := { program := "ytmmhgkkcpjhiiaagreat", sum := "bf4c665a4692047d5c53a377b614959ca2e08080d5e31dd24bba75ee46914c2a", func := "loop.example/g00607/laws.FnCrashes", spec := "fnCrashes", inPlace := ["slices.overlaps[loop.example/g00607/impl.Back]"], unfollowed := true, recurses := true, plainKeys := false, apart := false }
def FnCrashesSaid : Prop := fnCrashesRow.holds Tryz.pinned (OpenSpec.ofChange fnCrashesSpec)

/-- ITS FALSE NEIGHBOUR: 'it returns false'. Refute it at one input. -/
def fnCrashesWrong : ChangeSpec := { name := "fnCrashes", fn := fun _ => fun
  | [d] => { results := [.lit (.bool false)], args := [d] }
  | _ => none }
def FnCrashesWrongFalsely : Prop := fnCrashesRow.holds Tryz.pinned (OpenSpec.ofChange fnCrashesWrong)

/-- 'laws.FnExactLearn': WHATEVER THE INPUT: true; the input reads as it did. -/
def fnExactLearnSpec : ChangeSpec := { name := "fnExactLearn", fn := fun _ => fun
  | [d1, d2, d3, d4] => { results := [.lit (.bool true)], args := [d1, d2, d3, d4] }
  | _ => none }
def fnExactLearnRow : OpenClaim := { program := "ytmmhgkkcpjhiiaagreat", sum := "bf4c665a4692047d5c53a377b614959ca2e08080d5e31dd24bba75ee46914c2a", func := "loop.example/g00607/laws.FnExactLearn", spec := "fnExactLearn", inPlace := ["slices.overlaps[loop.example/g00607/impl.Back]"], unfollowed := true, recurses := true, plainKeys := false, apart := false }
def FnExactLearnSaid : Prop := fnExactLearnRow.holds Tryz.pinned (OpenSpec.ofChange fnExactLearnSpec)

/-- ITS FALSE NEIGHBOUR: 'it returns false'. Refute it at one input. -/
def fnExactLearnWrong : ChangeSpec := { name := "fnExactLearn", fn := fun _ => fun
  | [d1, d2, d3, d4] => { results := [.lit (.bool false)], args := [d1, d2, d3, d4] }
  | _ => none }
def FnExactLearnWrongFalsely : Prop := fnExactLearnRow.holds Tryz.pinned (OpenSpec.ofChange fnExactLearnWrong)

/-- 'laws.FnExactBalTick': WHATEVER THE INPUT: true; the input reads as it did. -/
def fnExactBalTickSpec : ChangeSpec := { name := "fnExactBalTick", fn := fun _ => fun
  | [d1, d2] => { results := [.lit (.bool true)], args := [d1, d2] }
  | _ => none }
def fnExactBalTickRow : OpenClaim := { program := "ytmmhgkkcpjhiiaagreat", sum := "bf4c665a4692047d5c53a377b614959ca2e08080d5e31dd24bba75ee46914c2a", func := "loop.example/g00607/laws.FnExactBalTick", spec := "fnExactBalTick", inPlace := ["slices.overlaps[loop.example/g00607/impl.Back]"], unfollowed := true, recurses := true, plainKeys := false, apart := false }
def FnExactBalTickSaid : Prop := fnExactBalTickRow.holds Tryz.pinned (OpenSpec.ofChange fnExactBalTickSpec)

/-- ITS FALSE NEIGHBOUR: 'it returns false'. Refute it at one input. -/
def fnExactBalTickWrong : ChangeSpec := { name := "fnExactBalTick", fn := fun _ => fun
  | [d1, d2] => { results := [.lit (.bool false)], args := [d1, d2] }
  | _ => none }
def FnExactBalTickWrongFalsely : Prop := fnExactBalTickRow.holds Tryz.pinned (OpenSpec.ofChange fnExactBalTickWrong)

/-- 'laws.FnExactClusterOk': WHATEVER THE INPUT: true; the input reads as it did. -/
def fnExactClusterOkSpec : ChangeSpec := { name := "fnExactClusterOk", fn := fun _ => fun
  | [d] => { results := [.lit (.bool true)], args := [d] }
  | _ => none }
def fnExactClusterOkRow : OpenClaim := { program := "ytmmhgkkcpjhiiaagreat", sum := "bf4c665a4692047d5c53a377b614959ca2e08080d5e31dd24bba75ee46914c2a", func := "loop.example/g00607/laws.FnExactClusterOk", spec := "fnExactClusterOk", inPlace := ["slices.overlaps[loop.example/g00607/impl.Back]"], unfollowed := true, recurses := true, plainKeys := false, apart := false }
def FnExactClusterOkSaid : Prop := fnExactClusterOkRow.holds Tryz.pinned (OpenSpec.ofChange fnExactClusterOkSpec)

/-- ITS FALSE NEIGHBOUR: 'it returns false'. Refute it at one input. -/
def fnExactClusterOkWrong : ChangeSpec := { name := "fnExactClusterOk", fn := fun _ => fun
  | [d] => { results := [.lit (.bool false)], args := [d] }
  | _ => none }
def FnExactClusterOkWrongFalsely : Prop := fnExactClusterOkRow.holds Tryz.pinned (OpenSpec.ofChange fnExactClusterOkWrong)

/-- 'laws.FnExactClusterNew': WHATEVER THE INPUT: true; the input reads as it did. -/
def fnExactClusterNewSpec : ChangeSpec := { name := "fnExactClusterNew", fn := fun _ => fun
  | [d1, d2, d3] => { results := [.lit (.bool true)], args := [d1, d2, d3] }
  | _ => none }
def fnExactClusterNewRow : OpenClaim := { program := "ytmmhgkkcpjhiiaagreat", sum := "bf4c665a4692047d5c53a377b614959ca2e08080d5e31dd24bba75ee46914c2a", func := "loop.example/g00607/laws.FnExactClusterNew", spec := "fnExactClusterNew", unfollowed := true, recurses := true, plainKeys := false, apart := false }
def FnExactClusterNewSaid : Prop := fnExactClusterNewRow.holds Tryz.pinned (OpenSpec.ofChange fnExactClusterNewSpec)

/-- ITS FALSE NEIGHBOUR: 'it returns false'. Refute it at one input. -/
def fnExactClusterNewWrong : ChangeSpec := { name := "fnExactClusterNew", fn := fun _ => fun
  | [d1, d2, d3] => { results := [.lit (.bool false)], args := [d1, d2, d3] }
  | _ => none }
def FnExactClusterNewWrongFalsely : Prop := fnExactClusterNewRow.holds Tryz.pinned (OpenSpec.ofChange fnExactClusterNewWrong)

/-- 'laws.FnExactClient': WHATEVER THE INPUT: true; the input reads as it did. -/
def fnExactClientSpec : ChangeSpec := { name := "fnExactClient", fn := fun _ => fun
  | [d1, d2] => { results := [.lit (.bool true)], args := [d1, d2] }
  | _ => none }
def fnExactClientRow : OpenClaim := { program := "ytmmhgkkcpjhiiaagreat", sum := "bf4c665a4692047d5c53a377b614959ca2e08080d5e31dd24bba75ee46914c2a", func := "loop.example/g00607/laws.FnExactClient", spec := "fnExactClient", inPlace := ["slices.overlaps[loop.example/g00607/impl.Back]"], unfollowed := true, recurses := true, plainKeys := false, apart := false }
def FnExactClientSaid : Prop := fnExactClientRow.holds Tryz.pinned (OpenSpec.ofChange fnExactClientSpec)

/-- ITS FALSE NEIGHBOUR: 'it returns false'. Refute it at one input. -/
def fnExactClientWrong : ChangeSpec := { name := "fnExactClient", fn := fun _ => fun
  | [d1, d2] => { results := [.lit (.bool false)], args := [d1, d2] }
  | _ => none }
def FnExactClientWrongFalsely : Prop := fnExactClientRow.holds Tryz.pinned (OpenSpec.ofChange fnExactClientWrong)

/-- 'laws.FnExactDeliver': WHATEVER THE INPUT: true; the input reads as it did. -/
def fnExactDeliverSpec : ChangeSpec := { name := "fnExactDeliver", fn := fun _ => fun
  | [d1, d2] => { results := [.lit (.bool true)], args := [d1, d2] }
  | _ => none }
def fnExactDeliverRow : OpenClaim := { program := "ytmmhgkkcpjhiiaagreat", sum := "bf4c665a4692047d5c53a377b614959ca2e08080d5e31dd24bba75ee46914c2a", func := "loop.example/g00607/laws.FnExactDeliver", spec := "fnExactDeliver", inPlace := ["slices.overlaps[loop.example/g00607/impl.Back]"], unfollowed := true, recurses := true, plainKeys := false, apart := false }
def FnExactDeliverSaid : Prop := fnExactDeliverRow.holds Tryz.pinned (OpenSpec.ofChange fnExactDeliverSpec)

/-- ITS FALSE NEIGHBOUR: 'it returns false'. Refute it at one input. -/
def fnExactDeliverWrong : ChangeSpec := { name := "fnExactDeliver", fn := fun _ => fun
  | [d1, d2] => { results := [.lit (.bool false)], args := [d1, d2] }
  | _ => none }
def FnExactDeliverWrongFalsely : Prop := fnExactDeliverRow.holds Tryz.pinned (OpenSpec.ofChange fnExactDeliverWrong)

/-- 'laws.FnExactLose': WHATEVER THE INPUT: true; the input reads as it did. -/
def fnExactLoseSpec : ChangeSpec := { name := "fnExactLose", fn := fun _ => fun
  | [d1, d2] => { results := [.lit (.bool true)], args := [d1, d2] }
  | _ => none }
def fnExactLoseRow : OpenClaim := { program := "ytmmhgkkcpjhiiaagreat", sum := "bf4c665a4692047d5c53a377b614959ca2e08080d5e31dd24bba75ee46914c2a", func := "loop.example/g00607/laws.FnExactLose", spec := "fnExactLose", inPlace := ["slices.overlaps[loop.example/g00607/impl.Back]"], unfollowed := true, recurses := true, plainKeys := false, apart := false }
def FnExactLoseSaid : Prop := fnExactLoseRow.holds Tryz.pinned (OpenSpec.ofChange fnExactLoseSpec)

/-- ITS FALSE NEIGHBOUR: 'it returns false'. Refute it at one input. -/
def fnExactLoseWrong : ChangeSpec := { name := "fnExactLose", fn := fun _ => fun
  | [d1, d2] => { results := [.lit (.bool false)], args := [d1, d2] }
  | _ => none }
def FnExactLoseWrongFalsely : Prop := fnExactLoseRow.holds Tryz.pinned (OpenSpec.ofChange fnExactLoseWrong)

/-- 'laws.FnExactTwice': WHATEVER THE INPUT: true; the input reads as it did. -/
def fnExactTwiceSpec : ChangeSpec := { name := "fnExactTwice", fn := fun _ => fun
  | [d1, d2] => { results := [.lit (.bool true)], args := [d1, d2] }
  | _ => none }
def fnExactTwiceRow : OpenClaim := { program := "ytmmhgkkcpjhiiaagreat", sum := "bf4c665a4692047d5c53a377b614959ca2e08080d5e31dd24bba75ee46914c2a", func := "loop.example/g00607/laws.FnExactTwice", spec := "fnExactTwice", inPlace := ["slices.overlaps[loop.example/g00607/impl.Back]"], unfollowed := true, recurses := true, plainKeys := false, apart := false }
def FnExactTwiceSaid : Prop := fnExactTwiceRow.holds Tryz.pinned (OpenSpec.ofChange fnExactTwiceSpec)

/-- ITS FALSE NEIGHBOUR: 'it returns false'. Refute it at one input. -/
def fnExactTwiceWrong : ChangeSpec := { name := "fnExactTwice", fn := fun _ => fun
  | [d1, d2] => { results := [.lit (.bool false)], args := [d1, d2] }
  | _ => none }
def FnExactTwiceWrongFalsely : Prop := fnExactTwiceRow.holds Tryz.pinned (OpenSpec.ofChange fnExactTwiceWrong)

/-- 'laws.FnExactTick': WHATEVER THE INPUT: true; the input reads as it did. -/
def fnExactTickSpec : ChangeSpec := { name := "fnExactTick", fn := fun _ => fun
  | [d] => { results := [.lit (.bool true)], args := [d] }
  | _ => none }
def fnExactTickRow : OpenClaim := { program := "ytmmhgkkcpjhiiaagreat", sum := "bf4c665a4692047d5c53a377b614959ca2e08080d5e31dd24bba75ee46914c2a", func := "loop.example/g00607/laws.FnExactTick", spec := "fnExactTick", inPlace := ["slices.overlaps[loop.example/g00607/impl.Back]"], unfollowed := true, recurses := true, plainKeys := false, apart := false }
def FnExactTickSaid : Prop := fnExactTickRow.holds Tryz.pinned (OpenSpec.ofChange fnExactTickSpec)

/-- ITS FALSE NEIGHBOUR: 'it returns false'. Refute it at one input. -/
def fnExactTickWrong : ChangeSpec := { name := "fnExactTick", fn := fun _ => fun
  | [d] => { results := [.lit (.bool false)], args := [d] }
  | _ => none }
def FnExactTickWrongFalsely : Prop := fnExactTickRow.holds Tryz.pinned (OpenSpec.ofChange fnExactTickWrong)

/-- 'laws.FnExactCommand': WHATEVER THE INPUT: true; the input reads as it did. -/
def fnExactCommandSpec : ChangeSpec := { name := "fnExactCommand", fn := fun _ => fun
  | [d1, d2] => { results := [.lit (.bool true)], args := [d1, d2] }
  | _ => none }
def fnExactCommandRow : OpenClaim := { program := "ytmmhgkkcpjhiiaagreat", sum := "bf4c665a4692047d5c53a377b614959ca2e08080d5e31dd24bba75ee46914c2a", func := "loop.example/g00607/laws.FnExactCommand", spec := "fnExactCommand", inPlace := ["slices.overlaps[loop.example/g00607/impl.Back]"], unfollowed := true, recurses := true, plainKeys := false, apart := false }
def FnExactCommandSaid : Prop := fnExactCommandRow.holds Tryz.pinned (OpenSpec.ofChange fnExactCommandSpec)

/-- ITS FALSE NEIGHBOUR: 'it returns false'. Refute it at one input. -/
def fnExactCommandWrong : ChangeSpec := { name := "fnExactCommand", fn := fun _ => fun
  | [d1, d2] => { results := [.lit (.bool false)], args := [d1, d2] }
  | _ => none }
def FnExactCommandWrongFalsely : Prop := fnExactCommandRow.holds Tryz.pinned (OpenSpec.ofChange fnExactCommandWrong)

/-- 'laws.FnExactRestart': WHATEVER THE INPUT: true; the input reads as it did. -/
def fnExactRestartSpec : ChangeSpec := { name := "fnExactRestart", fn := fun _ => fun
  | [d1, d2] => { results := [.lit (.bool true)], args := [d1, d2] }
  | _ => none }
def fnExactRestartRow : OpenClaim := { program := "ytmmhgkkcpjhiiaagreat", sum := "bf4c665a4692047d5c53a377b614959ca2e08080d5e31dd24bba75ee46914c2a", func := "loop.example/g00607/laws.FnExactRestart", spec := "fnExactRestart", inPlace := ["slices.overlaps[loop.example/g00607/impl.Back]"], unfollowed := true, recurses := true, plainKeys := false, apart := false }
def FnExactRestartSaid : Prop := fnExactRestartRow.holds Tryz.pinned (OpenSpec.ofChange fnExactRestartSpec)

/-- ITS FALSE NEIGHBOUR: 'it returns false'. Refute it at one input. -/
def fnExactRestartWrong : ChangeSpec := { name := "fnExactRestart", fn := fun _ => fun
  | [d1, d2] => { results := [.lit (.bool false)], args := [d1, d2] }
  | _ => none }
def FnExactRestartWrongFalsely : Prop := fnExactRestartRow.holds Tryz.pinned (OpenSpec.ofChange fnExactRestartWrong)

/-- 'laws.FnExactSetLimit': WHATEVER THE INPUT: true; the input reads as it did. -/
def fnExactSetLimitSpec : ChangeSpec := { name := "fnExactSetLimit", fn := fun _ => fun
  | [d1, d2, d3] => { results := [.lit (.bool true)], args := [d1, d2, d3] }
  | _ => none }
def fnExactSetLimitRow : OpenClaim := { program := "ytmmhgkkcpjhiiaagreat", sum := "bf4c665a4692047d5c53a377b614959ca2e08080d5e31dd24bba75ee46914c2a", func := "loop.example/g00607/laws.FnExactSetLimit", spec := "fnExactSetLimit", inPlace := ["slices.overlaps[loop.example/g00607/impl.Back]"], unfollowed := true, recurses := true, plainKeys := false, apart := false }
def FnExactSetLimitSaid : Prop := fnExactSetLimitRow.holds Tryz.pinned (OpenSpec.ofChange fnExactSetLimitSpec)

/-- ITS FALSE NEIGHBOUR: 'it returns false'. Refute it at one input. -/
def fnExactSetLimitWrong : ChangeSpec := { name := "fnExactSetLimit", fn := fun _ => fun
  | [d1, d2, d3] => { results := [.lit (.bool false)], args := [d1, d2, d3] }
  | _ => none }
def FnExactSetLimitWrongFalsely : Prop := fnExactSetLimitRow.holds Tryz.pinned (OpenSpec.ofChange fnExactSetLimitWrong)

/- THE SECOND FORM. 'bulk': how many values and letters a reading holds, each counted each time it is reached (what is shared counts as often as it is met; a slice's spare places count too). A statement '..UptoSaid' is the law's where the arguments, and the package variables that the reading takes, are together of bulk at most 1048576: NARROWER than '..Said'. Prove '..Said' where nothing that the law and all that it calls make is longer than what came in: it says more and counts as full. Else prove '..UptoSaid'. A law counts once. -/
mutual
def uptoBulk {H : Type} : DataW H → Nat
  | .lit (.string bytes) => bytes.length + 1
  | .lit _ => 1
  | .nil => 1
  | .ptr d => uptoBulk d + 1
  | .slice elems spare => uptoBulkAll elems + uptoBulkAll spare + 1
  | .agg parts => uptoBulkAll parts + 1
  | .iface _ d => uptoBulk d + 1
  | .map entries => uptoBulkEntries entries + 1
  | .held _ => 1
def uptoBulkAll {H : Type} : List (DataW H) → Nat
  | [] => 0
  | d :: r => uptoBulk d + uptoBulkAll r
def uptoBulkEntries {H : Type} : List (Lit × DataW H) → Nat
  | [] => 0
  | x :: r => uptoBulkEntry x + uptoBulkEntries r
def uptoBulkEntry {H : Type} : Lit × DataW H → Nat
  | (.string bytes, d) => bytes.length + uptoBulk d + 1
  | (_, d) => uptoBulk d + 1
 end
def uptoSmall : (H : Type) → List (DataW H) → Bool := fun _ ds => decide (uptoBulkAll ds ≤ 1048576)
def OpenSpec.upto (s : _root_.Go.ChangeSpec) : _root_.Go.OpenSpec := { _root_.Go.OpenSpec.ofChange s with cond := some uptoSmall }

/-- 'laws.FnRoutes', WHERE WHAT IT READS IS OF BULK AT MOST 1048576: true; the input reads as it did. -/
def fnRoutesUptoRow : OpenClaim := { program := "ytmmhgkkcpjhiiaagreat", sum := "bf4c665a4692047d5c53a377b614959ca2e08080d5e31dd24bba75ee46914c2a", func := "loop.example/g00607/laws.FnRoutes", spec := "fnRoutes", inPlace := ["slices.overlaps[loop.example/g00607/impl.Back]"], unfollowed := true, recurses := true, plainKeys := false, apart := false, narrowed := true }
def FnRoutesUptoSaid : Prop := fnRoutesUptoRow.holds Tryz.pinned (OpenSpec.upto fnRoutesSpec)

/-- 'laws.FnSends', WHERE WHAT IT READS IS OF BULK AT MOST 1048576: true; the input reads as it did. -/
def fnSendsUptoRow : OpenClaim := { program := "ytmmhgkkcpjhiiaagreat", sum := "bf4c665a4692047d5c53a377b614959ca2e08080d5e31dd24bba75ee46914c2a", func := "loop.example/g00607/laws.FnSends", spec := "fnSends", inPlace := ["slices.overlaps[loop.example/g00607/impl.Back]"], unfollowed := true, recurses := true, plainKeys := false, apart := false, narrowed := true }
def FnSendsUptoSaid : Prop := fnSendsUptoRow.holds Tryz.pinned (OpenSpec.upto fnSendsSpec)

/-- 'laws.FnLearns', WHERE WHAT IT READS IS OF BULK AT MOST 1048576: true; the input reads as it did. -/
def fnLearnsUptoRow : OpenClaim := { program := "ytmmhgkkcpjhiiaagreat", sum := "bf4c665a4692047d5c53a377b614959ca2e08080d5e31dd24bba75ee46914c2a", func := "loop.example/g00607/laws.FnLearns", spec := "fnLearns", inPlace := ["slices.overlaps[loop.example/g00607/impl.Back]"], unfollowed := true, recurses := true, plainKeys := false, apart := false, narrowed := true }
def FnLearnsUptoSaid : Prop := fnLearnsUptoRow.holds Tryz.pinned (OpenSpec.upto fnLearnsSpec)

/-- 'laws.FnCrashes', WHERE WHAT IT READS IS OF BULK AT MOST 1048576: true; the input reads as it did. -/
def fnCrashesUptoRow : OpenClaim := { program := "ytmmhgkkcpjhiiaagreat", sum := "bf4c665a4692047d5c53a377b614959ca2e08080d5e31dd24bba75ee46914c2a", func := "loop.example/g00607/laws.FnCrashes", spec := "fnCrashes", inPlace := ["slices.overlaps[loop.example/g00607/impl.Back]"], unfollowed := true, recurses := true, plainKeys := false, apart := false, narrowed := true }
def FnCrashesUptoSaid : Prop := fnCrashesUptoRow.holds Tryz.pinned (OpenSpec.upto fnCrashesSpec)

/-- 'laws.FnExactLearn', WHERE WHAT IT READS IS OF BULK AT MOST 1048576: true; the input reads as it did. -/
def fnExactLearnUptoRow : OpenClaim := { program := "ytmmhgkkcpjhiiaagreat", sum := "bf4c665a4692047d5c53a377b614959ca2e08080d5e31dd24bba75ee46914c2a", func := "loop.example/g00607/laws.FnExactLearn", spec := "fnExactLearn", inPlace := ["slices.overlaps[loop.example/g00607/impl.Back]"], unfollowed := true, recurses := true, plainKeys := false, apart := false, narrowed := true }
def FnExactLearnUptoSaid : Prop := fnExactLearnUptoRow.holds Tryz.pinned (OpenSpec.upto fnExactLearnSpec)

/-- 'laws.FnExactBalTick', WHERE WHAT IT READS IS OF BULK AT MOST 1048576: true; the input reads as it did. -/
def fnExactBalTickUptoRow : OpenClaim := { program := "ytmmhgkkcpjhiiaagreat", sum := "bf4c665a4692047d5c53a377b614959ca2e08080d5e31dd24bba75ee46914c2a", func := "loop.example/g00607/laws.FnExactBalTick", spec := "fnExactBalTick", inPlace := ["slices.overlaps[loop.example/g00607/impl.Back]"], unfollowed := true, recurses := true, plainKeys := false, apart := false, narrowed := true }
def FnExactBalTickUptoSaid : Prop := fnExactBalTickUptoRow.holds Tryz.pinned (OpenSpec.upto fnExactBalTickSpec)

/-- 'laws.FnExactClusterOk', WHERE WHAT IT READS IS OF BULK AT MOST 1048576: true; the input reads as it did. -/
def fnExactClusterOkUptoRow : OpenClaim := { program := "ytmmhgkkcpjhiiaagreat", sum := "bf4c665a4692047d5c53a377b614959ca2e08080d5e31dd24bba75ee46914c2a", func := "loop.example/g00607/laws.FnExactClusterOk", spec := "fnExactClusterOk", inPlace := ["slices.overlaps[loop.example/g00607/impl.Back]"], unfollowed := true, recurses := true, plainKeys := false, apart := false, narrowed := true }
def FnExactClusterOkUptoSaid : Prop := fnExactClusterOkUptoRow.holds Tryz.pinned (OpenSpec.upto fnExactClusterOkSpec)

/-- 'laws.FnExactClusterNew', WHERE WHAT IT READS IS OF BULK AT MOST 1048576: true; the input reads as it did. -/
def fnExactClusterNewUptoRow : OpenClaim := { program := "ytmmhgkkcpjhiiaagreat", sum := "bf4c665a4692047d5c53a377b614959ca2e08080d5e31dd24bba75ee46914c2a", func := "loop.example/g00607/laws.FnExactClusterNew", spec := "fnExactClusterNew", unfollowed := true, recurses := true, plainKeys := false, apart := false, narrowed := true }
def FnExactClusterNewUptoSaid : Prop := fnExactClusterNewUptoRow.holds Tryz.pinned (OpenSpec.upto fnExactClusterNewSpec)

/-- 'laws.FnExactClient', WHERE WHAT IT READS IS OF BULK AT MOST 1048576: true; the input reads as it did. -/
def fnExactClientUptoRow : OpenClaim := { program := "ytmmhgkkcpjhiiaagreat", sum := "bf4c665a4692047d5c53a377b614959ca2e08080d5e31dd24bba75ee46914c2a", func := "loop.example/g00607/laws.FnExactClient", spec := "fnExactClient", inPlace := ["slices.overlaps[loop.example/g00607/impl.Back]"], unfollowed := true, recurses := true, plainKeys := false, apart := false, narrowed := true }
def FnExactClientUptoSaid : Prop := fnExactClientUptoRow.holds Tryz.pinned (OpenSpec.upto fnExactClientSpec)

/-- 'laws.FnExactDeliver', WHERE WHAT IT READS IS OF BULK AT MOST 1048576: true; the input reads as it did. -/
def fnExactDeliverUptoRow : OpenClaim := { program := "ytmmhgkkcpjhiiaagreat", sum := "bf4c665a4692047d5c53a377b614959ca2e08080d5e31dd24bba75ee46914c2a", func := "loop.example/g00607/laws.FnExactDeliver", spec := "fnExactDeliver", inPlace := ["slices.overlaps[loop.example/g00607/impl.Back]"], unfollowed := true, recurses := true, plainKeys := false, apart := false, narrowed := true }
def FnExactDeliverUptoSaid : Prop := fnExactDeliverUptoRow.holds Tryz.pinned (OpenSpec.upto fnExactDeliverSpec)

/-- 'laws.FnExactLose', WHERE WHAT IT READS IS OF BULK AT MOST 1048576: true; the input reads as it did. -/
def fnExactLoseUptoRow : OpenClaim := { program := "ytmmhgkkcpjhiiaagreat", sum := "bf4c665a4692047d5c53a377b614959ca2e08080d5e31dd24bba75ee46914c2a", func := "loop.example/g00607/laws.FnExactLose", spec := "fnExactLose", inPlace := ["slices.overlaps[loop.example/g00607/impl.Back]"], unfollowed := true, recurses := true, plainKeys := false, apart := false, narrowed := true }
def FnExactLoseUptoSaid : Prop := fnExactLoseUptoRow.holds Tryz.pinned (OpenSpec.upto fnExactLoseSpec)

/-- 'laws.FnExactTwice', WHERE WHAT IT READS IS OF BULK AT MOST 1048576: true; the input reads as it did. -/
def fnExactTwiceUptoRow : OpenClaim := { program := "ytmmhgkkcpjhiiaagreat", sum := "bf4c665a4692047d5c53a377b614959ca2e08080d5e31dd24bba75ee46914c2a", func := "loop.example/g00607/laws.FnExactTwice", spec := "fnExactTwice", inPlace := ["slices.overlaps[loop.example/g00607/impl.Back]"], unfollowed := true, recurses := true, plainKeys := false, apart := false, narrowed := true }
def FnExactTwiceUptoSaid : Prop := fnExactTwiceUptoRow.holds Tryz.pinned (OpenSpec.upto fnExactTwiceSpec)

/-- 'laws.FnExactTick', WHERE WHAT IT READS IS OF BULK AT MOST 1048576: true; the input reads as it did. -/
def fnExactTickUptoRow : OpenClaim := { program := "ytmmhgkkcpjhiiaagreat", sum := "bf4c665a4692047d5c53a377b614959ca2e08080d5e31dd24bba75ee46914c2a", func := "loop.example/g00607/laws.FnExactTick", spec := "fnExactTick", inPlace := ["slices.overlaps[loop.example/g00607/impl.Back]"], unfollowed := true, recurses := true, plainKeys := false, apart := false, narrowed := true }
def FnExactTickUptoSaid : Prop := fnExactTickUptoRow.holds Tryz.pinned (OpenSpec.upto fnExactTickSpec)

/-- 'laws.FnExactCommand', WHERE WHAT IT READS IS OF BULK AT MOST 1048576: true; the input reads as it did. -/
def fnExactCommandUptoRow : OpenClaim := { program := "ytmmhgkkcpjhiiaagreat", sum := "bf4c665a4692047d5c53a377b614959ca2e08080d5e31dd24bba75ee46914c2a", func := "loop.example/g00607/laws.FnExactCommand", spec := "fnExactCommand", inPlace := ["slices.overlaps[loop.example/g00607/impl.Back]"], unfollowed := true, recurses := true, plainKeys := false, apart := false, narrowed := true }
def FnExactCommandUptoSaid : Prop := fnExactCommandUptoRow.holds Tryz.pinned (OpenSpec.upto fnExactCommandSpec)

/-- 'laws.FnExactRestart', WHERE WHAT IT READS IS OF BULK AT MOST 1048576: true; the input reads as it did. -/
def fnExactRestartUptoRow : OpenClaim := { program := "ytmmhgkkcpjhiiaagreat", sum := "bf4c665a4692047d5c53a377b614959ca2e08080d5e31dd24bba75ee46914c2a", func := "loop.example/g00607/laws.FnExactRestart", spec := "fnExactRestart", inPlace := ["slices.overlaps[loop.example/g00607/impl.Back]"], unfollowed := true, recurses := true, plainKeys := false, apart := false, narrowed := true }
def FnExactRestartUptoSaid : Prop := fnExactRestartUptoRow.holds Tryz.pinned (OpenSpec.upto fnExactRestartSpec)

/-- 'laws.FnExactSetLimit', WHERE WHAT IT READS IS OF BULK AT MOST 1048576: true; the input reads as it did. -/
def fnExactSetLimitUptoRow : OpenClaim := { program := "ytmmhgkkcpjhiiaagreat", sum := "bf4c665a4692047d5c53a377b614959ca2e08080d5e31dd24bba75ee46914c2a", func := "loop.example/g00607/laws.FnExactSetLimit", spec := "fnExactSetLimit", inPlace := ["slices.overlaps[loop.example/g00607/impl.Back]"], unfollowed := true, recurses := true, plainKeys := false, apart := false, narrowed := true }
def FnExactSetLimitUptoSaid : Prop := fnExactSetLimitUptoRow.holds Tryz.pinned (OpenSpec.upto fnExactSetLimitSpec)

end Rows
end Go.Proofs.YtmmhgkkcpjhiiaaGreat
