/-
  No cell of these rows narrows 'for every input' (looked for: loops, veiled, ifaces, maps, wideKeys, modest, calm, conditions, laid).
  DERIVED. THE GIVEN ROWS OF THIS SEAT. 4 by the template 'for every input the law returns true; each argument reads behind the call as it read before'; 0 by the template 'total and deterministic' (their statements: YtpneolgdghbinaaGreatTotals.lean).
  GIVEN WITH THE SEED: the statements are not yours to turn. If you find one false, say at which input.
  Laid BY PROGRAM, IN A SANDBOX (cutbox-rows.mjs): the forced cells as the released guide's own fill.sh prints them over the translation 6de33f09c52c5404… (all of the seat's roots in one cut). By AI agents, Wed Nov 11 2026. No macro, syntax, notation, axiom, sorry.
-/
import Derived.Test.YtpneolgdghbinaaGreatChecked
import GoSem.Claim
import GoSem.ClaimJoined
import GoSem.ClaimMapViews
import Derived.JoinedTies
import Derived.KernelRfl
namespace Go.Proofs.YtpneolgdghbinaaGreat
/- THE CELL 'sum', in the pinned program and in every row, IS THE sha256 OF THE DUMP (.gsa) THAT YtpneolgdghbinaaGreatProg.lean LOADS. Nothing in Lean hashes anything: it is a label: what it is worth is what the hold of that sum in a sandbox is worth. -/
noncomputable def Tryz.pinned : Pinned := { name := "ytpneolgdghbinaagreat", sum := "6de33f09c52c54042bd9ab6535e68df59af59a8b23748753e2e866f38acfb98b", checked := Tryz.checked }
namespace Rows
def none {H : Type} : Left H := { results := [], args := [] }

/-- 'laws.FnRoutes': WHATEVER THE INPUT: true; the input reads as it did. -/
def fnRoutesSpec : ChangeSpec := { name := "fnRoutes", fn := fun _ => fun
  | [d] => { results := [.lit (.bool true)], args := [d] }
  | _ => none }
def fnRoutesRow : OpenClaim := { program := "ytpneolgdghbinaagreat", sum := "6de33f09c52c54042bd9ab6535e68df59af59a8b23748753e2e866f38acfb98b", func := "loop.example/g00607/laws.FnRoutes", spec := "fnRoutes", inPlace := ["slices.overlaps[loop.example/g00607/impl.Back]"], unfollowed := true, recurses := true, plainKeys := false, apart := false }
def FnRoutesSaid : Prop := fnRoutesRow.holds Tryz.pinned (OpenSpec.ofChange fnRoutesSpec)

/-- ITS FALSE NEIGHBOUR: 'it returns false'. Refute it at one input. -/
def fnRoutesWrong : ChangeSpec := { name := "fnRoutes", fn := fun _ => fun
  | [d] => { results := [.lit (.bool false)], args := [d] }
  | _ => none }
def FnRoutesWrongFalsely : Prop := fnRoutesRow.holds Tryz.pinned (OpenSpec.ofChange fnRoutesWrong)

/-- 'laws.FnSends': WHATEVER THE INPUT: true; the input reads as it did. -/
def fnSendsSpec : ChangeSpec := { name := "fnSends", fn := fun _ => fun
  | [d] => { results := [.lit (.bool true)], args := [d] }
  | _ => none }
def fnSendsRow : OpenClaim := { program := "ytpneolgdghbinaagreat", sum := "6de33f09c52c54042bd9ab6535e68df59af59a8b23748753e2e866f38acfb98b", func := "loop.example/g00607/laws.FnSends", spec := "fnSends", inPlace := ["slices.overlaps[loop.example/g00607/impl.Back]"], unfollowed := true, recurses := true, plainKeys := false, apart := false }
def FnSendsSaid : Prop := fnSendsRow.holds Tryz.pinned (OpenSpec.ofChange fnSendsSpec)

/-- ITS FALSE NEIGHBOUR: 'it returns false'. Refute it at one input. -/
def fnSendsWrong : ChangeSpec := { name := "fnSends", fn := fun _ => fun
  | [d] => { results := [.lit (.bool false)], args := [d] }
  | _ => none }
def FnSendsWrongFalsely : Prop := fnSendsRow.holds Tryz.pinned (OpenSpec.ofChange fnSendsWrong)

/-- 'laws.FnLearns': WHATEVER THE INPUT: true; the input reads as it did. -/
def fnLearnsSpec : ChangeSpec := { name := "fnLearns", fn := fun _ => fun
  | [d] => { results := [.lit (.bool true)], args := [d] }
  | _ => none }
def fnLearnsRow : OpenClaim := { program := "ytpneolgdghbinaagreat", sum := "6de33f09c52c54042bd9ab6535e68df59af59a8b23748753e2e866f38acfb98b", func := "loop.example/g00607/laws.FnLearns", spec := "fnLearns", inPlace := ["slices.overlaps[loop.example/g00607/impl.Back]"], unfollowed := true, recurses := true, plainKeys := false, apart := false }
def FnLearnsSaid : Prop := fnLearnsRow.holds Tryz.pinned (OpenSpec.ofChange fnLearnsSpec)

/-- ITS FALSE NEIGHBOUR: 'it returns false'. Refute it at one input. -/
def fnLearnsWrong : ChangeSpec := { name := "fnLearns", fn := fun _ => fun
  | [d] => { results := [.lit (.bool false)], args := [d] }
  | _ => none }
def FnLearnsWrongFalsely : Prop := fnLearnsRow.holds Tryz.pinned (OpenSpec.ofChange fnLearnsWrong)

/-- 'laws.FnCrashes': WHATEVER THE INPUT: true; the input reads as it did. -/
def fnCrashesSpec : ChangeSpec := { name := "fnCrashes", fn := fun _ => fun
  | [d] => { results := [.lit (.bool true)], args := [d] }
  | _ => none }
def fnCrashesRow : OpenClaim := { program := "ytpneolgdghbinaagreat", sum := "6de33f09c52c54042bd9ab6535e68df59af59a8b23748753e2e866f38acfb98b", func := "loop.example/g00607/laws.FnCrashes", spec := "fnCrashes", inPlace := ["slices.overlaps[loop.example/g00607/impl.Back]"], unfollowed := true, recurses := true, plainKeys := false, apart := false }
def FnCrashesSaid : Prop := fnCrashesRow.holds Tryz.pinned (OpenSpec.ofChange fnCrashesSpec)

/-- ITS FALSE NEIGHBOUR: 'it returns false'. Refute it at one input. -/
def fnCrashesWrong : ChangeSpec := { name := "fnCrashes", fn := fun _ => fun
  | [d] => { results := [.lit (.bool false)], args := [d] }
  | _ => none }
def FnCrashesWrongFalsely : Prop := fnCrashesRow.holds Tryz.pinned (OpenSpec.ofChange fnCrashesWrong)

/- THE SECOND FORM. 'bulk': how many values and letters a reading holds, each counted each time it is reached (what is shared counts as often as it is met; a slice's spare places count too). A statement '..UptoSaid' is the law's where the arguments, and the package variables that the reading takes, are together of bulk at most 1048576: NARROWER than '..Said'. Prove '..Said' where nothing that the law and all that it calls make is longer than what came in: it says more and counts as full. Else prove '..UptoSaid'. A law counts once. -/
mutual
def uptoBulk {H : Type} : DataW H → Nat
  | .lit (.string bytes) => bytes.length + 1
  | .lit _ => 1
  | .nil => 1
  | .ptr d => uptoBulk d + 1
  | .slice elems spare => uptoBulkAll elems + uptoBulkAll spare + 1
  | .agg parts => uptoBulkAll parts + 1
  | .iface _ d => uptoBulk d + 1
  | .map entries => uptoBulkEntries entries + 1
  | .held _ => 1
def uptoBulkAll {H : Type} : List (DataW H) → Nat
  | [] => 0
  | d :: r => uptoBulk d + uptoBulkAll r
def uptoBulkEntries {H : Type} : List (Lit × DataW H) → Nat
  | [] => 0
  | x :: r => uptoBulkEntry x + uptoBulkEntries r
def uptoBulkEntry {H : Type} : Lit × DataW H → Nat
  | (.string bytes, d) => bytes.length + uptoBulk d + 1
  | (_, d) => uptoBulk d + 1
 end
def uptoSmall : (H : Type) → List (DataW H) → Bool := fun _ ds => decide (uptoBulkAll ds ≤ 1048576)
def OpenSpec.upto (s : _root_.Go.ChangeSpec) : _root_.Go.OpenSpec := { _root_.Go.OpenSpec.ofChange s with cond := some uptoSmall }

/-- 'laws.FnRoutes', WHERE WHAT IT READS IS OF BULK AT MOST 1048576: true; the input reads as it did. -/
def fnRoutesUptoRow : OpenClaim := { program := "ytpneolgdghbinaagreat", sum := "6de33f09c52c54042bd9ab6535e68df59af59a8b23748753e2e866f38acfb98b", func := "loop.example/g00607/laws.FnRoutes", spec := "fnRoutes", inPlace := ["slices.overlaps[loop.example/g00607/impl.Back]"], unfollowed := true, recurses := true, plainKeys := false, apart := false, narrowed := true }
def FnRoutesUptoSaid : Prop := fnRoutesUptoRow.holds Tryz.pinned (OpenSpec.upto fnRoutesSpec)

/-- 'laws.FnSends', WHERE WHAT IT READS IS OF BULK AT MOST 1048576: true; the input reads as it did. -/
def fnSendsUptoRow : OpenClaim := { program := "ytpneolgdghbinaagreat", sum := "6de33f09c52c54042bd9ab6535e68df59af59a8b23748753e2e866f38acfb98b", func := "loop.example/g00607/laws.FnSends", spec := "fnSends", inPlace := ["slices.overlaps[loop.example/g00607/impl.Back]"], unfollowed := true, recurses := true, plainKeys := false, apart := false, narrowed := true }
def FnSendsUptoSaid : Prop := fnSendsUptoRow.holds Tryz.pinned (OpenSpec.upto fnSendsSpec)

/-- 'laws.FnLearns', WHERE WHAT IT READS IS OF BULK AT MOST 1048576: true; the input reads as it did. -/
def fnLearnsUptoRow : OpenClaim := { program := "ytpneolgdghbinaagreat", sum := "6de33f09c52c54042bd9ab6535e68df59af59a8b23748753e2e866f38acfb98b", func := "loop.example/g00607/laws.FnLearns", spec := "fnLearns", inPlace := ["slices.overlaps[loop.example/g00607/impl.Back]"], unfollowed := true, recurses := true, plainKeys := false, apart := false, narrowed := true }
def FnLearnsUptoSaid : Prop := fnLearnsUptoRow.holds Tryz.pinned (OpenSpec.upto fnLearnsSpec)

/-- 'laws.FnCrashes', WHERE WHAT IT READS IS OF BULK AT MOST 1048576: true; the input reads as it did. -/
def fnCrashesUptoRow : OpenClaim := { program := "ytpneolgdghbinaagreat", sum := "6de33f09c52c54042bd9ab6535e68df59af59a8b23748753e2e866f38acfb98b", func := "loop.example/g00607/laws.FnCrashes", spec := "fnCrashes", inPlace := ["slices.overlaps[loop.example/g00607/impl.Back]"], unfollowed := true, recurses := true, plainKeys := false, apart := false, narrowed := true }
def FnCrashesUptoSaid : Prop := fnCrashesUptoRow.holds Tryz.pinned (OpenSpec.upto fnCrashesSpec)

end Rows
end Go.Proofs.YtpneolgdghbinaaGreat
