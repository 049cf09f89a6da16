/-
  No cell of these rows narrows 'for every input' (looked for: loops, veiled, ifaces, maps, wideKeys, modest, calm, conditions, laid).
  DERIVED. THE GIVEN ROWS OF THIS SEAT. 9 by the template 'for every input the law returns true; each argument reads behind the call as it read before'; 0 by the template 'total and deterministic' (their statements: YthcbhfgbplgfiaaTotals.lean).
  GIVEN WITH THE SEED: the statements are not yours to turn. If you find one false, say at which input.
  Laid BY PROGRAM, IN A SANDBOX (cutbox-rows.mjs): the forced cells as the released guide's own fill.sh prints them over the translation 4edbcca5d3e19418… (all of the seat's roots in one cut). By AI agents, Wed Nov 11 2026. No macro, syntax, notation, axiom, sorry.
-/
import Derived.Test.YthcbhfgbplgfiaaChecked
import GoSem.Claim
import GoSem.ClaimJoined
import GoSem.ClaimMapViews
import Derived.JoinedTies
import Derived.KernelRfl
namespace Go.Proofs.Ythcbhfgbplgfiaa
/- THE CELL 'sum', in the pinned program and in every row, IS THE sha256 OF THE DUMP (.gsa) THAT YthcbhfgbplgfiaaProg.lean LOADS. Nothing in Lean hashes anything: it is a label: what it is worth is what the hold of that sum in a sandbox is worth. -/
noncomputable def Try.pinned : Pinned := { name := "ythcbhfgbplgfiaa", sum := "4edbcca5d3e1941874a1e2832ed21cbbbd8106155d90b7028ea2533e631d5d69", checked := Try.checked }
namespace Rows
def none {H : Type} : Left H := { results := [], args := [] }

/-- 'laws.FnHandles': WHATEVER THE INPUT: true; the input reads as it did. -/
def fnHandlesSpec : ChangeSpec := { name := "fnHandles", fn := fun _ => fun
  | [d] => { results := [.lit (.bool true)], args := [d] }
  | _ => none }
def fnHandlesRow : OpenClaim := { program := "ythcbhfgbplgfiaa", sum := "4edbcca5d3e1941874a1e2832ed21cbbbd8106155d90b7028ea2533e631d5d69", func := "loop.example/g00607/laws.FnHandles", spec := "fnHandles", unfollowed := true, recurses := true, apart := false }
def FnHandlesSaid : Prop := fnHandlesRow.holds Try.pinned (OpenSpec.ofChange fnHandlesSpec)

/-- ITS FALSE NEIGHBOUR: 'it returns false'. Refute it at one input. -/
def fnHandlesWrong : ChangeSpec := { name := "fnHandles", fn := fun _ => fun
  | [d] => { results := [.lit (.bool false)], args := [d] }
  | _ => none }
def FnHandlesWrongFalsely : Prop := fnHandlesRow.holds Try.pinned (OpenSpec.ofChange fnHandlesWrong)

/-- 'laws.FnLoads': WHATEVER THE INPUT: true; the input reads as it did. -/
def fnLoadsSpec : ChangeSpec := { name := "fnLoads", fn := fun _ => fun
  | [d] => { results := [.lit (.bool true)], args := [d] }
  | _ => none }
def fnLoadsRow : OpenClaim := { program := "ythcbhfgbplgfiaa", sum := "4edbcca5d3e1941874a1e2832ed21cbbbd8106155d90b7028ea2533e631d5d69", func := "loop.example/g00607/laws.FnLoads", spec := "fnLoads", unfollowed := true, recurses := true, apart := false }
def FnLoadsSaid : Prop := fnLoadsRow.holds Try.pinned (OpenSpec.ofChange fnLoadsSpec)

/-- ITS FALSE NEIGHBOUR: 'it returns false'. Refute it at one input. -/
def fnLoadsWrong : ChangeSpec := { name := "fnLoads", fn := fun _ => fun
  | [d] => { results := [.lit (.bool false)], args := [d] }
  | _ => none }
def FnLoadsWrongFalsely : Prop := fnLoadsRow.holds Try.pinned (OpenSpec.ofChange fnLoadsWrong)

/-- 'laws.FnExactAgentOk': WHATEVER THE INPUT: true; the input reads as it did. -/
def fnExactAgentOkSpec : ChangeSpec := { name := "fnExactAgentOk", fn := fun _ => fun
  | [d] => { results := [.lit (.bool true)], args := [d] }
  | _ => none }
def fnExactAgentOkRow : OpenClaim := { program := "ythcbhfgbplgfiaa", sum := "4edbcca5d3e1941874a1e2832ed21cbbbd8106155d90b7028ea2533e631d5d69", func := "loop.example/g00607/laws.FnExactAgentOk", spec := "fnExactAgentOk", unfollowed := true, recurses := true, apart := false }
def FnExactAgentOkSaid : Prop := fnExactAgentOkRow.holds Try.pinned (OpenSpec.ofChange fnExactAgentOkSpec)

/-- ITS FALSE NEIGHBOUR: 'it returns false'. Refute it at one input. -/
def fnExactAgentOkWrong : ChangeSpec := { name := "fnExactAgentOk", fn := fun _ => fun
  | [d] => { results := [.lit (.bool false)], args := [d] }
  | _ => none }
def FnExactAgentOkWrongFalsely : Prop := fnExactAgentOkRow.holds Try.pinned (OpenSpec.ofChange fnExactAgentOkWrong)

/-- 'laws.FnExactAgentNew': WHATEVER THE INPUT: true; the input reads as it did. -/
def fnExactAgentNewSpec : ChangeSpec := { name := "fnExactAgentNew", fn := fun _ => fun
  | [d1, d2] => { results := [.lit (.bool true)], args := [d1, d2] }
  | _ => none }
def fnExactAgentNewRow : OpenClaim := { program := "ythcbhfgbplgfiaa", sum := "4edbcca5d3e1941874a1e2832ed21cbbbd8106155d90b7028ea2533e631d5d69", func := "loop.example/g00607/laws.FnExactAgentNew", spec := "fnExactAgentNew", apart := false }
def FnExactAgentNewSaid : Prop := fnExactAgentNewRow.holds Try.pinned (OpenSpec.ofChange fnExactAgentNewSpec)

/-- ITS FALSE NEIGHBOUR: 'it returns false'. Refute it at one input. -/
def fnExactAgentNewWrong : ChangeSpec := { name := "fnExactAgentNew", fn := fun _ => fun
  | [d1, d2] => { results := [.lit (.bool false)], args := [d1, d2] }
  | _ => none }
def FnExactAgentNewWrongFalsely : Prop := fnExactAgentNewRow.holds Try.pinned (OpenSpec.ofChange fnExactAgentNewWrong)

/-- 'laws.FnExactLoad': WHATEVER THE INPUT: true; the input reads as it did. -/
def fnExactLoadSpec : ChangeSpec := { name := "fnExactLoad", fn := fun _ => fun
  | [d1, d2] => { results := [.lit (.bool true)], args := [d1, d2] }
  | _ => none }
def fnExactLoadRow : OpenClaim := { program := "ythcbhfgbplgfiaa", sum := "4edbcca5d3e1941874a1e2832ed21cbbbd8106155d90b7028ea2533e631d5d69", func := "loop.example/g00607/laws.FnExactLoad", spec := "fnExactLoad", unfollowed := true, recurses := true, apart := false }
def FnExactLoadSaid : Prop := fnExactLoadRow.holds Try.pinned (OpenSpec.ofChange fnExactLoadSpec)

/-- ITS FALSE NEIGHBOUR: 'it returns false'. Refute it at one input. -/
def fnExactLoadWrong : ChangeSpec := { name := "fnExactLoad", fn := fun _ => fun
  | [d1, d2] => { results := [.lit (.bool false)], args := [d1, d2] }
  | _ => none }
def FnExactLoadWrongFalsely : Prop := fnExactLoadRow.holds Try.pinned (OpenSpec.ofChange fnExactLoadWrong)

/-- 'laws.FnExactDrainIt': WHATEVER THE INPUT: true; the input reads as it did. -/
def fnExactDrainItSpec : ChangeSpec := { name := "fnExactDrainIt", fn := fun _ => fun
  | [d] => { results := [.lit (.bool true)], args := [d] }
  | _ => none }
def fnExactDrainItRow : OpenClaim := { program := "ythcbhfgbplgfiaa", sum := "4edbcca5d3e1941874a1e2832ed21cbbbd8106155d90b7028ea2533e631d5d69", func := "loop.example/g00607/laws.FnExactDrainIt", spec := "fnExactDrainIt", unfollowed := true, recurses := true, apart := false }
def FnExactDrainItSaid : Prop := fnExactDrainItRow.holds Try.pinned (OpenSpec.ofChange fnExactDrainItSpec)

/-- ITS FALSE NEIGHBOUR: 'it returns false'. Refute it at one input. -/
def fnExactDrainItWrong : ChangeSpec := { name := "fnExactDrainIt", fn := fun _ => fun
  | [d] => { results := [.lit (.bool false)], args := [d] }
  | _ => none }
def FnExactDrainItWrongFalsely : Prop := fnExactDrainItRow.holds Try.pinned (OpenSpec.ofChange fnExactDrainItWrong)

/-- 'laws.FnExactAgentTick': WHATEVER THE INPUT: true; the input reads as it did. -/
def fnExactAgentTickSpec : ChangeSpec := { name := "fnExactAgentTick", fn := fun _ => fun
  | [d1, d2] => { results := [.lit (.bool true)], args := [d1, d2] }
  | _ => none }
def fnExactAgentTickRow : OpenClaim := { program := "ythcbhfgbplgfiaa", sum := "4edbcca5d3e1941874a1e2832ed21cbbbd8106155d90b7028ea2533e631d5d69", func := "loop.example/g00607/laws.FnExactAgentTick", spec := "fnExactAgentTick", unfollowed := true, recurses := true, apart := false }
def FnExactAgentTickSaid : Prop := fnExactAgentTickRow.holds Try.pinned (OpenSpec.ofChange fnExactAgentTickSpec)

/-- ITS FALSE NEIGHBOUR: 'it returns false'. Refute it at one input. -/
def fnExactAgentTickWrong : ChangeSpec := { name := "fnExactAgentTick", fn := fun _ => fun
  | [d1, d2] => { results := [.lit (.bool false)], args := [d1, d2] }
  | _ => none }
def FnExactAgentTickWrongFalsely : Prop := fnExactAgentTickRow.holds Try.pinned (OpenSpec.ofChange fnExactAgentTickWrong)

/-- 'laws.FnExactHolds': WHATEVER THE INPUT: true; the input reads as it did. -/
def fnExactHoldsSpec : ChangeSpec := { name := "fnExactHolds", fn := fun _ => fun
  | [d1, d2] => { results := [.lit (.bool true)], args := [d1, d2] }
  | _ => none }
def fnExactHoldsRow : OpenClaim := { program := "ythcbhfgbplgfiaa", sum := "4edbcca5d3e1941874a1e2832ed21cbbbd8106155d90b7028ea2533e631d5d69", func := "loop.example/g00607/laws.FnExactHolds", spec := "fnExactHolds", unfollowed := true, recurses := true, apart := false }
def FnExactHoldsSaid : Prop := fnExactHoldsRow.holds Try.pinned (OpenSpec.ofChange fnExactHoldsSpec)

/-- ITS FALSE NEIGHBOUR: 'it returns false'. Refute it at one input. -/
def fnExactHoldsWrong : ChangeSpec := { name := "fnExactHolds", fn := fun _ => fun
  | [d1, d2] => { results := [.lit (.bool false)], args := [d1, d2] }
  | _ => none }
def FnExactHoldsWrongFalsely : Prop := fnExactHoldsRow.holds Try.pinned (OpenSpec.ofChange fnExactHoldsWrong)

/-- 'laws.FnExactShuns': WHATEVER THE INPUT: true; the input reads as it did. -/
def fnExactShunsSpec : ChangeSpec := { name := "fnExactShuns", fn := fun _ => fun
  | [d1, d2] => { results := [.lit (.bool true)], args := [d1, d2] }
  | _ => none }
def fnExactShunsRow : OpenClaim := { program := "ythcbhfgbplgfiaa", sum := "4edbcca5d3e1941874a1e2832ed21cbbbd8106155d90b7028ea2533e631d5d69", func := "loop.example/g00607/laws.FnExactShuns", spec := "fnExactShuns", unfollowed := true, recurses := true, apart := false }
def FnExactShunsSaid : Prop := fnExactShunsRow.holds Try.pinned (OpenSpec.ofChange fnExactShunsSpec)

/-- ITS FALSE NEIGHBOUR: 'it returns false'. Refute it at one input. -/
def fnExactShunsWrong : ChangeSpec := { name := "fnExactShuns", fn := fun _ => fun
  | [d1, d2] => { results := [.lit (.bool false)], args := [d1, d2] }
  | _ => none }
def FnExactShunsWrongFalsely : Prop := fnExactShunsRow.holds Try.pinned (OpenSpec.ofChange fnExactShunsWrong)

/- THE SECOND FORM. 'bulk': how many values and letters a reading holds, each counted each time it is reached (what is shared counts as often as it is met; a slice's spare places count too). A statement '..UptoSaid' is the law's where the arguments, and the package variables that the reading takes, are together of bulk at most 1048576: NARROWER than '..Said'. Prove '..Said' where nothing that the law and all that it calls make is longer than what came in: it says more and counts as full. Else prove '..UptoSaid'. A law counts once. -/
mutual
def uptoBulk {H : Type} : DataW H → Nat
  | .lit (.string bytes) => bytes.length + 1
  | .lit _ => 1
  | .nil => 1
  | .ptr d => uptoBulk d + 1
  | .slice elems spare => uptoBulkAll elems + uptoBulkAll spare + 1
  | .agg parts => uptoBulkAll parts + 1
  | .iface _ d => uptoBulk d + 1
  | .map entries => uptoBulkEntries entries + 1
  | .held _ => 1
def uptoBulkAll {H : Type} : List (DataW H) → Nat
  | [] => 0
  | d :: r => uptoBulk d + uptoBulkAll r
def uptoBulkEntries {H : Type} : List (Lit × DataW H) → Nat
  | [] => 0
  | x :: r => uptoBulkEntry x + uptoBulkEntries r
def uptoBulkEntry {H : Type} : Lit × DataW H → Nat
  | (.string bytes, d) => bytes.length + uptoBulk d + 1
  | (_, d) => uptoBulk d + 1
 end
def uptoSmall : (H : Type) → List (DataW H) → Bool := fun _ ds => decide (uptoBulkAll ds ≤ 1048576)
def OpenSpec.upto (s : _root_.Go.ChangeSpec) : _root_.Go.OpenSpec := { _root_.Go.OpenSpec.ofChange s with cond := some uptoSmall }

/-- 'laws.FnHandles', WHERE WHAT IT READS IS OF BULK AT MOST 1048576: true; the input reads as it did. -/
def fnHandlesUptoRow : OpenClaim := { program := "ythcbhfgbplgfiaa", sum := "4edbcca5d3e1941874a1e2832ed21cbbbd8106155d90b7028ea2533e631d5d69", func := "loop.example/g00607/laws.FnHandles", spec := "fnHandles", unfollowed := true, recurses := true, apart := false, narrowed := true }
def FnHandlesUptoSaid : Prop := fnHandlesUptoRow.holds Try.pinned (OpenSpec.upto fnHandlesSpec)

/-- 'laws.FnLoads', WHERE WHAT IT READS IS OF BULK AT MOST 1048576: true; the input reads as it did. -/
def fnLoadsUptoRow : OpenClaim := { program := "ythcbhfgbplgfiaa", sum := "4edbcca5d3e1941874a1e2832ed21cbbbd8106155d90b7028ea2533e631d5d69", func := "loop.example/g00607/laws.FnLoads", spec := "fnLoads", unfollowed := true, recurses := true, apart := false, narrowed := true }
def FnLoadsUptoSaid : Prop := fnLoadsUptoRow.holds Try.pinned (OpenSpec.upto fnLoadsSpec)

/-- 'laws.FnExactAgentOk', WHERE WHAT IT READS IS OF BULK AT MOST 1048576: true; the input reads as it did. -/
def fnExactAgentOkUptoRow : OpenClaim := { program := "ythcbhfgbplgfiaa", sum := "4edbcca5d3e1941874a1e2832ed21cbbbd8106155d90b7028ea2533e631d5d69", func := "loop.example/g00607/laws.FnExactAgentOk", spec := "fnExactAgentOk", unfollowed := true, recurses := true, apart := false, narrowed := true }
def FnExactAgentOkUptoSaid : Prop := fnExactAgentOkUptoRow.holds Try.pinned (OpenSpec.upto fnExactAgentOkSpec)

/-- 'laws.FnExactAgentNew', WHERE WHAT IT READS IS OF BULK AT MOST 1048576: true; the input reads as it did. -/
def fnExactAgentNewUptoRow : OpenClaim := { program := "ythcbhfgbplgfiaa", sum := "4edbcca5d3e1941874a1e2832ed21cbbbd8106155d90b7028ea2533e631d5d69", func := "loop.example/g00607/laws.FnExactAgentNew", spec := "fnExactAgentNew", apart := false, narrowed := true }
def FnExactAgentNewUptoSaid : Prop := fnExactAgentNewUptoRow.holds Try.pinned (OpenSpec.upto fnExactAgentNewSpec)

/-- 'laws.FnExactLoad', WHERE WHAT IT READS IS OF BULK AT MOST 1048576: true; the input reads as it did. -/
def fnExactLoadUptoRow : OpenClaim := { program := "ythcbhfgbplgfiaa", sum := "4edbcca5d3e1941874a1e2832ed21cbbbd8106155d90b7028ea2533e631d5d69", func := "loop.example/g00607/laws.FnExactLoad", spec := "fnExactLoad", unfollowed := true, recurses := true, apart := false, narrowed := true }
def FnExactLoadUptoSaid : Prop := fnExactLoadUptoRow.holds Try.pinned (OpenSpec.upto fnExactLoadSpec)

/-- 'laws.FnExactDrainIt', WHERE WHAT IT READS IS OF BULK AT MOST 1048576: true; the input reads as it did. -/
def fnExactDrainItUptoRow : OpenClaim := { program := "ythcbhfgbplgfiaa", sum := "4edbcca5d3e1941874a1e2832ed21cbbbd8106155d90b7028ea2533e631d5d69", func := "loop.example/g00607/laws.FnExactDrainIt", spec := "fnExactDrainIt", unfollowed := true, recurses := true, apart := false, narrowed := true }
def FnExactDrainItUptoSaid : Prop := fnExactDrainItUptoRow.holds Try.pinned (OpenSpec.upto fnExactDrainItSpec)

/-- 'laws.FnExactAgentTick', WHERE WHAT IT READS IS OF BULK AT MOST 1048576: true; the input reads as it did. -/
def fnExactAgentTickUptoRow : OpenClaim := { program := "ythcbhfgbplgfiaa", sum := "4edbcca5d3e1941874a1e2832ed21cbbbd8106155d90b7028ea2533e631d5d69", func := "loop.example/g00607/laws.FnExactAgentTick", spec := "fnExactAgentTick", unfollowed := true, recurses := true, apart := false, narrowed := true }
def FnExactAgentTickUptoSaid : Prop := fnExactAgentTickUptoRow.holds Try.pinned (OpenSpec.upto fnExactAgentTickSpec)

/-- 'laws.FnExactHolds', WHERE WHAT IT READS IS OF BULK AT MOST 1048576: true; the input reads as it did. -/
def fnExactHoldsUptoRow : OpenClaim := { program := "ythcbhfgbplgfiaa", sum := "4edbcca5d3e1941874a1e2832ed21cbbbd8106155d90b7028ea2533e631d5d69", func := "loop.example/g00607/laws.FnExactHolds", spec := "fnExactHolds", unfollowed := true, recurses := true, apart := false, narrowed := true }
def FnExactHoldsUptoSaid : Prop := fnExactHoldsUptoRow.holds Try.pinned (OpenSpec.upto fnExactHoldsSpec)

/-- 'laws.FnExactShuns', WHERE WHAT IT READS IS OF BULK AT MOST 1048576: true; the input reads as it did. -/
def fnExactShunsUptoRow : OpenClaim := { program := "ythcbhfgbplgfiaa", sum := "4edbcca5d3e1941874a1e2832ed21cbbbd8106155d90b7028ea2533e631d5d69", func := "loop.example/g00607/laws.FnExactShuns", spec := "fnExactShuns", unfollowed := true, recurses := true, apart := false, narrowed := true }
def FnExactShunsUptoSaid : Prop := fnExactShunsUptoRow.holds Try.pinned (OpenSpec.upto fnExactShunsSpec)

end Rows
end Go.Proofs.Ythcbhfgbplgfiaa
