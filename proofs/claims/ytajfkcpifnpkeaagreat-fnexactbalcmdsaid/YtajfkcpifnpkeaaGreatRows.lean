/-
  No cell of these rows narrows 'for every input' (looked for: loops, veiled, ifaces, maps, wideKeys, modest, calm, conditions, laid).
  DERIVED. THE GIVEN ROWS OF THIS SEAT. 8 by the template 'for every input the law returns true; each argument reads behind the call as it read before'; 0 by the template 'total and deterministic' (their statements: YtajfkcpifnpkeaaGreatTotals.lean).
  GIVEN WITH THE SEED: the statements are not yours to turn. If you find one false, say at which input.
  Laid BY PROGRAM, IN A SANDBOX (cutbox-rows.mjs): the forced cells as the released guide's own fill.sh prints them over the translation d9028fb4ce43b024… (all of the seat's roots in one cut). By AI agents, Wed Nov 11 2026. No macro, syntax, notation, axiom, sorry.
-/
import Derived.Test.YtajfkcpifnpkeaaGreatChecked
import GoSem.Claim
import GoSem.ClaimJoined
import GoSem.ClaimMapViews
import Derived.JoinedTies
import Derived.KernelRfl
namespace Go.Proofs.YtajfkcpifnpkeaaGreat
/- THE CELL 'sum', in the pinned program and in every row, IS THE sha256 OF THE DUMP (.gsa) THAT YtajfkcpifnpkeaaGreatProg.lean LOADS. Nothing in Lean hashes anything: it is a label: what it is worth is what the hold of that sum in a sandbox is worth. -/
noncomputable def Tryz.pinned : Pinned := { name := "ytajfkcpifnpkeaagreat", sum := "d9028fb4ce43b024fe8981f8facb761bd84559536f409e4026855b972b70fb71", checked := Tryz.checked }
namespace Rows
def none {H : Type} : Left H := { results := [], args := [] }

/-- 'laws.FnExactBalOk': WHATEVER THE INPUT: true; the input reads as it did. -/
def fnExactBalOkSpec : ChangeSpec := { name := "fnExactBalOk", fn := fun _ => fun
  | [d] => { results := [.lit (.bool true)], args := [d] }
  | _ => none }
def fnExactBalOkRow : OpenClaim := { program := "ytajfkcpifnpkeaagreat", sum := "d9028fb4ce43b024fe8981f8facb761bd84559536f409e4026855b972b70fb71", func := "loop.example/g00607/laws.FnExactBalOk", spec := "fnExactBalOk", inPlace := ["slices.overlaps[loop.example/g00607/impl.Back]"], unfollowed := true, recurses := true, apart := false }
def FnExactBalOkSaid : Prop := fnExactBalOkRow.holds Tryz.pinned (OpenSpec.ofChange fnExactBalOkSpec)

/-- ITS FALSE NEIGHBOUR: 'it returns false'. Refute it at one input. -/
def fnExactBalOkWrong : ChangeSpec := { name := "fnExactBalOk", fn := fun _ => fun
  | [d] => { results := [.lit (.bool false)], args := [d] }
  | _ => none }
def FnExactBalOkWrongFalsely : Prop := fnExactBalOkRow.holds Tryz.pinned (OpenSpec.ofChange fnExactBalOkWrong)

/-- 'laws.FnExactBalCmd': WHATEVER THE INPUT: true; the input reads as it did. -/
def fnExactBalCmdSpec : ChangeSpec := { name := "fnExactBalCmd", fn := fun _ => fun
  | [d1, d2] => { results := [.lit (.bool true)], args := [d1, d2] }
  | _ => none }
def fnExactBalCmdRow : OpenClaim := { program := "ytajfkcpifnpkeaagreat", sum := "d9028fb4ce43b024fe8981f8facb761bd84559536f409e4026855b972b70fb71", func := "loop.example/g00607/laws.FnExactBalCmd", spec := "fnExactBalCmd", inPlace := ["slices.overlaps[loop.example/g00607/impl.Back]"], unfollowed := true, recurses := true, apart := false }
def FnExactBalCmdSaid : Prop := fnExactBalCmdRow.holds Tryz.pinned (OpenSpec.ofChange fnExactBalCmdSpec)

/-- ITS FALSE NEIGHBOUR: 'it returns false'. Refute it at one input. -/
def fnExactBalCmdWrong : ChangeSpec := { name := "fnExactBalCmd", fn := fun _ => fun
  | [d1, d2] => { results := [.lit (.bool false)], args := [d1, d2] }
  | _ => none }
def FnExactBalCmdWrongFalsely : Prop := fnExactBalCmdRow.holds Tryz.pinned (OpenSpec.ofChange fnExactBalCmdWrong)

/-- 'laws.FnExactRouteOf': WHATEVER THE INPUT: true; the input reads as it did. -/
def fnExactRouteOfSpec : ChangeSpec := { name := "fnExactRouteOf", fn := fun _ => fun
  | [d1, d2] => { results := [.lit (.bool true)], args := [d1, d2] }
  | _ => none }
def fnExactRouteOfRow : OpenClaim := { program := "ytajfkcpifnpkeaagreat", sum := "d9028fb4ce43b024fe8981f8facb761bd84559536f409e4026855b972b70fb71", func := "loop.example/g00607/laws.FnExactRouteOf", spec := "fnExactRouteOf", inPlace := ["slices.overlaps[loop.example/g00607/impl.Back]"], unfollowed := true, recurses := true, apart := false }
def FnExactRouteOfSaid : Prop := fnExactRouteOfRow.holds Tryz.pinned (OpenSpec.ofChange fnExactRouteOfSpec)

/-- ITS FALSE NEIGHBOUR: 'it returns false'. Refute it at one input. -/
def fnExactRouteOfWrong : ChangeSpec := { name := "fnExactRouteOf", fn := fun _ => fun
  | [d1, d2] => { results := [.lit (.bool false)], args := [d1, d2] }
  | _ => none }
def FnExactRouteOfWrongFalsely : Prop := fnExactRouteOfRow.holds Tryz.pinned (OpenSpec.ofChange fnExactRouteOfWrong)

/-- 'laws.FnExactSend': WHATEVER THE INPUT: true; the input reads as it did. -/
def fnExactSendSpec : ChangeSpec := { name := "fnExactSend", fn := fun _ => fun
  | [d1, d2, d3] => { results := [.lit (.bool true)], args := [d1, d2, d3] }
  | _ => none }
def fnExactSendRow : OpenClaim := { program := "ytajfkcpifnpkeaagreat", sum := "d9028fb4ce43b024fe8981f8facb761bd84559536f409e4026855b972b70fb71", func := "loop.example/g00607/laws.FnExactSend", spec := "fnExactSend", inPlace := ["slices.overlaps[loop.example/g00607/impl.Back]"], unfollowed := true, recurses := true, apart := false }
def FnExactSendSaid : Prop := fnExactSendRow.holds Tryz.pinned (OpenSpec.ofChange fnExactSendSpec)

/-- ITS FALSE NEIGHBOUR: 'it returns false'. Refute it at one input. -/
def fnExactSendWrong : ChangeSpec := { name := "fnExactSend", fn := fun _ => fun
  | [d1, d2, d3] => { results := [.lit (.bool false)], args := [d1, d2, d3] }
  | _ => none }
def FnExactSendWrongFalsely : Prop := fnExactSendRow.holds Tryz.pinned (OpenSpec.ofChange fnExactSendWrong)

/-- 'laws.FnExactLearn': WHATEVER THE INPUT: true; the input reads as it did. -/
def fnExactLearnSpec : ChangeSpec := { name := "fnExactLearn", fn := fun _ => fun
  | [d1, d2, d3, d4] => { results := [.lit (.bool true)], args := [d1, d2, d3, d4] }
  | _ => none }
def fnExactLearnRow : OpenClaim := { program := "ytajfkcpifnpkeaagreat", sum := "d9028fb4ce43b024fe8981f8facb761bd84559536f409e4026855b972b70fb71", func := "loop.example/g00607/laws.FnExactLearn", spec := "fnExactLearn", inPlace := ["slices.overlaps[loop.example/g00607/impl.Back]"], unfollowed := true, recurses := true, apart := false }
def FnExactLearnSaid : Prop := fnExactLearnRow.holds Tryz.pinned (OpenSpec.ofChange fnExactLearnSpec)

/-- ITS FALSE NEIGHBOUR: 'it returns false'. Refute it at one input. -/
def fnExactLearnWrong : ChangeSpec := { name := "fnExactLearn", fn := fun _ => fun
  | [d1, d2, d3, d4] => { results := [.lit (.bool false)], args := [d1, d2, d3, d4] }
  | _ => none }
def FnExactLearnWrongFalsely : Prop := fnExactLearnRow.holds Tryz.pinned (OpenSpec.ofChange fnExactLearnWrong)

/-- 'laws.FnExactBalTick': WHATEVER THE INPUT: true; the input reads as it did. -/
def fnExactBalTickSpec : ChangeSpec := { name := "fnExactBalTick", fn := fun _ => fun
  | [d1, d2] => { results := [.lit (.bool true)], args := [d1, d2] }
  | _ => none }
def fnExactBalTickRow : OpenClaim := { program := "ytajfkcpifnpkeaagreat", sum := "d9028fb4ce43b024fe8981f8facb761bd84559536f409e4026855b972b70fb71", func := "loop.example/g00607/laws.FnExactBalTick", spec := "fnExactBalTick", inPlace := ["slices.overlaps[loop.example/g00607/impl.Back]"], unfollowed := true, recurses := true, apart := false }
def FnExactBalTickSaid : Prop := fnExactBalTickRow.holds Tryz.pinned (OpenSpec.ofChange fnExactBalTickSpec)

/-- ITS FALSE NEIGHBOUR: 'it returns false'. Refute it at one input. -/
def fnExactBalTickWrong : ChangeSpec := { name := "fnExactBalTick", fn := fun _ => fun
  | [d1, d2] => { results := [.lit (.bool false)], args := [d1, d2] }
  | _ => none }
def FnExactBalTickWrongFalsely : Prop := fnExactBalTickRow.holds Tryz.pinned (OpenSpec.ofChange fnExactBalTickWrong)

/-- 'laws.FnExactCrash': WHATEVER THE INPUT: true; the input reads as it did. -/
def fnExactCrashSpec : ChangeSpec := { name := "fnExactCrash", fn := fun _ => fun
  | [d1, d2] => { results := [.lit (.bool true)], args := [d1, d2] }
  | _ => none }
def fnExactCrashRow : OpenClaim := { program := "ytajfkcpifnpkeaagreat", sum := "d9028fb4ce43b024fe8981f8facb761bd84559536f409e4026855b972b70fb71", func := "loop.example/g00607/laws.FnExactCrash", spec := "fnExactCrash", inPlace := ["slices.overlaps[loop.example/g00607/impl.Back]"], unfollowed := true, recurses := true, apart := false }
def FnExactCrashSaid : Prop := fnExactCrashRow.holds Tryz.pinned (OpenSpec.ofChange fnExactCrashSpec)

/-- ITS FALSE NEIGHBOUR: 'it returns false'. Refute it at one input. -/
def fnExactCrashWrong : ChangeSpec := { name := "fnExactCrash", fn := fun _ => fun
  | [d1, d2] => { results := [.lit (.bool false)], args := [d1, d2] }
  | _ => none }
def FnExactCrashWrongFalsely : Prop := fnExactCrashRow.holds Tryz.pinned (OpenSpec.ofChange fnExactCrashWrong)

/-- 'laws.FnExactHint': WHATEVER THE INPUT: true; the input reads as it did. -/
def fnExactHintSpec : ChangeSpec := { name := "fnExactHint", fn := fun _ => fun
  | [d1, d2] => { results := [.lit (.bool true)], args := [d1, d2] }
  | _ => none }
def fnExactHintRow : OpenClaim := { program := "ytajfkcpifnpkeaagreat", sum := "d9028fb4ce43b024fe8981f8facb761bd84559536f409e4026855b972b70fb71", func := "loop.example/g00607/laws.FnExactHint", spec := "fnExactHint", inPlace := ["slices.overlaps[loop.example/g00607/impl.Back]"], unfollowed := true, recurses := true, apart := false }
def FnExactHintSaid : Prop := fnExactHintRow.holds Tryz.pinned (OpenSpec.ofChange fnExactHintSpec)

/-- ITS FALSE NEIGHBOUR: 'it returns false'. Refute it at one input. -/
def fnExactHintWrong : ChangeSpec := { name := "fnExactHint", fn := fun _ => fun
  | [d1, d2] => { results := [.lit (.bool false)], args := [d1, d2] }
  | _ => none }
def FnExactHintWrongFalsely : Prop := fnExactHintRow.holds Tryz.pinned (OpenSpec.ofChange fnExactHintWrong)

/- THE SECOND FORM. 'bulk': how many values and letters a reading holds, each counted each time it is reached (what is shared counts as often as it is met; a slice's spare places count too). A statement '..UptoSaid' is the law's where the arguments, and the package variables that the reading takes, are together of bulk at most 1048576: NARROWER than '..Said'. Prove '..Said' where nothing that the law and all that it calls make is longer than what came in: it says more and counts as full. Else prove '..UptoSaid'. A law counts once. -/
mutual
def uptoBulk {H : Type} : DataW H → Nat
  | .lit (.string bytes) => bytes.length + 1
  | .lit _ => 1
  | .nil => 1
  | .ptr d => uptoBulk d + 1
  | .slice elems spare => uptoBulkAll elems + uptoBulkAll spare + 1
  | .agg parts => uptoBulkAll parts + 1
  | .iface _ d => uptoBulk d + 1
  | .map entries => uptoBulkEntries entries + 1
  | .held _ => 1
def uptoBulkAll {H : Type} : List (DataW H) → Nat
  | [] => 0
  | d :: r => uptoBulk d + uptoBulkAll r
def uptoBulkEntries {H : Type} : List (Lit × DataW H) → Nat
  | [] => 0
  | x :: r => uptoBulkEntry x + uptoBulkEntries r
def uptoBulkEntry {H : Type} : Lit × DataW H → Nat
  | (.string bytes, d) => bytes.length + uptoBulk d + 1
  | (_, d) => uptoBulk d + 1
 end
def uptoSmall : (H : Type) → List (DataW H) → Bool := fun _ ds => decide (uptoBulkAll ds ≤ 1048576)
def OpenSpec.upto (s : _root_.Go.ChangeSpec) : _root_.Go.OpenSpec := { _root_.Go.OpenSpec.ofChange s with cond := some uptoSmall }

/-- 'laws.FnExactBalOk', WHERE WHAT IT READS IS OF BULK AT MOST 1048576: true; the input reads as it did. -/
def fnExactBalOkUptoRow : OpenClaim := { program := "ytajfkcpifnpkeaagreat", sum := "d9028fb4ce43b024fe8981f8facb761bd84559536f409e4026855b972b70fb71", func := "loop.example/g00607/laws.FnExactBalOk", spec := "fnExactBalOk", inPlace := ["slices.overlaps[loop.example/g00607/impl.Back]"], unfollowed := true, recurses := true, apart := false, narrowed := true }
def FnExactBalOkUptoSaid : Prop := fnExactBalOkUptoRow.holds Tryz.pinned (OpenSpec.upto fnExactBalOkSpec)

/-- 'laws.FnExactBalCmd', WHERE WHAT IT READS IS OF BULK AT MOST 1048576: true; the input reads as it did. -/
def fnExactBalCmdUptoRow : OpenClaim := { program := "ytajfkcpifnpkeaagreat", sum := "d9028fb4ce43b024fe8981f8facb761bd84559536f409e4026855b972b70fb71", func := "loop.example/g00607/laws.FnExactBalCmd", spec := "fnExactBalCmd", inPlace := ["slices.overlaps[loop.example/g00607/impl.Back]"], unfollowed := true, recurses := true, apart := false, narrowed := true }
def FnExactBalCmdUptoSaid : Prop := fnExactBalCmdUptoRow.holds Tryz.pinned (OpenSpec.upto fnExactBalCmdSpec)

/-- 'laws.FnExactRouteOf', WHERE WHAT IT READS IS OF BULK AT MOST 1048576: true; the input reads as it did. -/
def fnExactRouteOfUptoRow : OpenClaim := { program := "ytajfkcpifnpkeaagreat", sum := "d9028fb4ce43b024fe8981f8facb761bd84559536f409e4026855b972b70fb71", func := "loop.example/g00607/laws.FnExactRouteOf", spec := "fnExactRouteOf", inPlace := ["slices.overlaps[loop.example/g00607/impl.Back]"], unfollowed := true, recurses := true, apart := false, narrowed := true }
def FnExactRouteOfUptoSaid : Prop := fnExactRouteOfUptoRow.holds Tryz.pinned (OpenSpec.upto fnExactRouteOfSpec)

/-- 'laws.FnExactSend', WHERE WHAT IT READS IS OF BULK AT MOST 1048576: true; the input reads as it did. -/
def fnExactSendUptoRow : OpenClaim := { program := "ytajfkcpifnpkeaagreat", sum := "d9028fb4ce43b024fe8981f8facb761bd84559536f409e4026855b972b70fb71", func := "loop.example/g00607/laws.FnExactSend", spec := "fnExactSend", inPlace := ["slices.overlaps[loop.example/g00607/impl.Back]"], unfollowed := true, recurses := true, apart := false, narrowed := true }
def FnExactSendUptoSaid : Prop := fnExactSendUptoRow.holds Tryz.pinned (OpenSpec.upto fnExactSendSpec)

/-- 'laws.FnExactLearn', WHERE WHAT IT READS IS OF BULK AT MOST 1048576: true; the input reads as it did. -/
def fnExactLearnUptoRow : OpenClaim := { program := "ytajfkcpifnpkeaagreat", sum := "d9028fb4ce43b024fe8981f8facb761bd84559536f409e4026855b972b70fb71", func := "loop.example/g00607/laws.FnExactLearn", spec := "fnExactLearn", inPlace := ["slices.overlaps[loop.example/g00607/impl.Back]"], unfollowed := true, recurses := true, apart := false, narrowed := true }
def FnExactLearnUptoSaid : Prop := fnExactLearnUptoRow.holds Tryz.pinned (OpenSpec.upto fnExactLearnSpec)

/-- 'laws.FnExactBalTick', WHERE WHAT IT READS IS OF BULK AT MOST 1048576: true; the input reads as it did. -/
def fnExactBalTickUptoRow : OpenClaim := { program := "ytajfkcpifnpkeaagreat", sum := "d9028fb4ce43b024fe8981f8facb761bd84559536f409e4026855b972b70fb71", func := "loop.example/g00607/laws.FnExactBalTick", spec := "fnExactBalTick", inPlace := ["slices.overlaps[loop.example/g00607/impl.Back]"], unfollowed := true, recurses := true, apart := false, narrowed := true }
def FnExactBalTickUptoSaid : Prop := fnExactBalTickUptoRow.holds Tryz.pinned (OpenSpec.upto fnExactBalTickSpec)

/-- 'laws.FnExactCrash', WHERE WHAT IT READS IS OF BULK AT MOST 1048576: true; the input reads as it did. -/
def fnExactCrashUptoRow : OpenClaim := { program := "ytajfkcpifnpkeaagreat", sum := "d9028fb4ce43b024fe8981f8facb761bd84559536f409e4026855b972b70fb71", func := "loop.example/g00607/laws.FnExactCrash", spec := "fnExactCrash", inPlace := ["slices.overlaps[loop.example/g00607/impl.Back]"], unfollowed := true, recurses := true, apart := false, narrowed := true }
def FnExactCrashUptoSaid : Prop := fnExactCrashUptoRow.holds Tryz.pinned (OpenSpec.upto fnExactCrashSpec)

/-- 'laws.FnExactHint', WHERE WHAT IT READS IS OF BULK AT MOST 1048576: true; the input reads as it did. -/
def fnExactHintUptoRow : OpenClaim := { program := "ytajfkcpifnpkeaagreat", sum := "d9028fb4ce43b024fe8981f8facb761bd84559536f409e4026855b972b70fb71", func := "loop.example/g00607/laws.FnExactHint", spec := "fnExactHint", inPlace := ["slices.overlaps[loop.example/g00607/impl.Back]"], unfollowed := true, recurses := true, apart := false, narrowed := true }
def FnExactHintUptoSaid : Prop := fnExactHintUptoRow.holds Tryz.pinned (OpenSpec.upto fnExactHintSpec)

end Rows
end Go.Proofs.YtajfkcpifnpkeaaGreat
