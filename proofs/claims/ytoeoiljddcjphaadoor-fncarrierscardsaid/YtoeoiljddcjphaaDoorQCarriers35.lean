/- A region that draws its order, inside a round of a range over a function: walked as one outside, if it defers nothing. -/
import Derived.OrdersHeld
import Derived.Deep.RegionHeld
import Derived.OrdersIn
import Derived.TacticsIn
import Derived.Test.YtoeoiljddcjphaaDoorQCarriers01
namespace Go.Proofs.YtoeoiljddcjphaaDoor
set_option linter.unusedVariables false
set_option linter.unusedSimpArgs false

/-- A post that lets nothing out. -/
def noOut (Q : Exit → Act → World → Prop) : Exit → Act → World → Prop := fun e a w => e ≠ .outgrown ∧ Q e a w
theorem noOut_lets {Q : Exit → Act → World → Prop} : ¬ LetsOut (noOut Q) := fun ⟨_, _, h, _⟩ => h rfl
theorem callsIn_round {l n : Nat} {P : Program} {f : FuncId} {args : Array Value} {w : World} {R : Ending → World → Prop} (h : Calls P f args w R) : CallsIn (Fence.wide.inRound l) n P f args w R := (callsIn_wide (n := n)).2 h
def isDef : Op → Bool
 | .defer _ => true
 | _ => false
theorem uponIn_round {l n : Nat} {P : Program} {o : Oper} {a : Act} {K K' : Act → World → Prop} {Q : Exit → Act → World → Prop} (hK : ∀ a w, K a w → K' a w) (r : Result Next) (h : o.upon P a K (noOut Q) r) : o.uponIn (Fence.wide.inRound l) n P a K' Q r := by
 cases r with
 | ok nx w' =>
  cases nx with
  | value v => exact hK _ _ h
  | skip => exact hK _ _ h
  | defer d => exact hK _ _ h
  | enter f args =>
   refine ⟨fun hd => (by cases hd), callsIn_round (Calls.mono h fun e w'' hh => ?_)⟩
   cases e with
   | returned v => exact hK _ _ hh
   | panicked c => exact hh.2
   | outgrown => exact absurd hh noOut_lets
  | row row args =>
   refine ⟨fun hd => (by cases hd), fun c cs _ => ?_⟩
   obtain ⟨v, w2, r, s⟩ := h c cs
   exact ⟨v, w2, hK _ _ r, stepsIn_wide.2 s⟩
  | _ => exact False.elim h
 | halt hl w' =>
  cases hl with
  | panic v => exact h.2
  | _ => exact False.elim h
theorem wpOpIn_round {l n : Nat} {P : Program} {ops : Array Oper} {Q : Exit → Act → World → Prop} {i : Nat} {K K' : Act → World → Prop} {a : Act} {w : World} (hd : ops.all (fun o => !isDef o.op) = true) (hK : ∀ a w, K a w → K' a w) (h : wpOp P ops (noOut Q) i K a w) : wpOpIn (Fence.wide.inRound l) n P ops Q i K' a w := by
 unfold wpOp at h
 unfold wpOpIn
 cases ho : ops[i]? with
 | none => rw [ho] at h; exact hK _ _ h
 | some o =>
  rw [ho] at h
  dsimp only at h ⊢
  have hno : ∀ c, o.op ≠ .defer c := by
   intro c e
   obtain ⟨hi, he⟩ := Array.getElem?_eq_some_iff.1 ho
   have := (Array.all_eq_true.1 hd) i hi
   rw [he, e] at this
   cases this
  split at h
  ·rename_i hw
   rw [if_pos hw]
   rcases h with h | ⟨_, h⟩
   ·refine ⟨fun _ _ => trivial, ?_⟩
    rw [show (Fence.wide.inRound l).round = some l from rfl, Oper.semAt_some l _ o hno]
    exact uponIn_round hK _ h
   ·exact absurd h noOut_lets
  ·rename_i hw
   rw [if_neg hw]
   exact ⟨fun _ _ => trivial, hK _ _ h⟩
theorem wpAnyIn_round {l n : Nat} {P : Program} {md : Region.Mode} {ops : Array Oper} {Q : Exit → Act → World → Prop} (hd : ops.all (fun o => !isDef o.op) = true) : ∀ (fuel : Nat) (listed : Array Bool) (a : Act) (w : World), wpAny P md ops (noOut Q) fuel listed a w → wpAnyIn (Fence.wide.inRound l) n P md ops Q fuel listed a w
 | 0, _, _, _, h => ⟨h.1, h.2.2⟩
 | fuel + 1, _, _, _, h => ⟨fun h0 => (h.1 h0).2, fun i hi => wpOpIn_round hd (fun a' w' => wpAnyIn_round hd fuel _ a' w') (h.2 i hi)⟩
theorem wpIn_region_round {l n : Nat} {P : Program} {ops : Array Oper} {Q : Exit → Act → World → Prop} {S : World → Prop} {id : Nat} {a : Act} {w : World} (hm : P.follows .mixedOrders = true) (hd : ops.all (fun o => !isDef o.op) = true) (hS : S w.drew)
  (h : S w.drew → wpAnyH P .any ops (noOut Q) S ops.size (Array.replicate ops.size false) a w.drew) : (Code.region id ops true).wpIn (Fence.wide.inRound l) n P Q a w :=
 wpIn_region_any hm (wpAnyIn_round hd _ _ _ _ (wpAny_of_held _ _ _ _ (h hS)))

end Go.Proofs.YtoeoiljddcjphaaDoor

