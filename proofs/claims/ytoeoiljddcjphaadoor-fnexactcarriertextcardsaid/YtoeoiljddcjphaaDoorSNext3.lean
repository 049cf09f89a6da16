/- Next on both sides. -/
import Derived.Test.YtoeoiljddcjphaaDoorSNext2
import Derived.Test.YtoeoiljddcjphaaDoorBits
namespace Go.Proofs.YtoeoiljddcjphaaDoor
open Go.ChangeShapes Go.WideShapes Go.ChangeAt Go.RowKit Go.Joins
set_option linter.unusedVariables false
set_option linter.unusedSimpArgs false

/-- What is carried, as the model has it. -/
structure Cm where
  a : Int
  b : Int
  f : Int
  s : Int
  l : List Int
  g : List (Int × Int)
  pl : Int
  st : Int
def Cm.zero : Cm := ⟨0, 0, 0, 0, [], [], 0, 0⟩
def Cm.ok (c : Cm) : Bool := carrierOkB c.a c.b c.f c.s c.l.length c.g c.pl c.st
/-- The next one, and whether there is one. -/
def nextM (c : Cm) : Cm × Bool := if c.ok then (if c.pl = (c.g.length : Int) - 1 then (c, false) else ({ c with pl := c.pl + 1 }, true)) else (Cm.zero, false)
/-- A carrier that a call hands out, of its own memory. -/
def ownCm (w : World) (base : Nat) (v : Value) (m : Cm) : Prop := ∃ vl vg, v = crr m.a m.b m.f m.s vl vg m.pl m.st ∧ ownB w base vl m.l ∧ ownG w base vg m.g
/-- A row of the call's own behind a store into another block. -/
theorem own_set {w : World} {base : Nat} {e : TypeId} {size : Nat} {v : Value} {n : Nat} {xs : List Value} (h : w.ownsRow base e size v n xs) (q j : Nat) (u : Value) (hq : ∀ b, v.ownBlock = some b → b ≠ q) : (w.setCell ⟨q, j, none⟩ u).ownsRow base e size v n xs := by
  refine World.ownsRow.kept h (w' := w.setCell ⟨q, j, none⟩ u) (row := some q) ⟨rfl, rfl, rfl, by simp [World.setCell], fun k hk hne => Below.heap_setCell w ⟨q, j, none⟩ u k (fun e => hne (by rw [e]))⟩ ?_
  cases hob : v.ownBlock with
  | none => exact .inl rfl
  | some b => right; intro e'; injection e' with e'; exact hq b hob e'

end Go.Proofs.YtoeoiljddcjphaaDoor
