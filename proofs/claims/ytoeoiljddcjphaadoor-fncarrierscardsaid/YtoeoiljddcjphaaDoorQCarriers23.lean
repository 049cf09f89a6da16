/- Several texts in one: SNext2, SNext3, ShC. -/
import Derived.Test.YtoeoiljddcjphaaDoorQCarriers20
import Derived.Test.YtoeoiljddcjphaaDoorQCarriers22
import Derived.Test.YtoeoiljddcjphaaDoorQCarriers05
import Derived.Test.YtoeoiljddcjphaaDoorQCarriers02
import Derived.Test.YtoeoiljddcjphaaDoorQCarriers03
import Derived.Maps.AppendAt
import Derived.Test.YtoeoiljddcjphaaDoorQCarriers14
import Derived.Test.YtoeoiljddcjphaaDoorQCarriers01
/- A carrier's copy that owns its memory, on both sides. -/
namespace Go.Proofs.YtoeoiljddcjphaaDoor
open Go.ChangeShapes Go.WideShapes Go.ChangeAt Go.RowKit Go.Joins
set_option linter.unusedVariables false
set_option linter.unusedSimpArgs false

/-- A box behind a store of one of its cells; another box. -/
theorem box_set (w : World) (k j : Nat) (cs : Array Value) (t : TypeId) (v : Value) (h : w.heap[k]? = some (.cells cs t (0, 0))) : (w.setCell ⟨k, j, none⟩ v).heap[k]? = some (.cells (cs.setIfInBounds j v) t (0, 0)) := by
 simp [World.setCell, Array.getElem?_modify, h]
end Go.Proofs.YtoeoiljddcjphaaDoor

/- Next on both sides. -/
namespace Go.Proofs.YtoeoiljddcjphaaDoor
open Go.ChangeShapes Go.WideShapes Go.ChangeAt Go.RowKit Go.Joins
set_option linter.unusedVariables false
set_option linter.unusedSimpArgs false

/-- What is carried, as the model has it. -/
structure Cm where
 a : Int
 b : Int
 f : Int
 s : Int
 l : List Int
 g : List (Int × Int)
 pl : Int
 st : Int
def Cm.zero : Cm := ⟨0, 0, 0, 0, [], [], 0, 0⟩
def Cm.ok (c : Cm) : Bool := carrierOkB c.a c.b c.f c.s c.l.length c.g c.pl c.st
/-- A carrier that a call hands out, of its own memory. -/
def ownCm (w : World) (base : Nat) (v : Value) (m : Cm) : Prop := ∃ vl vg, v = crr m.a m.b m.f m.s vl vg m.pl m.st ∧ ownB w base vl m.l ∧ ownG w base vg m.g
/-- A row of the call's own behind a store into another block. -/
theorem own_set {w : World} {base : Nat} {e : TypeId} {size : Nat} {v : Value} {n : Nat} {xs : List Value} (h : w.ownsRow base e size v n xs) (q j : Nat) (u : Value) (hq : ∀ b, v.ownBlock = some b → b ≠ q) : (w.setCell ⟨q, j, none⟩ u).ownsRow base e size v n xs := by
 refine World.ownsRow.kept h (w' := w.setCell ⟨q, j, none⟩ u) (row := some q) ⟨rfl, rfl, rfl, by simp [World.setCell], fun k hk hne => Below.heap_setCell w ⟨q, j, none⟩ u k (fun e => hne (by rw [e]))⟩ ?_
 cases hob : v.ownBlock with
 | none => exact .inl rfl
 | some b => right; intro e'; injection e' with e'; exact hq b hob e'

end Go.Proofs.YtoeoiljddcjphaaDoor

/- What is carried, as a shape: how it reads, what owns its memory, and the laws' own helpers over it. -/
namespace Go.Proofs.YtoeoiljddcjphaaDoor
open Go.ChangeShapes Go.WideShapes Go.ChangeAt Go.RowKit Go.Joins
set_option linter.unusedVariables false
set_option linter.unusedSimpArgs false

abbrev InG := InL layG 62
theorem InG.of {w : World} {base : Nat} {v : Value} {l : List (Int × Int)} (h : ownG w base v l) : InG base w.heap.size w v l := InRow.of (ownG_lay.1 h)
theorem RdG_rd {w : World} {o : Option Addr} {l : List (Int × Int)} : RdL layG w.heap.size w o l ↔ RdG w o l := by
 constructor
 ·rintro (h | ⟨b, off, ho, hb, r⟩)
  ·exact .inl h
  ·exact .inr ⟨b, off, ho, hb, fun i hi => ⟨r i hi 0 (by decide), r i hi 1 (by decide)⟩⟩
 ·exact RdG.lay
def RdCm (C : Nat) (w : World) (v : Value) (m : Cm) : Prop := ∃ vl vg, v = crr m.a m.b m.f m.s vl vg m.pl m.st ∧ RdV layB C w vl m.l ∧ RdV layG C w vg m.g
def InCm (lo hi : Nat) (w : World) (v : Value) (m : Cm) : Prop := ∃ vl vg, v = crr m.a m.b m.f m.s vl vg m.pl m.st ∧ InB lo hi w vl m.l ∧ InG lo hi w vg m.g
theorem RdCm.kept {C D : Nat} {w w' : World} {v : Value} {m : Cm} (h : RdCm C w v m) (hb : Below D w w') (hc : C ≤ D) : RdCm C w' v m := by
 obtain ⟨vl, vg, e, h1, h2⟩ := h
 exact ⟨vl, vg, e, h1.kept hb hc, h2.kept hb hc⟩
theorem RdCm.le {C D : Nat} {w : World} {v : Value} {m : Cm} (h : RdCm C w v m) (hc : C ≤ D) : RdCm D w v m := by
 obtain ⟨vl, vg, e, h1, h2⟩ := h
 exact ⟨vl, vg, e, h1.le hc, h2.le hc⟩
theorem InCm.rd {lo hi : Nat} {w : World} {v : Value} {m : Cm} (h : InCm lo hi w v m) : RdCm hi w v m := by
 obtain ⟨vl, vg, e, h1, h2⟩ := h
 exact ⟨vl, vg, e, h1.rd, h2.rd⟩
theorem InCm.step {a b lo hi : Nat} {w w' : World} {v : Value} {m : Cm} (h : InCm a b w v m) (s : Stp lo hi w w') (hd : hi ≤ a ∨ b ≤ lo) : InCm a b w' v m := by
 obtain ⟨vl, vg, e, h1, h2⟩ := h
 exact ⟨vl, vg, e, h1.step s hd, h2.step s hd⟩
theorem InCm.mono {lo hi lo' hi' : Nat} {w : World} {v : Value} {m : Cm} (h : InCm lo hi w v m) (h1 : lo' ≤ lo) (h2 : hi ≤ hi') : InCm lo' hi' w v m := by
 obtain ⟨vl, vg, e, q1, q2⟩ := h
 exact ⟨vl, vg, e, q1.mono h1 h2, q2.mono h1 h2⟩
theorem InCm.of {w : World} {base : Nat} {v : Value} {m : Cm} (h : ownCm w base v m) : InCm base w.heap.size w v m := by
 obtain ⟨vl, vg, e, h1, h2⟩ := h
 exact ⟨vl, vg, e, InB.of h1, InG.of h2⟩
/-- Its lists of nothing have no room. -/
def capCm (v : Value) : Prop := ∃ a b f s vl vg pl st, v = crr a b f s vl vg pl st ∧ capV vl ∧ capV vg
theorem InCm.cap {lo hi : Nat} {w : World} {v : Value} {m : Cm} (h : InCm lo hi w v m) : capCm v := by
 obtain ⟨vl, vg, e, h1, h2⟩ := h
 exact ⟨_, _, _, _, vl, vg, _, _, e, InRow.cap h1, InRow.cap h2⟩
theorem capCm.two {a b f s : Int} {o og : Option Addr} {n c ng cg : Nat} {pl st : Int} (h : capCm (crr a b f s (.slice o n c) (.slice og ng cg) pl st)) : (o = none → c = 0) ∧ (og = none → cg = 0) := by
 obtain ⟨a', b', f', s', vl, vg, pl', st', e, h1, h2⟩ := h
 injection e with e
 simp at e
 obtain ⟨_, _, _, _, e5, e6, _, _⟩ := e
 exact ⟨fun h => h1 n c (by rw [← e5, h]), fun h => h2 ng cg (by rw [← e6, h])⟩
/-- It is not too great, and its bytes are bytes. -/
def fitCm (m : Cm) : Prop := m.l.length + m.g.length ≤ 1048576 ∧ isB m.l

end Go.Proofs.YtoeoiljddcjphaaDoor

