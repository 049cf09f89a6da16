/- Steps that turn no old block but some: what rows, boxes and readings are behind them. -/
import Derived.Test.YtoeoiljddcjphaaLists
namespace Go.Proofs.Ytoeoiljddcjphaa
open Go.ChangeShapes Go.WideShapes Go.ChangeAt Go.RowKit Go.Joins
set_option linter.unusedVariables false
set_option linter.unusedSimpArgs false

/-- From w to w' no block of w has turned but those from lo on, up to hi. -/
structure Stp (lo hi : Nat) (w w' : World) : Prop where
  os : w'.os = w.os
  tape : w'.tape = w.tape
  output : w'.output = w.output
  size : w.heap.size ≤ w'.heap.size
  block : ∀ k, k < w.heap.size → (k < lo ∨ hi ≤ k) → w'.heap[k]? = w.heap[k]?
theorem Stp.of {lo hi : Nat} {w w' : World} (h : Below w.heap.size w w') : Stp lo hi w w' := ⟨h.os, h.tape, h.output, h.size, fun k hk _ => h.block k hk⟩
theorem Stp.refl {lo hi : Nat} (w : World) : Stp lo hi w w := ⟨rfl, rfl, rfl, Nat.le_refl _, fun _ _ _ => rfl⟩
theorem Stp.below {lo hi B : Nat} {w w' : World} (h : Stp lo hi w w') (hB : B ≤ lo) (hs : B ≤ w.heap.size) : Below B w w' := ⟨h.os, h.tape, h.output, h.size, fun k hk => h.block k (Nat.lt_of_lt_of_le hk hs) (.inl (Nat.lt_of_lt_of_le hk hB))⟩
theorem Stp.trans {lo hi : Nat} {a b c : World} (h : Stp lo hi a b) (k : Stp lo hi b c) : Stp lo hi a c :=
  ⟨k.os.trans h.os, k.tape.trans h.tape, k.output.trans h.output, Nat.le_trans h.size k.size, fun i hi' hn => (k.block i (Nat.lt_of_lt_of_le hi' h.size) hn).trans (h.block i hi' hn)⟩
theorem Stp.grown {lo hi : Nat} {w w' : World} {r : Option Nat} (h : w.grownBy w' r) (hr : ∀ b, r = some b → lo ≤ b ∧ b < hi) : Stp lo hi w w' :=
  ⟨h.os, h.tape, h.output, h.size, fun k hk hn => h.block k hk (fun e => by have := hr k e.symm; omega)⟩
theorem Stp.box {lo hi k : Nat} {w w' : World} {X : Obj} (s : Stp lo hi w w') (h : w.heap[k]? = some X) (hk : k < lo ∨ hi ≤ k) : w'.heap[k]? = some X :=
  (s.block k (Array.getElem?_eq_some_iff.1 h).1 hk).trans h

/-- A row that lies in the blocks from lo up to hi. -/
def InRow (lo hi : Nat) (w : World) (e : TypeId) (size : Nat) (v : Value) (n : Nat) (xs : List Value) : Prop := w.ownsRow lo e size v n xs ∧ ∀ b, v.ownBlock = some b → b < hi
theorem InRow.of {lo : Nat} {w : World} {e : TypeId} {size : Nat} {v : Value} {n : Nat} {xs : List Value} (h : w.ownsRow lo e size v n xs) : InRow lo w.heap.size w e size v n xs := ⟨h, fun b e => (h.lt b e).2⟩
theorem InRow.mono {lo hi lo' hi' : Nat} {w : World} {e : TypeId} {size : Nat} {v : Value} {n : Nat} {xs : List Value} (h : InRow lo hi w e size v n xs) (h1 : lo' ≤ lo) (h2 : hi ≤ hi') : InRow lo' hi' w e size v n xs :=
  ⟨own_mono h.1 h1, fun b e => Nat.lt_of_lt_of_le (h.2 b e) h2⟩
theorem InRow.step {a b lo hi : Nat} {w w' : World} {e : TypeId} {size : Nat} {v : Value} {n : Nat} {xs : List Value} (h : InRow a b w e size v n xs) (s : Stp lo hi w w') (hd : hi ≤ a ∨ b ≤ lo) : InRow a b w' e size v n xs := by
  refine ⟨⟨h.1.1, ?_⟩, h.2⟩
  rcases h.1.2 with h1 | ⟨g, cap, cur, hv, hg, hc, r⟩
  · exact .inl h1
  · have hgb : g < b := h.2 g (by rw [hv]; rfl)
    exact .inr ⟨g, cap, cur, hv, hg, s.box hc (by omega), r⟩
theorem InRow.steps {a b lo hi : Nat} {w w' : World} {e : TypeId} {size : Nat} {v : Value} {n : Nat} {xs : List Value} (h : InRow a b w e size v n xs) (s : Stp lo hi w w') (hd : ∀ g, v.ownBlock = some g → g < lo ∨ hi ≤ g) : InRow a b w' e size v n xs := by
  refine ⟨⟨h.1.1, ?_⟩, h.2⟩
  rcases h.1.2 with h1 | ⟨g, cap, cur, hv, hg, hc, r⟩
  · exact .inl h1
  · exact .inr ⟨g, cap, cur, hv, hg, s.box hc (hd g (by rw [hv]; rfl)), r⟩
/-- Two rows of unlike element types never share a block. -/
theorem own_apart0 {w : World} {b1 b2 s1 s2 n1 n2 : Nat} {e1 e2 : TypeId} {v1 v2 : Value} {x1 x2 : List Value} (h1 : w.ownsRow b1 e1 s1 v1 n1 x1) (h2 : w.ownsRow b2 e2 s2 v2 n2 x2) (he : e1 ≠ e2) : v1.ownBlock = none ∨ v1.ownBlock ≠ v2.ownBlock := by
  rcases h1.2 with ⟨rfl, _⟩ | ⟨g, cap, cur, rfl, _, hc, _⟩
  · exact .inl rfl
  · right
    rcases h2.2 with ⟨rfl, _⟩ | ⟨g', cap', cur', rfl, _, hc', _⟩
    · simp [Value.ownBlock]
    · intro e
      simp [Value.ownBlock] at e
      subst e
      rw [hc] at hc'
      injection hc' with hc'
      injection hc' with _ hc' _
      exact he hc'
theorem InRow.kept {a b : Nat} {w w' : World} {e : TypeId} {size : Nat} {v : Value} {n : Nat} {xs : List Value} {r : Option Nat} (h : InRow a b w e size v n xs) (hg : w.grownBy w' r) (hn : v.ownBlock = none ∨ v.ownBlock ≠ r) : InRow a b w' e size v n xs :=
  ⟨World.ownsRow.kept h.1 hg hn, h.2⟩

/-- A slice's value that reads as l, its block below C. -/
def RdV {α : Type} (L : Lay α) (C : Nat) (w : World) (v : Value) (l : List α) : Prop := ∃ o c, v = .slice o l.length c ∧ RdL L C w o l
theorem RdV.kept {α : Type} {L : Lay α} {C D : Nat} {w w' : World} {v : Value} {l : List α} (h : RdV L C w v l) (hb : Below D w w') (hc : C ≤ D) : RdV L C w' v l := by
  obtain ⟨o, c, e, r⟩ := h
  exact ⟨o, c, e, r.kept hb hc⟩
theorem RdV.le {α : Type} {L : Lay α} {C D : Nat} {w : World} {v : Value} {l : List α} (h : RdV L C w v l) (hc : C ≤ D) : RdV L D w v l := by
  obtain ⟨o, c, e, r⟩ := h
  exact ⟨o, c, e, r.le hc⟩
abbrev InL {α : Type} (L : Lay α) (e : TypeId) (lo hi : Nat) (w : World) (v : Value) (l : List α) : Prop := InRow lo hi w e L.k v l.length (l.flatMap L.cs)
theorem InL.rd {α : Type} {L : Lay α} {e : TypeId} {lo hi : Nat} {w : World} {v : Value} {l : List α} (h : InL L e lo hi w v l) : RdV L hi w v l := by
  have h0 := h.1
  rcases h.1.2 with ⟨h1, h2⟩ | ⟨g, cap, cur, hv, _⟩
  · have e : l = [] := List.eq_nil_of_length_eq_zero h2
    subst e
    exact ⟨none, 0, by simpa using h1, .inl rfl⟩
  · subst hv
    refine ⟨_, cap, rfl, ?_⟩
    rcases ownL.rd (L := L) h0 with h' | ⟨b, off, ho, hb, r⟩
    · exact .inl h'
    · cases ho
      exact .inr ⟨_, _, rfl, h.2 _ rfl, r⟩

/-- A slice of nothing has no room. -/
def capV (v : Value) : Prop := ∀ n c, v = .slice none n c → c = 0
theorem InRow.cap {lo hi : Nat} {w : World} {e : TypeId} {size : Nat} {v : Value} {n : Nat} {xs : List Value} (h : InRow lo hi w e size v n xs) : capV v := by
  intro n' c hv
  rcases h.1.2 with ⟨h1, _⟩ | ⟨g, cap, cur, h1, _⟩
  · rw [h1] at hv; injection hv with _ _ h3; exact h3.symm
  · rw [h1] at hv; injection hv with h3 _ _; cases h3

end Go.Proofs.Ytoeoiljddcjphaa
