/- Several texts in one: SDelete, MarkL, Fr, ShJ. -/
import Derived.Deep.RegionLaw
import Derived.Test.YtmmhgkkcpjhiiaaDoorQPoolText06
import Derived.Test.YtmmhgkkcpjhiiaaDoorQPoolText07
import Derived.Test.YtmmhgkkcpjhiiaaDoorQPoolText08
import Derived.Test.YtmmhgkkcpjhiiaaDoorQPoolText17
import Derived.Test.YtmmhgkkcpjhiiaaDoorQPoolText03
/- The library's Delete at rows of backs. -/
namespace Go.Proofs.YtmmhgkkcpjhiiaaDoor
open Go.ChangeShapes Go.WideShapes Go.ChangeAt Go.RowKit Go.Joins
set_option linter.unusedVariables false
set_option linter.unusedSimpArgs false

variable {α : Type}
end Go.Proofs.YtmmhgkkcpjhiiaaDoor

/- The laws' marks in a row of records of whole numbers, whatever their layout: what stands there behind them. -/
namespace Go.Proofs.YtmmhgkkcpjhiiaaDoor
open Go.ChangeShapes Go.WideShapes Go.ChangeAt Go.RowKit Go.Joins
set_option linter.unusedVariables false
set_option linter.unusedSimpArgs false

variable {α : Type}

/-- n records, marked from k on, m numbers each. -/
def mkL (f : Int → α) (m : Nat) (k : Int) (n : Nat) : List α := (List.range n).map (fun (i : Nat) => f (k + (m : Int) * (i : Int)))
theorem mkL_length (f : Int → α) (m : Nat) (k : Int) (n : Nat) : (mkL f m k n).length = n := by simp [mkL]
theorem mkL_succ (f : Int → α) (m : Nat) (k : Int) (n : Nat) : mkL f m k (n + 1) = mkL f m k n ++ [f (k + (m : Int) * (n : Int))] := by simp [mkL, List.range_succ]
def mkTo (f : Int → α) (m : Nat) (l : List α) (k : Int) (i : Nat) : List α := mkL f m k i ++ l.drop i
theorem mkTo_zero (f : Int → α) (m : Nat) (l : List α) (k : Int) : mkTo f m l k 0 = l := by simp [mkTo, mkL]
theorem mkTo_all (f : Int → α) (m : Nat) (l : List α) (k : Int) : mkTo f m l k l.length = mkL f m k l.length := by simp [mkTo]
theorem mkTo_length (f : Int → α) (m : Nat) (l : List α) (k : Int) (i : Nat) (h : i ≤ l.length) : (mkTo f m l k i).length = l.length := by simp [mkTo, mkL_length]; omega
theorem mkTo_set (f : Int → α) (m : Nat) (l : List α) (k : Int) (i : Nat) (h : i < l.length) : (mkTo f m l k i).set i (f (k + (m : Int) * (i : Int))) = mkTo f m l k (i + 1) := by
 unfold mkTo
 rw [List.drop_eq_getElem_cons h, List.set_append_right _ _ (by rw [mkL_length]; exact Nat.le_refl _), mkL_length, Nat.sub_self, List.set_cons_zero, mkL_succ, List.append_assoc]
 rfl
theorem grown_set1 {w wr : World} {base g c n : Nat} {e : TypeId} {size : Nat} {xs : List Value} {j : Nat} {u : Value} (hown : wr.ownsRow base e size (.slice (some ⟨g, 0, none⟩) n c) n xs) (hg : w.grownBy wr (some g)) :
  (wr.setCell ⟨g, j, none⟩ u).ownsRow base e size (.slice (some ⟨g, 0, none⟩) n c) n (xs.set j u) ∧ w.grownBy (wr.setCell ⟨g, j, none⟩ u) (some g) := by
 have h := hown.stored j u
 exact ⟨h.1, ⟨hg.os, hg.tape, hg.output, by have := h.2.size; have := hg.size; omega, fun i hi hne => (h.2.block i (Nat.lt_of_lt_of_le hi hg.size) hne).trans (hg.block i hi hne)⟩⟩

end Go.Proofs.YtmmhgkkcpjhiiaaDoor

/- Steps that turn no old block but some: what rows, boxes and readings are behind them. -/
namespace Go.Proofs.YtmmhgkkcpjhiiaaDoor
open Go.ChangeShapes Go.WideShapes Go.ChangeAt Go.RowKit Go.Joins
set_option linter.unusedVariables false
set_option linter.unusedSimpArgs false

/-- From w to w' no block of w has turned but those from lo on, up to hi. -/
structure Stp (lo hi : Nat) (w w' : World) : Prop where
 os : w'.os = w.os
 tape : w'.tape = w.tape
 output : w'.output = w.output
 size : w.heap.size ≤ w'.heap.size
 block : ∀ k, k < w.heap.size → (k < lo ∨ hi ≤ k) → w'.heap[k]? = w.heap[k]?
theorem Stp.of {lo hi : Nat} {w w' : World} (h : Below w.heap.size w w') : Stp lo hi w w' := ⟨h.os, h.tape, h.output, h.size, fun k hk _ => h.block k hk⟩
theorem Stp.refl {lo hi : Nat} (w : World) : Stp lo hi w w := ⟨rfl, rfl, rfl, Nat.le_refl _, fun _ _ _ => rfl⟩
theorem Stp.below {lo hi B : Nat} {w w' : World} (h : Stp lo hi w w') (hB : B ≤ lo) (hs : B ≤ w.heap.size) : Below B w w' := ⟨h.os, h.tape, h.output, h.size, fun k hk => h.block k (Nat.lt_of_lt_of_le hk hs) (.inl (Nat.lt_of_lt_of_le hk hB))⟩
theorem Stp.trans {lo hi : Nat} {a b c : World} (h : Stp lo hi a b) (k : Stp lo hi b c) : Stp lo hi a c :=
 ⟨k.os.trans h.os, k.tape.trans h.tape, k.output.trans h.output, Nat.le_trans h.size k.size, fun i hi' hn => (k.block i (Nat.lt_of_lt_of_le hi' h.size) hn).trans (h.block i hi' hn)⟩
theorem Stp.grown {lo hi : Nat} {w w' : World} {r : Option Nat} (h : w.grownBy w' r) (hr : ∀ b, r = some b → lo ≤ b ∧ b < hi) : Stp lo hi w w' :=
 ⟨h.os, h.tape, h.output, h.size, fun k hk hn => h.block k hk (fun e => by have := hr k e.symm; omega)⟩
theorem Stp.box {lo hi k : Nat} {w w' : World} {X : Obj} (s : Stp lo hi w w') (h : w.heap[k]? = some X) (hk : k < lo ∨ hi ≤ k) : w'.heap[k]? = some X :=
 (s.block k (Array.getElem?_eq_some_iff.1 h).1 hk).trans h

/-- A row that lies in the blocks from lo up to hi. -/
def InRow (lo hi : Nat) (w : World) (e : TypeId) (size : Nat) (v : Value) (n : Nat) (xs : List Value) : Prop := w.ownsRow lo e size v n xs ∧ ∀ b, v.ownBlock = some b → b < hi
theorem InRow.of {lo : Nat} {w : World} {e : TypeId} {size : Nat} {v : Value} {n : Nat} {xs : List Value} (h : w.ownsRow lo e size v n xs) : InRow lo w.heap.size w e size v n xs := ⟨h, fun b e => (h.lt b e).2⟩
theorem InRow.mono {lo hi lo' hi' : Nat} {w : World} {e : TypeId} {size : Nat} {v : Value} {n : Nat} {xs : List Value} (h : InRow lo hi w e size v n xs) (h1 : lo' ≤ lo) (h2 : hi ≤ hi') : InRow lo' hi' w e size v n xs :=
 ⟨own_mono h.1 h1, fun b e => Nat.lt_of_lt_of_le (h.2 b e) h2⟩
theorem InRow.step {a b lo hi : Nat} {w w' : World} {e : TypeId} {size : Nat} {v : Value} {n : Nat} {xs : List Value} (h : InRow a b w e size v n xs) (s : Stp lo hi w w') (hd : hi ≤ a ∨ b ≤ lo) : InRow a b w' e size v n xs := by
 refine ⟨⟨h.1.1, ?_⟩, h.2⟩
 rcases h.1.2 with h1 | ⟨g, cap, cur, hv, hg, hc, r⟩
 ·exact .inl h1
 ·have hgb : g < b := h.2 g (by rw [hv]; rfl)
  exact .inr ⟨g, cap, cur, hv, hg, s.box hc (by omega), r⟩
theorem InRow.steps {a b lo hi : Nat} {w w' : World} {e : TypeId} {size : Nat} {v : Value} {n : Nat} {xs : List Value} (h : InRow a b w e size v n xs) (s : Stp lo hi w w') (hd : ∀ g, v.ownBlock = some g → g < lo ∨ hi ≤ g) : InRow a b w' e size v n xs := by
 refine ⟨⟨h.1.1, ?_⟩, h.2⟩
 rcases h.1.2 with h1 | ⟨g, cap, cur, hv, hg, hc, r⟩
 ·exact .inl h1
 ·exact .inr ⟨g, cap, cur, hv, hg, s.box hc (hd g (by rw [hv]; rfl)), r⟩
theorem InRow.kept {a b : Nat} {w w' : World} {e : TypeId} {size : Nat} {v : Value} {n : Nat} {xs : List Value} {r : Option Nat} (h : InRow a b w e size v n xs) (hg : w.grownBy w' r) (hn : v.ownBlock = none ∨ v.ownBlock ≠ r) : InRow a b w' e size v n xs :=
 ⟨World.ownsRow.kept h.1 hg hn, h.2⟩

/-- A slice's value that reads as l, its block below C. -/
def RdV {α : Type} (L : Lay α) (C : Nat) (w : World) (v : Value) (l : List α) : Prop := ∃ o c, v = .slice o l.length c ∧ RdL L C w o l
theorem RdV.kept {α : Type} {L : Lay α} {C D : Nat} {w w' : World} {v : Value} {l : List α} (h : RdV L C w v l) (hb : Below D w w') (hc : C ≤ D) : RdV L C w' v l := by
 obtain ⟨o, c, e, r⟩ := h
 exact ⟨o, c, e, r.kept hb hc⟩
theorem RdV.le {α : Type} {L : Lay α} {C D : Nat} {w : World} {v : Value} {l : List α} (h : RdV L C w v l) (hc : C ≤ D) : RdV L D w v l := by
 obtain ⟨o, c, e, r⟩ := h
 exact ⟨o, c, e, r.le hc⟩
abbrev InL {α : Type} (L : Lay α) (e : TypeId) (lo hi : Nat) (w : World) (v : Value) (l : List α) : Prop := InRow lo hi w e L.k v l.length (l.flatMap L.cs)
theorem InL.rd {α : Type} {L : Lay α} {e : TypeId} {lo hi : Nat} {w : World} {v : Value} {l : List α} (h : InL L e lo hi w v l) : RdV L hi w v l := by
 have h0 := h.1
 rcases h.1.2 with ⟨h1, h2⟩ | ⟨g, cap, cur, hv, _⟩
 ·have e : l = [] := List.eq_nil_of_length_eq_zero h2
  subst e
  exact ⟨none, 0, by simpa using h1, .inl rfl⟩
 ·subst hv
  refine ⟨_, cap, rfl, ?_⟩
  rcases ownL.rd (L := L) h0 with h' | ⟨b, off, ho, hb, r⟩
  ·exact .inl h'
  ·cases ho
   exact .inr ⟨_, _, rfl, h.2 _ rfl, r⟩

/-- A slice of nothing has no room. -/
def capV (v : Value) : Prop := ∀ n c, v = .slice none n c → c = 0
theorem InRow.cap {lo hi : Nat} {w : World} {e : TypeId} {size : Nat} {v : Value} {n : Nat} {xs : List Value} (h : InRow lo hi w e size v n xs) : capV v := by
 intro n' c hv
 rcases h.1.2 with ⟨h1, _⟩ | ⟨g, cap, cur, h1, _⟩
 ·rw [h1] at hv; injection hv with _ _ h3; exact h3.symm
 ·rw [h1] at hv; injection hv with h3 _ _; cases h3

end Go.Proofs.YtmmhgkkcpjhiiaaDoor

/- Journals, as a shape: how they read, what owns its memory, and the laws' own helpers over them. -/
namespace Go.Proofs.YtmmhgkkcpjhiiaaDoor
open Go.ChangeShapes Go.WideShapes Go.ChangeAt Go.RowKit Go.Joins
set_option linter.unusedVariables false
set_option linter.unusedSimpArgs false

/-- A journal, as the model has it. -/
structure Jm where
 key : Int
 l : List Cd
 safe : Int
abbrev jrn (k : Int) (v : Value) (s : Int) : Value := .agg #[.int .i64 k, v, .int .i64 s]
def RdJm (C : Nat) (w : World) (v : Value) (m : Jm) : Prop := ∃ vl, v = jrn m.key vl m.safe ∧ RdV layC C w vl m.l
theorem RdJm.kept {C D : Nat} {w w' : World} {v : Value} {m : Jm} (h : RdJm C w v m) (hb : Below D w w') (hc : C ≤ D) : RdJm C w' v m := by
 obtain ⟨vl, e, h1⟩ := h
 exact ⟨vl, e, h1.kept hb hc⟩
theorem RdJm.le {C D : Nat} {w : World} {v : Value} {m : Jm} (h : RdJm C w v m) (hc : C ≤ D) : RdJm D w v m := by
 obtain ⟨vl, e, h1⟩ := h
 exact ⟨vl, e, h1.le hc⟩
def capJm (v : Value) : Prop := ∃ k vl s, v = jrn k vl s ∧ capV vl
theorem capJm.one {k s : Int} {o : Option Addr} {n c : Nat} (h : capJm (jrn k (.slice o n c) s)) : o = none → c = 0 := by
 obtain ⟨k', vl, s', e, h1⟩ := h
 injection e with e
 simp at e
 obtain ⟨_, e5, _⟩ := e
 exact fun h => h1 n c (by rw [← e5, h])
end Go.Proofs.YtmmhgkkcpjhiiaaDoor

