/- Slices of segs: how they read. -/
import Derived.Deep.SlicePairs
import Derived.Test.YtoeoiljddcjphaaDoorQCarriers01
import Derived.Test.YtoeoiljddcjphaaDoorQCarriers02
namespace Go.Proofs.YtoeoiljddcjphaaDoor
open Go.ChangeShapes Go.WideShapes Go.ChangeAt Go.RowKit Go.Joins
set_option linter.unusedVariables false
set_option linter.unusedSimpArgs false

def flatG : List (Int × Int) → List Int
 | [] => []
 | p :: l => p.1 :: p.2 :: flatG l
theorem flatG_get0 : ∀ (l : List (Int × Int)) (i : Nat), i < l.length → (flatG l)[i * 2]? = some (l.getD i (0, 0)).1
 | p :: l, 0, _ => rfl
 | p :: l, i + 1, h => by
  have := flatG_get0 l i (by simpa using h)
  rw [show (i + 1) * 2 = i * 2 + 2 by omega]
  simpa [flatG] using this
theorem flatG_get1 : ∀ (l : List (Int × Int)) (i : Nat), i < l.length → (flatG l)[i * 2 + 1]? = some (l.getD i (0, 0)).2
 | p :: l, 0, _ => rfl
 | p :: l, i + 1, h => by
  have := flatG_get1 l i (by simpa using h)
  rw [show (i + 1) * 2 + 1 = i * 2 + 1 + 2 by omega]
  simpa [flatG] using this
def cellsG (l : List (Int × Int)) : List Value := (flatG l).map (Value.int .i64)

/-- The slice that begins at o reads as the segs l. -/
def RdG (w : World) (o : Option Addr) (l : List (Int × Int)) : Prop :=
 l = [] ∨ ∃ b off, o = some ⟨b, off, none⟩ ∧ b < w.heap.size ∧ ∀ i, i < l.length → w.cell? ⟨b, off + i * 2, none⟩ = some (.int .i64 (l.getD i (0, 0)).1) ∧ w.cell? ⟨b, off + i * 2 + 1, none⟩ = some (.int .i64 (l.getD i (0, 0)).2)

theorem RdG.kept {w w' : World} {o : Option Addr} {l : List (Int × Int)} (h : RdG w o l) (hb : Below w.heap.size w w') : RdG w' o l := by
 rcases h with h | ⟨b, off, ho, hlt, hc⟩
 ·exact .inl h
 ·exact .inr ⟨b, off, ho, Nat.lt_of_lt_of_le hlt hb.size, fun i hi => ⟨(hb.cell (p := ⟨b, off + i * 2, none⟩) hlt).trans (hc i hi).1, (hb.cell (p := ⟨b, off + i * 2 + 1, none⟩) hlt).trans (hc i hi).2⟩⟩

/-- As RdG, in a block below C. -/
def RdGB (C : Nat) (w : World) (o : Option Addr) (l : List (Int × Int)) : Prop :=
 l = [] ∨ ∃ b off, o = some ⟨b, off, none⟩ ∧ b < C ∧ ∀ i, i < l.length → w.cell? ⟨b, off + i * 2, none⟩ = some (.int .i64 (l.getD i (0, 0)).1) ∧ w.cell? ⟨b, off + i * 2 + 1, none⟩ = some (.int .i64 (l.getD i (0, 0)).2)
theorem RdG.toB {w : World} {o : Option Addr} {l : List (Int × Int)} (h : RdG w o l) : RdGB w.heap.size w o l := h
theorem RdGB.rd {C : Nat} {w : World} {o : Option Addr} {l : List (Int × Int)} (h : RdGB C w o l) (hc : C ≤ w.heap.size) : RdG w o l := by
 rcases h with h | ⟨b, off, ho, hb, r⟩
 ·exact .inl h
 ·exact .inr ⟨b, off, ho, Nat.lt_of_lt_of_le hb hc, r⟩
theorem RdGB.kept {C D : Nat} {w w' : World} {o : Option Addr} {l : List (Int × Int)} (h : RdGB C w o l) (hb : Below D w w') (hc : C ≤ D) : RdGB C w' o l := by
 rcases h with h | ⟨b, off, ho, hlt, r⟩
 ·exact .inl h
 ·exact .inr ⟨b, off, ho, hlt, fun i hi => ⟨(hb.cell (p := ⟨b, off + i * 2, none⟩) (Nat.lt_of_lt_of_le hlt hc)).trans (r i hi).1, (hb.cell (p := ⟨b, off + i * 2 + 1, none⟩) (Nat.lt_of_lt_of_le hlt hc)).trans (r i hi).2⟩⟩

/-- A row of the call's own that holds the segs l. -/
abbrev ownG (w : World) (base : Nat) (v : Value) (l : List (Int × Int)) : Prop := w.ownsRow base 62 2 v l.length (cellsG l)
theorem ownG.rd {w : World} {base g n cap : Nat} {l : List (Int × Int)} (h : ownG w base (.slice (some ⟨g, 0, none⟩) n cap) l) : RdG w (some ⟨g, 0, none⟩) l := by
 have hn : n = l.length := by
  rcases h.2 with ⟨h', _⟩ | ⟨g', cap', cur, h', _⟩
  ·simp at h'
  ·simp at h'; exact h'.2.1
 subst hn
 refine .inr ⟨g, 0, rfl, (h.lt g rfl).2, fun i hi => ⟨?_, ?_⟩⟩
 ·have := h.cellAt (i * 2) (by omega)
  rw [Nat.zero_add, this, cellsG, List.getElem?_map, flatG_get0 l i hi]; rfl
 ·have := h.cellAt (i * 2 + 1) (by omega)
  rw [Nat.zero_add, this, cellsG, List.getElem?_map, flatG_get1 l i hi]; rfl
theorem ownG.open {w : World} {base : Nat} {v : Value} {l : List (Int × Int)} (h : ownG w base v l) : ∃ o cap, v = .slice o l.length cap ∧ RdG w o l := by
 have h0 := h
 rcases h.2 with ⟨h1, h2⟩ | ⟨g, cap, cur, hv, _⟩
 ·have e : l = [] := List.eq_nil_of_length_eq_zero h2
  subst e
  exact ⟨none, 0, by simpa using h1, .inl rfl⟩
 ·subst hv
  exact ⟨_, cap, rfl, h0.rd⟩
theorem ownG.rdo {w : World} {base n cap : Nat} {o : Option Addr} {l : List (Int × Int)} (h : ownG w base (.slice o n cap) l) : RdG w o l := by
 obtain ⟨o', cap', e, r⟩ := h.open
 simp at e
 rw [e.1]; exact r

theorem infoSeg : (Tryd.prog.info? 62).map (fun i => (i.zero, i.size, i.bytes)) = some (some (.agg #[.int .i64 0, .int .i64 0]), 2, 16) := by kernel_rfl
theorem takeG_succ (l : List (Int × Int)) (k : Nat) (h : k < l.length) : l.take (k + 1) = l.take k ++ [l.getD k (0, 0)] := by
 rw [List.take_succ_eq_append_getElem h]; simp [h]

end Go.Proofs.YtoeoiljddcjphaaDoor

