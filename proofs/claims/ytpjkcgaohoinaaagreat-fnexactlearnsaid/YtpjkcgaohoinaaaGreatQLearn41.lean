/- Slices of segs: how they read. -/
import Derived.Deep.SlicePairs
import Derived.Test.YtpjkcgaohoinaaaGreatQLearn01
import Derived.Test.YtpjkcgaohoinaaaGreatQLearn02
namespace Go.Proofs.YtpjkcgaohoinaaaGreat
open Go.ChangeShapes Go.WideShapes Go.ChangeAt Go.RowKit Go.Joins
set_option linter.unusedVariables false
set_option linter.unusedSimpArgs false

def RdG (w : World) (o : Option Addr) (l : List (Int × Int)) : Prop :=
 l = [] ∨ ∃ b off, o = some ⟨b, off, none⟩ ∧ b < w.heap.size ∧ ∀ i, i < l.length → w.cell? ⟨b, off + i * 2, none⟩ = some (.int .i64 (l.getD i (0, 0)).1) ∧ w.cell? ⟨b, off + i * 2 + 1, none⟩ = some (.int .i64 (l.getD i (0, 0)).2)

theorem RdG.kept {w w' : World} {o : Option Addr} {l : List (Int × Int)} (h : RdG w o l) (hb : Below w.heap.size w w') : RdG w' o l := by
 rcases h with h | ⟨b, off, ho, hlt, hc⟩
 ·exact .inl h
 ·exact .inr ⟨b, off, ho, Nat.lt_of_lt_of_le hlt hb.size, fun i hi => ⟨(hb.cell (p := ⟨b, off + i * 2, none⟩) hlt).trans (hc i hi).1, (hb.cell (p := ⟨b, off + i * 2 + 1, none⟩) hlt).trans (hc i hi).2⟩⟩

def RdGB (C : Nat) (w : World) (o : Option Addr) (l : List (Int × Int)) : Prop :=
 l = [] ∨ ∃ b off, o = some ⟨b, off, none⟩ ∧ b < C ∧ ∀ i, i < l.length → w.cell? ⟨b, off + i * 2, none⟩ = some (.int .i64 (l.getD i (0, 0)).1) ∧ w.cell? ⟨b, off + i * 2 + 1, none⟩ = some (.int .i64 (l.getD i (0, 0)).2)
theorem RdGB.rd {C : Nat} {w : World} {o : Option Addr} {l : List (Int × Int)} (h : RdGB C w o l) (hc : C ≤ w.heap.size) : RdG w o l := by
 rcases h with h | ⟨b, off, ho, hb, r⟩
 ·exact .inl h
 ·exact .inr ⟨b, off, ho, Nat.lt_of_lt_of_le hb hc, r⟩
theorem RdGB.kept {C D : Nat} {w w' : World} {o : Option Addr} {l : List (Int × Int)} (h : RdGB C w o l) (hb : Below D w w') (hc : C ≤ D) : RdGB C w' o l := by
 rcases h with h | ⟨b, off, ho, hlt, r⟩
 ·exact .inl h
 ·exact .inr ⟨b, off, ho, hlt, fun i hi => ⟨(hb.cell (p := ⟨b, off + i * 2, none⟩) (Nat.lt_of_lt_of_le hlt hc)).trans (r i hi).1, (hb.cell (p := ⟨b, off + i * 2 + 1, none⟩) (Nat.lt_of_lt_of_le hlt hc)).trans (r i hi).2⟩⟩

end Go.Proofs.YtpjkcgaohoinaaaGreat

