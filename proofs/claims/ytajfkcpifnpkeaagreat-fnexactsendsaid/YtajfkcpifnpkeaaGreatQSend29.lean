/- Several texts in one: Segs, SegL, LFlow. -/
import Derived.Deep.SlicePairs
import Derived.Test.YtajfkcpifnpkeaaGreatQSend28
import Derived.Test.YtajfkcpifnpkeaaGreatQSend02
import Derived.Test.YtajfkcpifnpkeaaGreatQSend07
import Derived.Test.YtajfkcpifnpkeaaGreatQSend01
/- Slices of segs: how they read. -/
namespace Go.Proofs.YtajfkcpifnpkeaaGreat
open Go.ChangeShapes Go.WideShapes Go.ChangeAt Go.RowKit Go.Joins
set_option linter.unusedVariables false
set_option linter.unusedSimpArgs false

def flatG : List (Int × Int) → List Int
 | [] => []
 | p :: l => p.1 :: p.2 :: flatG l
theorem flatG_get0 : ∀ (l : List (Int × Int)) (i : Nat), i < l.length → (flatG l)[i * 2]? = some (l.getD i (0, 0)).1
 | p :: l, 0, _ => rfl
 | p :: l, i + 1, h => by
  have := flatG_get0 l i (by simpa using h)
  rw [show (i + 1) * 2 = i * 2 + 2 by omega]
  simpa [flatG] using this
theorem flatG_get1 : ∀ (l : List (Int × Int)) (i : Nat), i < l.length → (flatG l)[i * 2 + 1]? = some (l.getD i (0, 0)).2
 | p :: l, 0, _ => rfl
 | p :: l, i + 1, h => by
  have := flatG_get1 l i (by simpa using h)
  rw [show (i + 1) * 2 + 1 = i * 2 + 1 + 2 by omega]
  simpa [flatG] using this
def cellsG (l : List (Int × Int)) : List Value := (flatG l).map (Value.int .i64)

/-- The slice that begins at o reads as the segs l. -/
def RdG (w : World) (o : Option Addr) (l : List (Int × Int)) : Prop :=
 l = [] ∨ ∃ b off, o = some ⟨b, off, none⟩ ∧ b < w.heap.size ∧ ∀ i, i < l.length → w.cell? ⟨b, off + i * 2, none⟩ = some (.int .i64 (l.getD i (0, 0)).1) ∧ w.cell? ⟨b, off + i * 2 + 1, none⟩ = some (.int .i64 (l.getD i (0, 0)).2)

theorem RdG.kept {w w' : World} {o : Option Addr} {l : List (Int × Int)} (h : RdG w o l) (hb : Below w.heap.size w w') : RdG w' o l := by
 rcases h with h | ⟨b, off, ho, hlt, hc⟩
 ·exact .inl h
 ·exact .inr ⟨b, off, ho, Nat.lt_of_lt_of_le hlt hb.size, fun i hi => ⟨(hb.cell (p := ⟨b, off + i * 2, none⟩) hlt).trans (hc i hi).1, (hb.cell (p := ⟨b, off + i * 2 + 1, none⟩) hlt).trans (hc i hi).2⟩⟩

/-- As RdG, in a block below C. -/
def RdGB (C : Nat) (w : World) (o : Option Addr) (l : List (Int × Int)) : Prop :=
 l = [] ∨ ∃ b off, o = some ⟨b, off, none⟩ ∧ b < C ∧ ∀ i, i < l.length → w.cell? ⟨b, off + i * 2, none⟩ = some (.int .i64 (l.getD i (0, 0)).1) ∧ w.cell? ⟨b, off + i * 2 + 1, none⟩ = some (.int .i64 (l.getD i (0, 0)).2)
theorem RdGB.rd {C : Nat} {w : World} {o : Option Addr} {l : List (Int × Int)} (h : RdGB C w o l) (hc : C ≤ w.heap.size) : RdG w o l := by
 rcases h with h | ⟨b, off, ho, hb, r⟩
 ·exact .inl h
 ·exact .inr ⟨b, off, ho, Nat.lt_of_lt_of_le hb hc, r⟩
theorem RdGB.kept {C D : Nat} {w w' : World} {o : Option Addr} {l : List (Int × Int)} (h : RdGB C w o l) (hb : Below D w w') (hc : C ≤ D) : RdGB C w' o l := by
 rcases h with h | ⟨b, off, ho, hlt, r⟩
 ·exact .inl h
 ·exact .inr ⟨b, off, ho, hlt, fun i hi => ⟨(hb.cell (p := ⟨b, off + i * 2, none⟩) (Nat.lt_of_lt_of_le hlt hc)).trans (r i hi).1, (hb.cell (p := ⟨b, off + i * 2 + 1, none⟩) (Nat.lt_of_lt_of_le hlt hc)).trans (r i hi).2⟩⟩

/-- A row of the call's own that holds the segs l. -/
abbrev ownG (w : World) (base : Nat) (v : Value) (l : List (Int × Int)) : Prop := w.ownsRow base 126 2 v l.length (cellsG l)
theorem ownG.rd {w : World} {base g n cap : Nat} {l : List (Int × Int)} (h : ownG w base (.slice (some ⟨g, 0, none⟩) n cap) l) : RdG w (some ⟨g, 0, none⟩) l := by
 have hn : n = l.length := by
  rcases h.2 with ⟨h', _⟩ | ⟨g', cap', cur, h', _⟩
  ·simp at h'
  ·simp at h'; exact h'.2.1
 subst hn
 refine .inr ⟨g, 0, rfl, (h.lt g rfl).2, fun i hi => ⟨?_, ?_⟩⟩
 ·have := h.cellAt (i * 2) (by omega)
  rw [Nat.zero_add, this, cellsG, List.getElem?_map, flatG_get0 l i hi]; rfl
 ·have := h.cellAt (i * 2 + 1) (by omega)
  rw [Nat.zero_add, this, cellsG, List.getElem?_map, flatG_get1 l i hi]; rfl
theorem ownG.open {w : World} {base : Nat} {v : Value} {l : List (Int × Int)} (h : ownG w base v l) : ∃ o cap, v = .slice o l.length cap ∧ RdG w o l := by
 have h0 := h
 rcases h.2 with ⟨h1, h2⟩ | ⟨g, cap, cur, hv, _⟩
 ·have e : l = [] := List.eq_nil_of_length_eq_zero h2
  subst e
  exact ⟨none, 0, by simpa using h1, .inl rfl⟩
 ·subst hv
  exact ⟨_, cap, rfl, h0.rd⟩
theorem infoSeg : (Tryz.prog.info? 126).map (fun i => (i.zero, i.size, i.bytes)) = some (some (.agg #[.int .i64 0, .int .i64 0]), 2, 16) := by kernel_rfl
end Go.Proofs.YtajfkcpifnpkeaaGreat

/- Segs as a layout: what the laws by layout say of them. -/
namespace Go.Proofs.YtajfkcpifnpkeaaGreat
open Go.ChangeShapes Go.WideShapes Go.ChangeAt Go.RowKit Go.Joins
set_option linter.unusedVariables false
set_option linter.unusedSimpArgs false

def layG : Lay (Int × Int) := ⟨2, fun a => [.int .i64 a.1, .int .i64 a.2], (0, 0), fun _ => rfl⟩
theorem cellsG_flat : ∀ l : List (Int × Int), cellsG l = l.flatMap layG.cs
 | [] => rfl
 | a :: l => by
  have := cellsG_flat l
  unfold cellsG at this ⊢
  simp only [flatG, List.map_cons, List.flatMap_cons, this]
  rfl
theorem ownG_lay {w : World} {base : Nat} {v : Value} {l : List (Int × Int)} : ownG w base v l ↔ ownL layG 126 w base v l := by
 unfold ownG ownL; rw [cellsG_flat]; exact Iff.rfl
theorem RdG.lay {w : World} {o : Option Addr} {l : List (Int × Int)} (h : RdG w o l) : RdL layG w.heap.size w o l := by
 rcases h with h | ⟨b, off, ho, hb, r⟩
 ·exact .inl h
 ·refine .inr ⟨b, off, ho, hb, fun i hi j hj => ?_⟩
  have hj2 : j = 0 ∨ j = 1 := by have : j < 2 := hj; omega
  rcases hj2 with rfl | rfl
  ·exact (r i hi).1
  ·exact (r i hi).2
theorem appG : AppOk layG 64 126 := ⟨Tryz.underlying64, ⟨_, _, infoSeg, rfl, by decide⟩, by decide, fun a u hu => by
 simp [layG] at hu; rcases hu with rfl | rfl <;> rfl⟩

end Go.Proofs.YtajfkcpifnpkeaaGreat

/- Contracts of the laws' own helpers over flows: a flow that came in, its copy, its comparison. -/
namespace Go.Proofs.YtajfkcpifnpkeaaGreat
open Go.ChangeShapes Go.WideShapes Go.ChangeAt Go.RowKit Go.Joins
set_option linter.unusedVariables false
set_option linter.unusedSimpArgs false

theorem cellsLawsFlow : Tryz.prog.cellsOf 59 = 2 := by kernel_rfl

set_option maxHeartbeats 400000 in
theorem toFlow_any (a b : Int) (w : World) :
  Calls Tryz.prog 36 #[.agg #[.int .i64 a, .int .i64 b]] w fun e w' => e = .returned (.agg #[.int .i64 a, .int .i64 b]) ∧ Below w.heap.size w w' := by
 have hB : Below w.heap.size w w := Below.refl _ _
 go_enter Tryz.func36, Tryz.ntmps36
 go_wp2
 refine bodyPost_ret (v := .agg #[.int .i64 a, .int .i64 b]) (by simp [results, Tryz.results36, go_sem]) rfl ⟨rfl, ?_⟩
 (repeat (first | with_reducible exact hB | with_reducible exact Below.refl _ _ | with_reducible refine Below.drew ?_ | with_reducible refine below_drewN ?_ _ | with_reducible refine Below.alloc ?_ ?_ _ | with_reducible refine Below.setCell ?_ ?_ _ | (focus (simp; done)) | (focus (simp; omega)) | omega))

set_option maxHeartbeats 400000 in
theorem eqFlow_any (a b c d : Int) (w : World) :
  Calls Tryz.prog 77 #[.agg #[.int .i64 a, .int .i64 b], .agg #[.int .i64 c, .int .i64 d]] w fun e w' => e = .returned (.bool (decide (a = c ∧ b = d))) ∧ Below w.heap.size w w' := by
 have hB : Below w.heap.size w w := Below.refl _ _
 go_enter Tryz.func77, Tryz.ntmps77
 go_wp2
 all_goals go_ret
 all_goals refine ⟨?_, by (repeat (first | with_reducible exact hB | with_reducible exact Below.refl _ _ | with_reducible refine Below.drew ?_ | with_reducible refine below_drewN ?_ _ | with_reducible refine Below.alloc ?_ ?_ _ | with_reducible refine Below.setCell ?_ ?_ _ | (focus (simp; done)) | (focus (simp; omega)) | omega))⟩
 all_goals (simp_all)

theorem eqFlow_same (a b : Int) (w : World) :
  Calls Tryz.prog 77 #[.agg #[.int .i64 a, .int .i64 b], .agg #[.int .i64 a, .int .i64 b]] w fun e w' => e = .returned (.bool true) ∧ Below w.heap.size w w' := by
 have := eqFlow_any a b a b w
 simpa using this

end Go.Proofs.YtajfkcpifnpkeaaGreat

