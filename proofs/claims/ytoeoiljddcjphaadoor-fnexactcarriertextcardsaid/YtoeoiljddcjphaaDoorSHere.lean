/- Here on both sides. -/
import Derived.Test.YtoeoiljddcjphaaDoorSCarr2
namespace Go.Proofs.YtoeoiljddcjphaaDoor
open Go.ChangeShapes Go.WideShapes Go.ChangeAt Go.RowKit Go.Joins
set_option linter.unusedVariables false
set_option linter.unusedSimpArgs false

theorem carrierOkB_head {a b f s : Int} {n : Nat} {g : List (Int × Int)} {pl st : Int} (h : carrierOkB a b f s n g pl st = true) : packetOkB a b f s n = true ∧ 1 ≤ (g.length : Int) ∧ (g.length : Int) ≤ 24 ∧ 0 ≤ pl ∧ pl < (g.length : Int) ∧ 0 ≤ st ∧ st ≤ 100000 := by
  have h1 : headB a b f s n g.length pl st = true := by unfold carrierOkB at h; cases hh : headB a b f s n g.length pl st <;> simp_all
  have := headB_iff.1 h1
  exact ⟨this.1, this.2.1, this.2.2.1, this.2.2.2.1, this.2.2.2.2.1, this.2.2.2.2.2.1, this.2.2.2.2.2.2.1⟩
def hereI (ok : Bool) (g : List (Int × Int)) (pl : Int) : Int × Int := if ok then g.getD pl.toNat (0, 0) else (0, 0)

/-- A box of two cells behind a store of both. -/
theorem put2 {w : World} {B : Nat} {u v q0 q1 : Value} (h0 : w.cell? ⟨B, 0, none⟩ = some q0) (h1 : w.cell? ⟨B, 1, none⟩ = some q1) :
    ((w.setCell ⟨B, 0, none⟩ u).setCell ⟨B, 1, none⟩ v).cell? ⟨B, 0, none⟩ = some u ∧ ((w.setCell ⟨B, 0, none⟩ u).setCell ⟨B, 1, none⟩ v).cell? ⟨B, 1, none⟩ = some v :=
  ⟨(World.cell?_setCell_other _ _ _ _ (by simp)).trans (World.cell?_setCell_same _ _ _ h0), World.cell?_setCell_same _ _ _ ((World.cell?_setCell_other _ _ _ _ (by simp)).trans h1)⟩
theorem block_frozen {W : World} {B : Nat} {c : Array Value} {t : TypeId} (h : W.heap[B]? = some (.cells c t (0, 0))) (j : Nat) : W.frozen? ⟨B, j, none⟩ = false := by
  simp [World.frozen?, h]

end Go.Proofs.YtoeoiljddcjphaaDoor
