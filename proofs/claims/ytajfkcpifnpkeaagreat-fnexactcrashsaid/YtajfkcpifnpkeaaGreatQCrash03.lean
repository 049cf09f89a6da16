/- Several texts in one: BalMath, CutMath, SBNewS. -/
import Derived.Deep.RegionHeld3
import Derived.Deep.CutRange
import Derived.BigQuiet
import Derived.ChangeKeysEq
import Derived.Laws.StructEq
import Derived.Test.YtajfkcpifnpkeaaGreatGrSPw2
import Derived.Test.YtajfkcpifnpkeaaGreatGrSJCut
import Derived.Test.YtajfkcpifnpkeaaGreatGrSMoved
import Derived.Test.YtajfkcpifnpkeaaGreatGrOpenB
import Derived.Test.YtajfkcpifnpkeaaGreatGrInts
import Derived.Test.YtajfkcpifnpkeaaGreatQCrash02
import Derived.Test.YtajfkcpifnpkeaaGreatGrSBOk
import Derived.Test.YtajfkcpifnpkeaaGreatQCrash01
/- A balancer that may be: its pool is what its journal tells. -/
namespace Go.Proofs.YtajfkcpifnpkeaaGreat
open Go.ChangeShapes Go.WideShapes Go.ChangeAt Go.RowKit Go.Joins
set_option linter.unusedVariables false
set_option linter.unusedSimpArgs false


theorem balB_jrn {m : Bm} (h : balB m = true) : journalB m.j.key m.j.l m.j.safe = true := by
  unfold balB at h
  rw [Bool.and_eq_true] at h
  exact h.1
end Go.Proofs.YtajfkcpifnpkeaaGreat

/- What a cut leaves of a journal is a beginning of it. -/
namespace Go.Proofs.YtajfkcpifnpkeaaGreat
open Go.ChangeShapes Go.WideShapes Go.ChangeAt Go.RowKit Go.Joins
set_option linter.unusedVariables false
set_option linter.unusedSimpArgs false

theorem run_part {cs : List Cd} {q : Nat} (hq : q ≤ cs.length) (h : (runTo cs cs.length).isSome = true) : (runTo (cs.take q) (cs.take q).length).isSome = true := by
  have e : runTo (cs.take q) (cs.take q).length = runTo cs q := by
    unfold runTo
    rw [List.take_length]
  rw [e]
  cases h1 : runTo cs q with
  | some l => rfl
  | none => rw [runTo_none h1 hq] at h; exact h
theorem cut_part {m : Jm} {keep : Int} (h : cutB m keep = true) : ∃ q : Nat, cutM m keep = ⟨m.key, m.l.take q, (q : Int)⟩ ∧ q ≤ m.l.length ∧ m.safe ≤ (q : Int) ∧ journalB m.key (m.l.take q) (q : Int) = true := by
  unfold cutB at h
  rw [Bool.and_eq_true, decide_eq_true_eq] at h
  obtain ⟨h1, h2⟩ := h
  have hf := journal_facts h1
  have hr := journal_run h1
  have hn : 0 ≤ cutN m keep ∧ cutN m keep ≤ (m.l.length : Int) ∧ m.safe ≤ cutN m keep := by unfold cutN; split <;> omega
  refine ⟨(cutN m keep).toNat, ?_, by omega, by omega, ?_⟩
  · unfold cutM
    rw [if_pos (by unfold cutB; rw [h1]; simpa using h2)]
    congr 1
    omega
  · have hl : (m.l.take (cutN m keep).toNat).length = (cutN m keep).toNat := by rw [List.length_take]; omega
    have h3 := run_part (cs := m.l) (q := (cutN m keep).toNat) (by omega) hr
    unfold journalB
    simp only [Bool.and_eq_true, decide_eq_true_eq]
    exact ⟨⟨⟨⟨hf.1, by omega⟩, by omega⟩, by omega⟩, h3⟩
theorem cut_jrn {m : Jm} {keep : Int} (h : journalB m.key m.l m.safe = true) (hk : 0 ≤ keep) : journalB (cutM m keep).key (cutM m keep).l (cutM m keep).safe = true := by
  have hc : cutB m keep = true := by unfold cutB; rw [h, decide_eq_true hk]; rfl
  obtain ⟨q, e, _, _, h4⟩ := cut_part hc
  rw [e]
  exact h4

end Go.Proofs.YtajfkcpifnpkeaaGreat

/- The model's BalNew. -/
namespace Go.Proofs.YtajfkcpifnpkeaaGreat
open Go.ChangeShapes Go.WideShapes Go.ChangeAt Go.RowKit Go.Joins
set_option linter.unusedVariables false
set_option linter.unusedSimpArgs false


theorem setB_cells {W : World} {R : Nat} {z0 z1 z2 z3 z4 z5 z6 : Value} {T : TypeId} (h : W.heap[R]? = some (.cells #[z0, z1, z2, z3, z4, z5, z6] T (0, 0))) (x0 x1 x2 x3 x4 x5 x6 : Value) (O : Obj) : ((setB W R x0 x1 x2 x3 x4 x5 x6).alloc O).heap[R]? = some (.cells #[x0, x1, x2, x3, x4, x5, x6] T (0, 0)) := by
  have h1 : (W.setCell ⟨R, 0, none⟩ x0).heap[R]? = some (.cells #[x0, z1, z2, z3, z4, z5, z6] T (0, 0)) := box_put h 0 x0
  have h2 : ((W.setCell ⟨R, 0, none⟩ x0).setCell ⟨R, 1, none⟩ x1).heap[R]? = some (.cells #[x0, x1, z2, z3, z4, z5, z6] T (0, 0)) := box_put h1 1 x1
  have h3 : (((W.setCell ⟨R, 0, none⟩ x0).setCell ⟨R, 1, none⟩ x1).setCell ⟨R, 2, none⟩ x2).heap[R]? = some (.cells #[x0, x1, x2, z3, z4, z5, z6] T (0, 0)) := box_put h2 2 x2
  have h4 : ((((W.setCell ⟨R, 0, none⟩ x0).setCell ⟨R, 1, none⟩ x1).setCell ⟨R, 2, none⟩ x2).setCell ⟨R, 3, none⟩ x3).heap[R]? = some (.cells #[x0, x1, x2, x3, z4, z5, z6] T (0, 0)) := box_put h3 3 x3
  have h5 : (((((W.setCell ⟨R, 0, none⟩ x0).setCell ⟨R, 1, none⟩ x1).setCell ⟨R, 2, none⟩ x2).setCell ⟨R, 3, none⟩ x3).setCell ⟨R, 4, none⟩ x4).heap[R]? = some (.cells #[x0, x1, x2, x3, x4, z5, z6] T (0, 0)) := box_put h4 4 x4
  have h6 : ((((((W.setCell ⟨R, 0, none⟩ x0).setCell ⟨R, 1, none⟩ x1).setCell ⟨R, 2, none⟩ x2).setCell ⟨R, 3, none⟩ x3).setCell ⟨R, 4, none⟩ x4).setCell ⟨R, 5, none⟩ x5).heap[R]? = some (.cells #[x0, x1, x2, x3, x4, x5, z6] T (0, 0)) := box_put h5 5 x5
  have h7 : (((((((W.setCell ⟨R, 0, none⟩ x0).setCell ⟨R, 1, none⟩ x1).setCell ⟨R, 2, none⟩ x2).setCell ⟨R, 3, none⟩ x3).setCell ⟨R, 4, none⟩ x4).setCell ⟨R, 5, none⟩ x5).setCell ⟨R, 6, none⟩ x6).heap[R]? = some (.cells #[x0, x1, x2, x3, x4, x5, x6] T (0, 0)) := box_put h6 6 x6
  exact (((Below.refl _ _).alloc (Nat.le_refl _) O).block R (Array.getElem?_eq_some_iff.1 h7).1).trans h7
theorem cell_alloc {w : World} {b j : Nat} {u : Value} (h : w.cell? ⟨b, j, none⟩ = some u) (hz : b < w.heap.size) (O : Obj) : (w.alloc O).cell? ⟨b, j, none⟩ = some u := bC ((Below.refl _ _).alloc (Nat.le_refl _) O) h hz
theorem frozen_alloc {w : World} {b j : Nat} (h : w.frozen? ⟨b, j, none⟩ = false) (hz : b < w.heap.size) (O : Obj) : (w.alloc O).frozen? ⟨b, j, none⟩ = false := bF ((Below.refl _ _).alloc (Nat.le_refl _) O) h hz
end Go.Proofs.YtajfkcpifnpkeaaGreat

