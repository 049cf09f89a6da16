/- Several texts in one: Base, SFlow, SSeg. -/
import Derived.WalkKit
import Derived.ProofKit
import Derived.OpenShut
import Derived.Below
import Derived.OwnWalk
import Derived.Outline
import Derived.Lib.SmallJoins
import Derived.WalkLawsBesides
import Derived.Test.YtoeoiljddcjphaaDoorRows
/- Helpers for this seat's proofs: what is kept of old memory, plain functions on numbers. -/
namespace Go.Proofs.YtoeoiljddcjphaaDoor
open Go.ChangeShapes Go.WideShapes Go.ChangeAt Go.RowKit Go.Joins
set_option linter.unusedVariables false
set_option linter.unusedSimpArgs false

theorem own : ownKnob Tryd.prog.godebug = none := by kernel_rfl
theorem laidOut : laidOutB Tryd.prog = true := by kernel_rfl

/-- What was there ahead of a call reads as it did. -/
theorem bcell {W w1 : World} (hb : Below W.heap.size W w1) : (∀ b o, b < W.heap.size → w1.cell? ⟨b, o, none⟩ = W.cell? ⟨b, o, none⟩) ∧ (∀ b o, b < W.heap.size → w1.frozen? ⟨b, o, none⟩ = W.frozen? ⟨b, o, none⟩) :=
 ⟨fun b o h => hb.cell (p := ⟨b, o, none⟩) h, fun b o h => hb.frozen (p := ⟨b, o, none⟩) h⟩

theorem ret_bool {a b : Bool} (h : a = b) : Ending.returned (.bool a) = .returned (.bool b) := by rw [h]
theorem ret_int {k : IntKind} {a b : Int} (h : a = b) : Ending.returned (.int k a) = .returned (.int k b) := by rw [h]
theorem own_mono {w : World} {base base' : Nat} {e : TypeId} {size : Nat} {v : Value} {n : Nat} {xs : List Value} (h : w.ownsRow base e size v n xs) (hb : base' ≤ base) : w.ownsRow base' e size v n xs := by
 obtain ⟨h1, h2⟩ := h
 refine ⟨h1, ?_⟩
 rcases h2 with h2 | ⟨g, cap, cur, hv, hg, r⟩
 ·exact .inl h2
 ·exact .inr ⟨g, cap, cur, hv, Nat.le_trans hb hg, r⟩
theorem bool_no {b : Bool} {P : Prop} (hi : b = true ↔ P) (h : ¬ P) : false = b := by cases b <;> simp_all
theorem hide {p : Prop} (h : p) : Hid p := h

/-- Both numbers of a flow are sixteen bits. -/
def flowOkB (a b : Int) : Bool := decide (0 ≤ a) && decide (a < 65536) && decide (0 ≤ b) && decide (b < 65536)
theorem flowOkB_iff {a b : Int} : flowOkB a b = true ↔ 0 ≤ a ∧ a < 65536 ∧ 0 ≤ b ∧ b < 65536 := by simp [flowOkB, and_assoc]
def isWordB (a : Int) : Bool := decide (0 ≤ a) && decide (a ≤ 65535)
theorem flowOkB_words (a b : Int) : flowOkB a b = (isWordB a && isWordB b) := by
 rw [Bool.eq_iff_iff]; simp [flowOkB, isWordB]; omega

end Go.Proofs.YtoeoiljddcjphaaDoor

/- Contracts of FlowOk, on both sides. -/
namespace Go.Proofs.YtoeoiljddcjphaaDoor
open Go.ChangeShapes Go.WideShapes Go.ChangeAt Go.RowKit Go.Joins
set_option linter.unusedVariables false
set_option linter.unusedSimpArgs false

set_option maxHeartbeats 400000 in
theorem specFlowOk_any (a b : Int) (w : World) :
  Calls Tryd.prog 58 #[.agg #[.int .i64 a, .int .i64 b]] w fun e w' => e = .returned (.bool (flowOkB a b)) ∧ Below w.heap.size w w' := by
 have hB : Below w.heap.size w w := Below.refl _ _
 go_enter Tryd.func58, Tryd.ntmps58
 go_wp2
 all_goals go_ret
 all_goals refine ⟨?_, by (repeat (first | with_reducible exact hB | with_reducible exact Below.refl _ _ | with_reducible refine Below.drew ?_ | with_reducible refine below_drewN ?_ _ | with_reducible refine Below.alloc ?_ ?_ _ | with_reducible refine Below.setCell ?_ ?_ _ | (focus (simp; done)) | (focus (simp; omega)) | omega))⟩
 all_goals first | (simp [flowOkB, *]; done) | (simp [flowOkB]; omega)

set_option maxHeartbeats 400000 in
theorem implFlowOk_any (a b : Int) (w : World) :
  Calls Tryd.prog 59 #[.agg #[.int .i64 a, .int .i64 b]] w fun e w' => e = .returned (.bool (flowOkB a b)) ∧ Below w.heap.size w w' := by
 rw [flowOkB_words]
 have hB : Below w.heap.size w w := Below.refl _ _
 go_enter Tryd.func59, Tryd.ntmps59
 go_wp2
 all_goals go_ret
 all_goals refine ⟨?_, by (repeat (first | with_reducible exact hB | with_reducible exact Below.refl _ _ | with_reducible refine Below.drew ?_ | with_reducible refine below_drewN ?_ _ | with_reducible refine Below.alloc ?_ ?_ _ | with_reducible refine Below.setCell ?_ ?_ _ | (focus (simp; done)) | (focus (simp; omega)) | omega))⟩
 all_goals first | (simp [isWordB, *]; done) | (simp [isWordB]; omega)

end Go.Proofs.YtoeoiljddcjphaaDoor

/- Contracts of SegOk, on both sides. -/
namespace Go.Proofs.YtoeoiljddcjphaaDoor
open Go.ChangeShapes Go.WideShapes Go.ChangeAt Go.RowKit Go.Joins
set_option linter.unusedVariables false
set_option linter.unusedSimpArgs false

/-- Back is one of six, Fn one of two. -/
def segOkB (b f : Int) : Bool := decide (0 ≤ b) && decide (b < 6) && decide (0 ≤ f) && decide (f ≤ 1)
theorem segOkB_iff {b f : Int} : segOkB b f = true ↔ 0 ≤ b ∧ b < 6 ∧ 0 ≤ f ∧ f ≤ 1 := by simp [segOkB, and_assoc]
theorem segOkB_parts {b f : Int} : segOkB b f = true ↔ (0 ≤ b ∧ b < 6 ∧ 0 ≤ f ∧ f ≤ 1 ∧ True) := by simp [segOkB, and_assoc]
abbrev seg (b f : Int) : Value := .agg #[.int .i64 b, .int .i64 f]

set_option maxHeartbeats 400000 in
theorem specSegOk_any (b f : Int) (w : World) :
  Calls Tryd.prog 29 #[seg b f] w fun e w' => e = .returned (.bool (segOkB b f)) ∧ Below w.heap.size w w' := by
 have hB : Below w.heap.size w w := Below.refl _ _
 go_enter Tryd.func29, Tryd.ntmps29
 go_wp2
 all_goals go_ret
 all_goals refine ⟨?_, by (repeat (first | with_reducible exact hB | with_reducible exact Below.refl _ _ | with_reducible refine Below.drew ?_ | with_reducible refine below_drewN ?_ _ | with_reducible refine Below.alloc ?_ ?_ _ | with_reducible refine Below.setCell ?_ ?_ _ | (focus (simp; done)) | (focus (simp; omega)) | omega))⟩
 all_goals first | (simp [segOkB, *]; done) | (simp [segOkB]; omega)

set_option maxHeartbeats 400000 in
theorem implSegOk_any (b f : Int) (w : World) :
  Calls Tryd.prog 62 #[seg b f] w fun e w' => e = .returned (.bool (segOkB b f)) ∧ Below w.heap.size w w' := by
 have hB : Below w.heap.size w w := Below.refl _ _
 by_cases h1 : 0 ≤ b
 ·by_cases h2 : b < 6
  ·by_cases h3 : 0 ≤ f
   ·by_cases h4 : f ≤ 1
    ·by_cases h7 : f = 0
     ·subst h7
      have HY := hide (show true = segOkB b 0 by simp [segOkB, h1, h2])
      go_enter Tryd.func62, Tryd.ntmps62
      go_wp2
      go_ret
      exact ⟨ret_bool HY.out, by (repeat (first | with_reducible exact hB | with_reducible exact Below.refl _ _ | with_reducible refine Below.drew ?_ | with_reducible refine below_drewN ?_ _ | with_reducible refine Below.alloc ?_ ?_ _ | with_reducible refine Below.setCell ?_ ?_ _ | (focus (simp; done)) | (focus (simp; omega)) | omega))⟩
     ·have h8 : f = 1 := by omega
      subst h8
      have HY := hide (show true = segOkB b 1 by simp [segOkB, h1, h2])
      go_enter Tryd.func62, Tryd.ntmps62
      go_wp2
      go_ret
      exact ⟨ret_bool HY.out, by (repeat (first | with_reducible exact hB | with_reducible exact Below.refl _ _ | with_reducible refine Below.drew ?_ | with_reducible refine below_drewN ?_ _ | with_reducible refine Below.alloc ?_ ?_ _ | with_reducible refine Below.setCell ?_ ?_ _ | (focus (simp; done)) | (focus (simp; omega)) | omega))⟩
    ·have HN := hide (bool_no (segOkB_parts (b := b) (f := f)) (fun q => h4 q.2.2.2.1))
     go_enter Tryd.func62, Tryd.ntmps62
     go_wp2
     all_goals go_ret
     all_goals refine ⟨ret_bool ?_, by (repeat (first | with_reducible exact hB | with_reducible exact Below.refl _ _ | with_reducible refine Below.drew ?_ | with_reducible refine below_drewN ?_ _ | with_reducible refine Below.alloc ?_ ?_ _ | with_reducible refine Below.setCell ?_ ?_ _ | (focus (simp; done)) | (focus (simp; omega)) | omega))⟩
     all_goals first | exact HN.out | (rw [← HN.out]; simp; omega)
   ·have HN := hide (bool_no (segOkB_parts (b := b) (f := f)) (fun q => h3 q.2.2.1))
    go_enter Tryd.func62, Tryd.ntmps62
    go_wp2
    all_goals go_ret
    all_goals refine ⟨ret_bool ?_, by (repeat (first | with_reducible exact hB | with_reducible exact Below.refl _ _ | with_reducible refine Below.drew ?_ | with_reducible refine below_drewN ?_ _ | with_reducible refine Below.alloc ?_ ?_ _ | with_reducible refine Below.setCell ?_ ?_ _ | (focus (simp; done)) | (focus (simp; omega)) | omega))⟩
    all_goals first | exact HN.out | (rw [← HN.out]; simp; omega)
  ·have HN := hide (bool_no (segOkB_parts (b := b) (f := f)) (fun q => h2 q.2.1))
   go_enter Tryd.func62, Tryd.ntmps62
   go_wp2
   all_goals go_ret
   all_goals refine ⟨ret_bool ?_, by (repeat (first | with_reducible exact hB | with_reducible exact Below.refl _ _ | with_reducible refine Below.drew ?_ | with_reducible refine below_drewN ?_ _ | with_reducible refine Below.alloc ?_ ?_ _ | with_reducible refine Below.setCell ?_ ?_ _ | (focus (simp; done)) | (focus (simp; omega)) | omega))⟩
   all_goals first | exact HN.out | (rw [← HN.out]; simp; omega)
 ·have HN := hide (bool_no (segOkB_parts (b := b) (f := f)) (fun q => h1 q.1))
  go_enter Tryd.func62, Tryd.ntmps62
  go_wp2
  all_goals go_ret
  all_goals refine ⟨ret_bool ?_, by (repeat (first | with_reducible exact hB | with_reducible exact Below.refl _ _ | with_reducible refine Below.drew ?_ | with_reducible refine below_drewN ?_ _ | with_reducible refine Below.alloc ?_ ?_ _ | with_reducible refine Below.setCell ?_ ?_ _ | (focus (simp; done)) | (focus (simp; omega)) | omega))⟩
  all_goals first | exact HN.out | (rw [← HN.out]; simp; omega)

end Go.Proofs.YtoeoiljddcjphaaDoor

