/- Helpers for this seat's proofs: what is kept of old memory, plain functions on numbers. -/
import Derived.Test.YtoeoiljddcjphaaRows
import Derived.WalkKit
import Derived.ProofKit
import Derived.OpenShut
import Derived.Below
import Derived.OwnWalk
import Derived.Outline
import Derived.Lib.SmallJoins
import Derived.WalkLawsBesides
namespace Go.Proofs.Ytoeoiljddcjphaa
open Go.ChangeShapes Go.WideShapes Go.ChangeAt Go.RowKit Go.Joins
set_option linter.unusedVariables false
set_option linter.unusedSimpArgs false

theorem own : ownKnob Try.prog.godebug = none := by kernel_rfl
theorem laidOut : laidOutB Try.prog = true := by kernel_rfl

/-- What was there ahead of a call reads as it did. -/
theorem bcell {W w1 : World} (hb : Below W.heap.size W w1) : (∀ b o, b < W.heap.size → w1.cell? ⟨b, o, none⟩ = W.cell? ⟨b, o, none⟩) ∧ (∀ b o, b < W.heap.size → w1.frozen? ⟨b, o, none⟩ = W.frozen? ⟨b, o, none⟩) :=
  ⟨fun b o h => hb.cell (p := ⟨b, o, none⟩) h, fun b o h => hb.frozen (p := ⟨b, o, none⟩) h⟩

theorem ret_bool {a b : Bool} (h : a = b) : Ending.returned (.bool a) = .returned (.bool b) := by rw [h]
theorem ret_int {k : IntKind} {a b : Int} (h : a = b) : Ending.returned (.int k a) = .returned (.int k b) := by rw [h]
theorem own_mono {w : World} {base base' : Nat} {e : TypeId} {size : Nat} {v : Value} {n : Nat} {xs : List Value} (h : w.ownsRow base e size v n xs) (hb : base' ≤ base) : w.ownsRow base' e size v n xs := by
  obtain ⟨h1, h2⟩ := h
  refine ⟨h1, ?_⟩
  rcases h2 with h2 | ⟨g, cap, cur, hv, hg, r⟩
  · exact .inl h2
  · exact .inr ⟨g, cap, cur, hv, Nat.le_trans hb hg, r⟩
theorem bool_no {b : Bool} {P : Prop} (hi : b = true ↔ P) (h : ¬ P) : false = b := by cases b <;> simp_all
theorem bool_yes {b : Bool} {P : Prop} (hi : b = true ↔ P) (h : P) : true = b := (hi.2 h).symm
theorem hide {p : Prop} (h : p) : Hid p := h

/-- Both numbers of a flow are sixteen bits. -/
def flowOkB (a b : Int) : Bool := decide (0 ≤ a) && decide (a < 65536) && decide (0 ≤ b) && decide (b < 65536)
theorem flowOkB_iff {a b : Int} : flowOkB a b = true ↔ 0 ≤ a ∧ a < 65536 ∧ 0 ≤ b ∧ b < 65536 := by simp [flowOkB, and_assoc]
def isWordB (a : Int) : Bool := decide (0 ≤ a) && decide (a ≤ 65535)
theorem flowOkB_words (a b : Int) : flowOkB a b = (isWordB a && isWordB b) := by
  rw [Bool.eq_iff_iff]; simp [flowOkB, isWordB]; omega

end Go.Proofs.Ytoeoiljddcjphaa
