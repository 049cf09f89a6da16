/- The boxes of packets. -/
import Derived.Test.YtoeoiljddcjphaaBytes
namespace Go.Proofs.Ytoeoiljddcjphaa
open Go.ChangeShapes Go.WideShapes Go.ChangeAt Go.RowKit Go.Joins
set_option linter.unusedVariables false
set_option linter.unusedSimpArgs false

abbrev pkt (a b f s : Int) (v : Value) : Value := .agg #[.int .i64 a, .int .i64 b, .int .i64 f, .int .i64 s, v]

/-- The cells of a packet's box that are read. -/
def boxed (k : Nat) (a b f s : Int) (v : Value) (w : World) : Prop :=
  w.cell? ⟨k, 0, none⟩ = some (.int .i64 a) ∧ w.cell? ⟨k, 1, none⟩ = some (.int .i64 b) ∧ w.cell? ⟨k, 2, none⟩ = some (.int .i64 f) ∧ w.cell? ⟨k, 3, none⟩ = some (.int .i64 s) ∧ w.cell? ⟨k, 4, none⟩ = some v
theorem boxed.kept {k : Nat} {a b f s : Int} {v : Value} {w w' : World} {B : Nat} (h : boxed k a b f s v w) (hb : Below B w w') (hk : k < B) : boxed k a b f s v w' :=
  ⟨(hb.cell (p := ⟨k, 0, none⟩) hk).trans h.1, (hb.cell (p := ⟨k, 1, none⟩) hk).trans h.2.1, (hb.cell (p := ⟨k, 2, none⟩) hk).trans h.2.2.1, (hb.cell (p := ⟨k, 3, none⟩) hk).trans h.2.2.2.1, (hb.cell (p := ⟨k, 4, none⟩) hk).trans h.2.2.2.2⟩
theorem boxed_new (w : World) (a b f s : Int) (v : Value) (e : TypeId) : boxed w.heap.size a b f s v (w.alloc (.cells #[.int .i64 a, .int .i64 b, .int .i64 f, .int .i64 s, v] e)) := by
  unfold boxed; simp

/-- The box of a result that is not yet written. -/
def empty5 (k : Nat) (w : World) : Prop := boxed k 0 0 0 0 (.slice none 0 0) w ∧ (w.frozen? ⟨k, 0, none⟩ = false ∧ w.frozen? ⟨k, 1, none⟩ = false ∧ w.frozen? ⟨k, 2, none⟩ = false ∧ w.frozen? ⟨k, 3, none⟩ = false ∧ w.frozen? ⟨k, 4, none⟩ = false)
theorem empty5.kept {k : Nat} {w w' : World} {B : Nat} (h : empty5 k w) (hb : Below B w w') (hk : k < B) : empty5 k w' :=
  ⟨h.1.kept hb hk, (hb.frozen (p := ⟨k, 0, none⟩) hk).trans h.2.1, (hb.frozen (p := ⟨k, 1, none⟩) hk).trans h.2.2.1, (hb.frozen (p := ⟨k, 2, none⟩) hk).trans h.2.2.2.1, (hb.frozen (p := ⟨k, 3, none⟩) hk).trans h.2.2.2.2.1, (hb.frozen (p := ⟨k, 4, none⟩) hk).trans h.2.2.2.2.2⟩
theorem empty5_new (w : World) (e : TypeId) : empty5 w.heap.size (w.alloc (.cells #[.int .i64 0, .int .i64 0, .int .i64 0, .int .i64 0, .slice none 0 0] e)) := by
  unfold empty5 boxed; simp

/-- A cell far from a box that is written whole. -/
theorem far_box {w : World} {b k o : Nat} {u v0 v1 v2 v3 v4 : Value} (hne : b ≠ k) (h : w.cell? ⟨b, o, none⟩ = some u) :
    (((((w.setCell ⟨k, 0, none⟩ v0).setCell ⟨k, 1, none⟩ v1).setCell ⟨k, 2, none⟩ v2).setCell ⟨k, 3, none⟩ v3).setCell ⟨k, 4, none⟩ v4).cell? ⟨b, o, none⟩ = some u := by
  have e : ∀ (w : World) (q : Nat) (v : Value), (w.setCell ⟨k, q, none⟩ v).cell? ⟨b, o, none⟩ = w.cell? ⟨b, o, none⟩ := fun w q v =>
    World.cell?_of_block (w := w) (Below.heap_setCell w ⟨k, q, none⟩ v b hne)
  rw [e, e, e, e, e, h]

end Go.Proofs.Ytoeoiljddcjphaa
