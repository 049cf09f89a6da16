/- Several texts in one: SDraw2, Boxes. -/
import Derived.Test.YtiijecnhbioehaaSDraw
import Derived.Test.YtiijecnhbioehaaApp
import Derived.Test.YtiijecnhbioehaaBytes
/- Draws of numbers out of a list, and of bytes. -/
namespace Go.Proofs.Ytiijecnhbioehaa
open Go.ChangeShapes Go.WideShapes Go.ChangeAt Go.RowKit Go.Joins
set_option linter.unusedVariables false
set_option linter.unusedSimpArgs false

theorem grown_cell {w w' : World} {k g o : Nat} (h : w.grownBy w' (some k)) (hg : g < w.heap.size) (hne : g ≠ k) : w'.cell? ⟨g, o, none⟩ = w.cell? ⟨g, o, none⟩ :=
  World.cell?_of_block (w := w) (h.block g hg (by simp [hne]))

set_option maxHeartbeats 1000000 in
theorem l1PickInt_any (k g : Nat) (vs : List Int) (w : World) (hc : isCur k w) (hg : g < w.heap.size) (hne : g ≠ k) (h0 : 0 < vs.length) (h1 : vs.length ≤ 1000) (hcell : ∀ q, q < vs.length → w.cell? ⟨g, q, none⟩ = some (.int .i64 (vs.getD q 0))) :
    Calls Try.prog 58 #[.pointer (some ⟨k, 0, none⟩), .slice (some ⟨g, 0, none⟩) vs.length vs.length] w fun e w' => ∃ q : Nat, q < vs.length ∧ e = .returned (.int .i64 (vs.getD q 0)) ∧ isCur k w' ∧ w.grownBy w' (some k) := by
  generalize hn : vs.length = n at *
  go_enter Try.func58, Try.ntmps58
  go_wp2_with fail
  refine (l1Below_any k (n : Int) _ hc (by omega) (by omega)).mono ?_
  rintro e w1 ⟨x, rfl, hx0, hx1, hc1, hg1⟩
  obtain ⟨q, rfl⟩ := Int.eq_ofNat_of_zero_le hx0
  have hq : q < n := by omega
  have c := (grown_cell hg1 hg hne).trans (hcell q hq)
  have HC := hide hc1
  have HG := hide hg1
  clear hc hc1 hg1 hcell
  generalize hy : vs.getD q 0 = y at *
  have HY := hide hy
  clear hy
  go_wp2
  go_ret
  exact ⟨q, hq, ret_int HY.out.symm, HC.out, HG.out⟩

theorem rd_one (w : World) (x : Int) (e : TypeId) : Rd (w.alloc (.cells #[.int .u8 x] e)) (some ⟨w.heap.size, 0, none⟩) [x] := by
  right
  refine ⟨w.heap.size, 0, rfl, by simp, fun i hi => ?_⟩
  have : i = 0 := by simpa using hi
  subst this
  simp
theorem own_other {w w' : World} {base k : Nat} {v : Value} {l : List Int} (h : ownB w base v l) (hg : w.grownBy w' (some k)) (hk : k < base) : ownB w' base v l :=
  h.kept hg (by
    cases hob : v.ownBlock with
    | none => exact .inl rfl
    | some j => right; have := (h.lt j hob).1; intro e; simp at e; omega)
theorem below_of_grown {w w' : World} {k : Nat} (h : w.grownBy w' (some k)) (hk : k < w.heap.size) : Below k w w' := (Below.refl _ _).grown h (Nat.le_of_lt hk) (fun j e => by cases e; exact Nat.le_refl _)
theorem isCur.below {k : Nat} {w w' : World} (h : isCur k w) (hb : Below (k + 1) w w') : isCur k w' := by
  obtain ⟨o, cap, l, i, hh, c⟩ := h
  exact ⟨o, cap, l, i, hh, ⟨(hb.cell (p := ⟨k, 0, none⟩) (Nat.lt_succ_self _)).trans c.c0, (hb.cell (p := ⟨k, 1, none⟩) (Nat.lt_succ_self _)).trans c.c1, (hb.cell (p := ⟨k, 2, none⟩) (Nat.lt_succ_self _)).trans c.c2,
    (hb.frozen (p := ⟨k, 1, none⟩) (Nat.lt_succ_self _)).trans c.f1, (hb.frozen (p := ⟨k, 2, none⟩) (Nat.lt_succ_self _)).trans c.f2, c.ml, c.rd.kept hb (Nat.le_succ _), c.b8, c.i0, c.i1⟩⟩

end Go.Proofs.Ytiijecnhbioehaa

/- The boxes of packets. -/
namespace Go.Proofs.Ytiijecnhbioehaa
open Go.ChangeShapes Go.WideShapes Go.ChangeAt Go.RowKit Go.Joins
set_option linter.unusedVariables false
set_option linter.unusedSimpArgs false

abbrev pkt (a b f s : Int) (v : Value) : Value := .agg #[.int .i64 a, .int .i64 b, .int .i64 f, .int .i64 s, v]

/-- The cells of a packet's box that are read. -/
def boxed (k : Nat) (a b f s : Int) (v : Value) (w : World) : Prop :=
  w.cell? ⟨k, 0, none⟩ = some (.int .i64 a) ∧ w.cell? ⟨k, 1, none⟩ = some (.int .i64 b) ∧ w.cell? ⟨k, 2, none⟩ = some (.int .i64 f) ∧ w.cell? ⟨k, 3, none⟩ = some (.int .i64 s) ∧ w.cell? ⟨k, 4, none⟩ = some v
theorem boxed.kept {k : Nat} {a b f s : Int} {v : Value} {w w' : World} {B : Nat} (h : boxed k a b f s v w) (hb : Below B w w') (hk : k < B) : boxed k a b f s v w' :=
  ⟨(hb.cell (p := ⟨k, 0, none⟩) hk).trans h.1, (hb.cell (p := ⟨k, 1, none⟩) hk).trans h.2.1, (hb.cell (p := ⟨k, 2, none⟩) hk).trans h.2.2.1, (hb.cell (p := ⟨k, 3, none⟩) hk).trans h.2.2.2.1, (hb.cell (p := ⟨k, 4, none⟩) hk).trans h.2.2.2.2⟩
theorem boxed_new (w : World) (a b f s : Int) (v : Value) (e : TypeId) : boxed w.heap.size a b f s v (w.alloc (.cells #[.int .i64 a, .int .i64 b, .int .i64 f, .int .i64 s, v] e)) := by
  unfold boxed; simp

/-- The box of a result that is not yet written. -/
def empty5 (k : Nat) (w : World) : Prop := boxed k 0 0 0 0 (.slice none 0 0) w ∧ (w.frozen? ⟨k, 0, none⟩ = false ∧ w.frozen? ⟨k, 1, none⟩ = false ∧ w.frozen? ⟨k, 2, none⟩ = false ∧ w.frozen? ⟨k, 3, none⟩ = false ∧ w.frozen? ⟨k, 4, none⟩ = false)
theorem empty5.kept {k : Nat} {w w' : World} {B : Nat} (h : empty5 k w) (hb : Below B w w') (hk : k < B) : empty5 k w' :=
  ⟨h.1.kept hb hk, (hb.frozen (p := ⟨k, 0, none⟩) hk).trans h.2.1, (hb.frozen (p := ⟨k, 1, none⟩) hk).trans h.2.2.1, (hb.frozen (p := ⟨k, 2, none⟩) hk).trans h.2.2.2.1, (hb.frozen (p := ⟨k, 3, none⟩) hk).trans h.2.2.2.2.1, (hb.frozen (p := ⟨k, 4, none⟩) hk).trans h.2.2.2.2.2⟩
theorem empty5_new (w : World) (e : TypeId) : empty5 w.heap.size (w.alloc (.cells #[.int .i64 0, .int .i64 0, .int .i64 0, .int .i64 0, .slice none 0 0] e)) := by
  unfold empty5 boxed; simp

/-- A cell far from a box that is written whole. -/
theorem far_box {w : World} {b k o : Nat} {u v0 v1 v2 v3 v4 : Value} (hne : b ≠ k) (h : w.cell? ⟨b, o, none⟩ = some u) :
    (((((w.setCell ⟨k, 0, none⟩ v0).setCell ⟨k, 1, none⟩ v1).setCell ⟨k, 2, none⟩ v2).setCell ⟨k, 3, none⟩ v3).setCell ⟨k, 4, none⟩ v4).cell? ⟨b, o, none⟩ = some u := by
  have e : ∀ (w : World) (q : Nat) (v : Value), (w.setCell ⟨k, q, none⟩ v).cell? ⟨b, o, none⟩ = w.cell? ⟨b, o, none⟩ := fun w q v =>
    World.cell?_of_block (w := w) (Below.heap_setCell w ⟨k, q, none⟩ v b hne)
  rw [e, e, e, e, e, h]

end Go.Proofs.Ytiijecnhbioehaa

