/- A store into a box: what lies elsewhere is as it was. -/
import Derived.Test.YthcbhfgbplgfiaaSGet
namespace Go.Proofs.Ythcbhfgbplgfiaa
open Go.ChangeShapes Go.WideShapes Go.ChangeAt Go.RowKit Go.Joins
set_option linter.unusedVariables false
set_option linter.unusedSimpArgs false

theorem set5_cell {W : World} {B b j : Nat} {u : Value} (s : Sl) (h : W.cell? ⟨b, j, none⟩ = some u) (hb : b < B) :
    (((((W.setCell ⟨B, 0, none⟩ (.bool s.u)).setCell ⟨B, 1, none⟩ (.int .i64 s.a)).setCell ⟨B, 2, none⟩ (.int .i64 s.p)).setCell ⟨B, 3, none⟩ (.int .i64 s.v)).setCell ⟨B, 4, none⟩ (.int .i64 s.t)).cell? ⟨b, j, none⟩ = some u :=
  ((below_set5 (s := s) (Below.refl B W) (Nat.le_refl _)).cell (p := ⟨b, j, none⟩) hb).trans h
theorem set1_cell {W : World} {B b j : Nat} {u v : Value} (h : W.cell? ⟨b, j, none⟩ = some u) (hb : b < B) : (W.setCell ⟨B, 0, none⟩ v).cell? ⟨b, j, none⟩ = some u :=
  (((Below.refl B W).setCell (p := ⟨B, 0, none⟩) (Nat.le_refl _) v).cell (p := ⟨b, j, none⟩) hb).trans h
theorem stp_set (W : World) (B j : Nat) (v : Value) : Stp B (B + 1) W (W.setCell ⟨B, j, none⟩ v) := by
  have h := (Below.refl B W).setCell (p := ⟨B, j, none⟩) (Nat.le_refl _) v
  exact ⟨h.os, h.tape, h.output, h.size, fun k hk hn => Below.heap_setCell W ⟨B, j, none⟩ v k (by simp; omega)⟩
theorem box_new0 {w new : World} {c : Array Value} {T : TypeId} (hb : Below ((w.alloc (.cells c T)).drew).heap.size (w.alloc (.cells c T)).drew new) : new.heap[w.heap.size]? = some (.cells c T (0, 0)) := by
  have h1 := hb.block w.heap.size (by simp)
  have h2 : (w.alloc (.cells c T)).drew.heap[w.heap.size]? = (w.alloc (.cells c T)).heap[w.heap.size]? := rfl
  exact h1.trans (h2.trans (World.alloc_heap_new w (.cells c T)))
theorem box_new1 {w new : World} {c : Array Value} {T : TypeId} (hb : Below (w.alloc (.cells c T)).heap.size (w.alloc (.cells c T)) new) : new.heap[w.heap.size]? = some (.cells c T (0, 0)) :=
  (hb.block w.heap.size (by simp)).trans (World.alloc_heap_new w (.cells c T))
theorem zero_slot {w : World} {B : Nat} {T : TypeId} (h : w.heap[B]? = some (.cells #[.bool false, .int .i64 0, .int .i64 0, .int .i64 0, .int .i64 0] T (0, 0))) : w.heap[B]? = some (.cells (slotCells sl0) T (0, 0)) := h
theorem InT.opn {lo hi : Nat} {w : World} {v : Value} {m : List Sl} (h : InT lo hi w v m) : ∃ (o : Option Addr) (c : Nat), v = tab (.slice o m.length c) := by
  obtain ⟨vl, rfl, o, c, rfl, _⟩ := h.rd
  exact ⟨o, c, rfl⟩
theorem fin5 {cur W : World} {B : Nat} {T : TypeId} (q : Sl) (t : Bool) (hZ : W.heap[B]? = some (.cells (slotCells sl0) T (0, 0))) (hx : Below cur.heap.size cur W) (hB : cur.heap.size ≤ B) :
    ∃ B', Value.pointer (some ⟨B, 0, none⟩) = .pointer (some ⟨B', 0, none⟩) ∧ Value.bool t = .bool t ∧ Hid ((((((W.setCell ⟨B, 0, none⟩ (.bool q.u)).setCell ⟨B, 1, none⟩ (.int .i64 q.a)).setCell ⟨B, 2, none⟩ (.int .i64 q.p)).setCell ⟨B, 3, none⟩ (.int .i64 q.v)).setCell ⟨B, 4, none⟩ (.int .i64 q.t)).heap[B']? = some (.cells (slotCells q) T (0, 0))) ∧ Hid (Below cur.heap.size cur (((((W.setCell ⟨B, 0, none⟩ (.bool q.u)).setCell ⟨B, 1, none⟩ (.int .i64 q.a)).setCell ⟨B, 2, none⟩ (.int .i64 q.p)).setCell ⟨B, 3, none⟩ (.int .i64 q.v)).setCell ⟨B, 4, none⟩ (.int .i64 q.t))) ∧ cur.heap.size ≤ B' ∧ B' < (((((W.setCell ⟨B, 0, none⟩ (.bool q.u)).setCell ⟨B, 1, none⟩ (.int .i64 q.a)).setCell ⟨B, 2, none⟩ (.int .i64 q.p)).setCell ⟨B, 3, none⟩ (.int .i64 q.v)).setCell ⟨B, 4, none⟩ (.int .i64 q.t)).heap.size := by
  refine ⟨B, rfl, rfl, box_set5 (s := q) hZ, below_set5 (s := q) hx hB, hB, ?_⟩
  simpa using (Array.getElem?_eq_some_iff.1 hZ).1
theorem fin5n {cur W : World} {T : TypeId} (q : Sl) (t : Bool) (hx : Below cur.heap.size cur W) :
    ∃ B', Value.pointer (some ⟨W.heap.size, 0, none⟩) = .pointer (some ⟨B', 0, none⟩) ∧ Value.bool t = .bool t ∧ Hid ((W.alloc (.cells #[.bool q.u, .int .i64 q.a, .int .i64 q.p, .int .i64 q.v, .int .i64 q.t] T)).heap[B']? = some (.cells (slotCells q) T (0, 0))) ∧ Hid (Below cur.heap.size cur (W.alloc (.cells #[.bool q.u, .int .i64 q.a, .int .i64 q.p, .int .i64 q.v, .int .i64 q.t] T))) ∧ cur.heap.size ≤ B' ∧ B' < (W.alloc (.cells #[.bool q.u, .int .i64 q.a, .int .i64 q.p, .int .i64 q.v, .int .i64 q.t] T)).heap.size :=
  ⟨W.heap.size, rfl, rfl, World.alloc_heap_new W _, hx.alloc hx.size _, hx.size, by simp⟩
theorem finT {cur W : World} {B lo hi : Nat} {T : TypeId} {f : Value} {mr : List Sl} {o : Option Addr} {c : Nat} {z : Value} (hZ : W.heap[B]? = some (.cells #[z] T (0, 0))) (hx : Below cur.heap.size cur W) (hB : cur.heap.size ≤ B) (hi' : InT lo hi W (tab (.slice o mr.length c)) mr) (h1 : cur.heap.size ≤ lo) (h2 : hi ≤ W.heap.size) (h3 : B < lo ∨ hi ≤ B) :
    ∃ B' lo hi o' c', Value.pointer (some ⟨B, 0, none⟩) = .pointer (some ⟨B', 0, none⟩) ∧ f = f ∧ Hid ((W.setCell ⟨B, 0, none⟩ (.slice o mr.length c)).heap[B']? = some (.cells #[.slice o' mr.length c'] T (0, 0))) ∧ Hid (Below cur.heap.size cur (W.setCell ⟨B, 0, none⟩ (.slice o mr.length c))) ∧ cur.heap.size ≤ B' ∧ B' < (W.setCell ⟨B, 0, none⟩ (.slice o mr.length c)).heap.size ∧ Hid (InT lo hi (W.setCell ⟨B, 0, none⟩ (.slice o mr.length c)) (tab (.slice o' mr.length c')) mr) ∧ cur.heap.size ≤ lo ∧ hi ≤ (W.setCell ⟨B, 0, none⟩ (.slice o mr.length c)).heap.size ∧ (B' < lo ∨ hi ≤ B') := by
  refine ⟨B, lo, hi, o, c, rfl, rfl, box_set1 W B 0 _ _ _ hZ, hx.setCell (p := ⟨B, 0, none⟩) hB _, hB, ?_, InT.step hi' (stp_set W B 0 _) (by omega), h1, by simpa using h2, h3⟩
  simpa using (Array.getElem?_eq_some_iff.1 hZ).1
theorem finTn {cur W : World} {lo hi : Nat} {T : TypeId} {f : Value} {mr : List Sl} {o : Option Addr} {c : Nat} (hx : Below cur.heap.size cur W) (hi' : InT lo hi W (tab (.slice o mr.length c)) mr) (h1 : cur.heap.size ≤ lo) (h2 : hi ≤ W.heap.size) :
    ∃ B' lo hi o' c', Value.pointer (some ⟨W.heap.size, 0, none⟩) = .pointer (some ⟨B', 0, none⟩) ∧ f = f ∧ Hid ((W.alloc (.cells #[.slice o mr.length c] T)).heap[B']? = some (.cells #[.slice o' mr.length c'] T (0, 0))) ∧ Hid (Below cur.heap.size cur (W.alloc (.cells #[.slice o mr.length c] T))) ∧ cur.heap.size ≤ B' ∧ B' < (W.alloc (.cells #[.slice o mr.length c] T)).heap.size ∧ Hid (InT lo hi (W.alloc (.cells #[.slice o mr.length c] T)) (tab (.slice o' mr.length c')) mr) ∧ cur.heap.size ≤ lo ∧ hi ≤ (W.alloc (.cells #[.slice o mr.length c] T)).heap.size ∧ (B' < lo ∨ hi ≤ B') :=
  ⟨W.heap.size, lo, hi, o, c, rfl, rfl, World.alloc_heap_new W _, hx.alloc hx.size _, hx.size, by simp, InT.step hi' (Stp.of (lo := 0) (hi := 0) ((Below.refl _ _).alloc (Nat.le_refl _) _)) (.inl (Nat.zero_le _)), h1, by simp; omega, .inr h2⟩

end Go.Proofs.Ythcbhfgbplgfiaa
