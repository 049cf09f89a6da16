/- Several texts in one: SWay3, SCell2, SCell3. -/
import Derived.Test.YtfmnhdemhbbjlaaGrSWay2
import Derived.WalkMore
import Derived.Test.YtfmnhdemhbbjlaaGrSCell
/- The program's endOfWay. -/
namespace Go.Proofs.Ytfmnhdemhbbjlaa
open Go.ChangeShapes Go.WideShapes Go.ChangeAt Go.RowKit Go.Joins Go.Shelf
set_option linter.unusedVariables false
set_option linter.unusedSimpArgs false

attribute [local go_sem] Oper.semAt_some

/-- A block of cells lies on where only blocks that are no cells are turned. -/
theorem block_ownW {W W' : World} {B : Nat} {c : Array Value} {t : TypeId} {z : Nat × Nat} {row : Option Nat} (h : W.heap[B]? = some (.cells c t z)) (hg : W.grownBy W' row) (hr : ∀ r, row = some r → ∃ o : Obj, W.heap[r]? = some o ∧ o.isCells = false) : W'.heap[B]? = some (.cells c t z) := by
  have hlt : B < W.heap.size := (Array.getElem?_eq_some_iff.1 h).1
  refine (hg.block B hlt (fun e => ?_)).trans h
  obtain ⟨o, ho, hn⟩ := hr B e.symm
  rw [h] at ho
  cases ho
  simp [Obj.isCells] at hn
theorem keeps_belowW {B : Nat} {W W' : World} (h : Below W.heap.size W W') : KeepsFrom B W W' :=
  ⟨h.size, fun i o _ hi _ => (h.block i (Array.getElem?_eq_some_iff.1 hi).1).trans hi⟩

end Go.Proofs.Ytfmnhdemhbbjlaa

/- The program's waysEndRight, newFlowTable, slotOf. -/
namespace Go.Proofs.Ytfmnhdemhbbjlaa
open Go.ChangeShapes Go.WideShapes Go.ChangeAt Go.RowKit Go.Joins
set_option linter.unusedVariables false
set_option linter.unusedSimpArgs false

def waysB (l : List Sl) : Bool := (List.range l.length).all (wayB l)
theorem waysB_iff {l : List Sl} : waysB l = true ↔ ∀ i, i < l.length → wayB l i = true := by simp [waysB]
theorem waysB_no {l : List Sl} {i : Nat} (hi : i < l.length) (h : wayB l i = false) : false = waysB l := by
  cases hb : waysB l with
  | false => rfl
  | true => rw [waysB_iff.1 hb i hi] at h; cases h
theorem tableOkB_ways {l : List Sl} (h1 : 1 ≤ l.length) (h2 : l.length ≤ 16) (h : slotTo l l.length) : waysB l = tableOkB l := by
  rw [Bool.eq_iff_iff, waysB_iff, tableOkB_iff]
  constructor
  · intro hw
    exact ⟨h1, h2, fun i hi => by unfold tabAt; rw [h i hi, hw i hi]; rfl⟩
  · intro ⟨_, _, ht⟩ i hi
    have := ht i hi
    unfold tabAt at this
    rw [h i hi] at this
    simpa using this
theorem wayB_free {l : List Sl} {i : Nat} (h : (l.getD i sl0).u = false) : wayB l i = true := by unfold wayB; rw [h]; rfl
theorem wayB_yes {l : List Sl} {i : Nat} (h : endL l (l.getD i sl0).a (l.getD i sl0).p = ((i : Int), true)) : wayB l i = true := by unfold wayB; rw [h]; cases (l.getD i sl0).u <;> simp
theorem wayB_not {l : List Sl} {i : Nat} (hu : (l.getD i sl0).u = true) (h : endL l (l.getD i sl0).a (l.getD i sl0).p ≠ ((i : Int), true)) : wayB l i = false := by unfold wayB; rw [hu, beq_eq_false_iff_ne.2 h]; rfl
theorem endL_at {l : List Sl} (hn : 0 < l.length) {a p : Int} {k : Nat} (hu : (l.getD k sl0).u = true) (h : (endL l a p).1 = (k : Int)) : endL l a p = ((k : Int), true) := by
  rcases endL_cases l hn a p with e | ⟨q, hq, ⟨e, f⟩ | ⟨e, _⟩⟩
  · rw [e] at h; exact absurd (show (-1 : Int) = k from h) (by omega)
  · rw [e] at h; simp at h; have : q = k := by omega
    subst this; rw [hu] at f; cases f
  · rw [e] at h ⊢; simp at h; have : q = k := by omega
    subst this; rfl

abbrev CellT : TypeId := 128
abbrev InC5 (lo hi : Nat) (w : World) (v : Value) (l : List Sl) : Prop := InL layS CellT lo hi w v l

theorem infoCell : (Try.prog.info? CellT).map (fun i => (i.zero, i.size, i.bytes)) = some (some (.agg #[.bool false, .int .i64 0, .int .i64 0, .int .i64 0, .int .i64 0]), 5, 40) := by kernel_rfl
set_option maxHeartbeats 800000 in
theorem newFlowTable_any (n : Nat) (w : World) (hl : n ≤ 1048576) :
    Calls Try.prog 48 #[.int .i64 n] w fun e w' => ∃ g, e = .returned (tab (.slice (some ⟨g, 0, none⟩) n n)) ∧ ownL layS CellT w' w.heap.size (.slice (some ⟨g, 0, none⟩) n n) (List.replicate n sl0) ∧ Below w.heap.size w w' := by
  obtain ⟨i0, hi, hz0, hz1, hz2⟩ := info_parts infoCell
  have hB : Below w.heap.size w w := Below.refl _ _
  go_enter Try.func48, Try.ntmps48
  go_wp2_with (at_make; refine wpList_make_full _ rfl _ _ 92 rfl (w.heap.size + 1) CellT i0 (slot sl0) 5 Try.underlying92 hi hz0 hz1 _ _ _ _ n rfl rfl rfl rfl ?b2 ?b3 ?b4 ?_)
  case b2 => rw [hz2]; omega
  case b3 => unfold maxLen; omega
  case b4 => simp
  intro w1 hown hgrow
  have bx : w1.heap[w.heap.size]? = some (.cells #[.slice none 0 0] 94 (0, 0)) := (hgrow.block w.heap.size (by simp) (by simp)).trans (World.alloc_heap_new w _)
  have c0 := block_cell1 bx 0 _ rfl
  have f0 : w1.frozen? ⟨w.heap.size, 0, none⟩ = false := by simp [World.frozen?, bx]
  have hz : w.heap.size < w1.heap.size := (Array.getElem?_eq_some_iff.1 bx).1
  have HB : Hid (Below w.heap.size w w1) := (hB.alloc (Nat.le_refl _) _).grown hgrow (by simp) (fun k h => by cases h)
  have HO : Hid (ownL layS CellT w1 (w.heap.size + 1) (.slice (some ⟨w.heap.size + 1, 0, none⟩) n n) (List.replicate n sl0)) := by
    unfold Hid ownL
    rw [List.length_replicate]
    show w1.ownsRow _ _ _ _ n ((List.replicate n layS.d).flatMap layS.cs)
    rw [← made_flat layS (slot sl0) rfl]; exact hown
  clear hown hgrow hB bx
  go_wp2
  refine bodyPost_ret (v := tab (.slice (some ⟨w.heap.size + 1, 0, none⟩) n n)) (by simp [results, Try.results48, go_sem, c0]) rfl ⟨_, rfl, ?_, ?_⟩
  · exact own_mono (ownsRow_setCell_below HO.out (by simp) _) (by omega)
  · exact HB.out.setCell (p := ⟨w.heap.size, 0, none⟩) (Nat.le_refl _) _

set_option maxHeartbeats 800000 in
theorem slotOf_any (s : Sl) (w : World) :
    Calls Try.prog 78 #[slot s] w fun e w' => e = .returned (slot s) ∧ Below w.heap.size w w' := by
  have hB : Below w.heap.size w w := Below.refl _ _
  go_enter Try.func78, Try.ntmps78
  go_wp2
  refine bodyPost_ret (v := slot s) (by simp [results, Try.results78, go_sem]) rfl ⟨rfl, ?_⟩
  (repeat (first | with_reducible exact hB | with_reducible exact Below.refl _ _ | with_reducible refine Below.drew ?_ | with_reducible refine below_drewN ?_ _ | with_reducible refine Below.alloc ?_ ?_ _ | with_reducible refine Below.setCell ?_ ?_ _ | (focus (simp; done)) | (focus (simp; omega)) | omega))

end Go.Proofs.Ytfmnhdemhbbjlaa

/- The program's tableFrom. -/
namespace Go.Proofs.Ytfmnhdemhbbjlaa
open Go.ChangeShapes Go.WideShapes Go.ChangeAt Go.RowKit Go.Joins
set_option linter.unusedVariables false
set_option linter.unusedSimpArgs false

theorem rd_of_own {e : TypeId} {w : World} {base g n c : Nat} {l : List Sl} (h : w.ownsRow base e 5 (.slice (some ⟨g, 0, none⟩) n c) n (l.flatMap layS.cs)) (hn : n = l.length) : ∀ i, i < l.length → ∀ j, j < layS.k → w.cell? ⟨g, 0 + i * layS.k + j, none⟩ = (layS.cs (l.getD i layS.d))[j]? := fun i hi j hj => by
  have hij : i * layS.k + j < l.length * layS.k := by
    have : (i + 1) * layS.k ≤ l.length * layS.k := Nat.mul_le_mul_right _ hi
    rw [Nat.add_mul] at this; omega
  subst hn
  rw [Nat.zero_add, h.cellAt _ hij, flat_get layS l i j hi hj]

end Go.Proofs.Ytfmnhdemhbbjlaa

