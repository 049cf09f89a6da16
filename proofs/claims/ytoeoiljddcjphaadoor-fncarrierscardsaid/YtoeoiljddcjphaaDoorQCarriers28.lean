/- Several texts in one: SCRdS, SCRd3. -/
import Derived.Deep.CutRange
import Derived.Deep.RegionLaw
import Derived.Test.YtoeoiljddcjphaaDoorQCarriers27
import Derived.Test.YtoeoiljddcjphaaDoorQCarriers12
import Derived.Test.YtoeoiljddcjphaaDoorQCarriers14
import Derived.Test.YtoeoiljddcjphaaDoorQCarriers23
/- CarrierRead: the model's side. -/
namespace Go.Proofs.YtoeoiljddcjphaaDoor
open Go.ChangeShapes Go.WideShapes Go.ChangeAt Go.RowKit Go.Joins
set_option linter.unusedVariables false
set_option linter.unusedSimpArgs false

/-- The carrier's box, and its segs so far. -/
structure SC (w : World) (B : Nat) (L : List Int) (vg : Value) (x1 st : Int) (i : Nat) (W : World) : Prop where
 box : W.heap[B]? = some (.cells (crC 0 0 0 0 (.slice none 0 0) vg x1 st) 29 (0, 0))
 hB : w.heap.size < B
 seg : ownL layG 62 W (w.heap.size + 1) vg (crG L i)
 res : W.heap[w.heap.size]? = some (.cells (crC 0 0 0 0 (.slice none 0 0) (.slice none 0 0) 0 0) 29 (0, 0))
 bel : Below w.heap.size w W
theorem SC.app {w W W2 : World} {B : Nat} {L : List Int} {vg vg' : Value} {x1 st : Int} {i : Nat} (h : SC w B L vg x1 st i W) (ho : ownL layG 62 W2 (w.heap.size + 1) vg' (crG L (i + 1))) (hg : W.grownBy W2 vg.ownBlock) : SC w B L vg' x1 st (i + 1) (W2.setCell ⟨B, 5, none⟩ vg') := by
 have hl := box_lt h.res
 have hlo : ∀ q, vg.ownBlock = some q → w.heap.size + 1 ≤ q := fun q e => (h.seg.lt q e).1
 have hx := (hg.block _ (box_lt h.box) (fun e => box_no h.box (by decide) h.seg e)).trans h.box
 have hr := (hg.block _ hl (fun e => by have := hlo _ e.symm; omega)).trans h.res
 have hn : some B ≠ vg'.ownBlock := box_no hx (by decide) ho
 have hb : Below w.heap.size w W2 := h.bel.grown hg h.bel.size (fun q e => by have := hlo q e; omega)
 have hB := h.hB
 exact ⟨by simpa using box_set W2 _ 5 _ _ vg' hx, h.hB, own_set ho _ 5 vg' (fun b e h' => hn (by rw [e, h'])), (Below.heap_setCell W2 ⟨B, 5, none⟩ vg' _ (by simp; omega)).trans hr, hb.setCell (p := ⟨B, 5, none⟩) (Nat.le_of_lt h.hB) vg'⟩
theorem SC.alloc {w W : World} {B : Nat} {L : List Int} {vg : Value} {x1 st : Int} {i : Nat} (h : SC w B L vg x1 st i W) (O : Obj) : SC w B L vg x1 st i (W.alloc O) :=
 ⟨box_al h.box O, h.hB, World.ownsRow.alloc h.seg O, box_al h.res O, h.bel.alloc h.bel.size O⟩
theorem SC.drew {w W : World} {B : Nat} {L : List Int} {vg : Value} {x1 st : Int} {i : Nat} (h : SC w B L vg x1 st i W) : SC w B L vg x1 st i W.drew := ⟨h.box, h.hB, h.seg, h.res, Below.drew h.bel⟩
theorem SC.on {w W W' : World} {B : Nat} {L : List Int} {vg : Value} {x1 st : Int} {i : Nat} (h : SC w B L vg x1 st i W) (hb : Below W.heap.size W W') : SC w B L vg x1 st i W' :=
 ⟨(hb.block _ (box_lt h.box)).trans h.box, h.hB, own_kept h.seg hb, (hb.block _ (box_lt h.res)).trans h.res, h.bel.trans (hb.mono h.bel.size)⟩
/-- The packet is laid into the box. -/
theorem SC.setP {w W : World} {B : Nat} {L : List Int} {vg : Value} {x1 st : Int} {i : Nat} (h : SC w B L vg x1 st i W) {a b f s : Int} {v : Value} {l : List Int} {base : Nat} (hv : ownB W base v l) (hn : B < base) :
  ∃ W', W' = ((((W.setCell ⟨B, 0, none⟩ (.int .i64 a)).setCell ⟨B, 1, none⟩ (.int .i64 b)).setCell ⟨B, 2, none⟩ (.int .i64 f)).setCell ⟨B, 3, none⟩ (.int .i64 s)).setCell ⟨B, 4, none⟩ v ∧ W'.heap[B]? = some (.cells (crC a b f s v vg x1 st) 29 (0, 0)) ∧ W'.heap[w.heap.size]? = some (.cells (crC 0 0 0 0 (.slice none 0 0) (.slice none 0 0) 0 0) 29 (0, 0)) ∧ ownB W' (w.heap.size + 1) v l ∧ ownL layG 62 W' (w.heap.size + 1) vg (crG L i) ∧ Below w.heap.size w W' := by
 have hB := h.hB
 refine ⟨_, rfl, ?_, ?_, ?_, ?_, ?_⟩
 ·simpa using box_set _ B 4 _ _ v (box_set _ B 3 _ _ (.int .i64 s) (box_set _ B 2 _ _ (.int .i64 f) (box_set _ B 1 _ _ (.int .i64 b) (box_set W B 0 _ _ (.int .i64 a) h.box))))
 ·repeat (refine (Below.heap_setCell _ ⟨B, _, none⟩ _ _ (by simp; omega)).trans ?_)
  exact h.res
 ·refine own_mono (base := base) ?_ (by omega)
  repeat (refine ownsRow_setCell_below ?_ hn _)
  exact hv
 ·have hne : ∀ b, vg.ownBlock = some b → b ≠ B := fun b e h' => box_no h.box (by decide) h.seg (by rw [e, h'])
  exact own_set (own_set (own_set (own_set (own_set h.seg _ 0 _ hne) _ 1 _ hne) _ 2 _ hne) _ 3 _ hne) _ 4 _ hne
 ·exact ((((h.bel.setCell (p := ⟨B, 0, none⟩) (Nat.le_of_lt hB) _).setCell (p := ⟨B, 1, none⟩) (Nat.le_of_lt hB) _).setCell (p := ⟨B, 2, none⟩) (Nat.le_of_lt hB) _).setCell (p := ⟨B, 3, none⟩) (Nat.le_of_lt hB) _).setCell (p := ⟨B, 4, none⟩) (Nat.le_of_lt hB) _
end Go.Proofs.YtoeoiljddcjphaaDoor

/- CarrierRead on both sides, any bytes. -/
namespace Go.Proofs.YtoeoiljddcjphaaDoor
open Go.ChangeShapes Go.WideShapes Go.ChangeAt Go.RowKit Go.Joins
set_option linter.unusedVariables false
set_option linter.unusedSimpArgs false

theorem crR_fit (L : List Int) (h : isB L) : fitCm (crR L) := by
 unfold crR
 split
 ·next hok =>
  have h2 : (crM L).ok = true := by
   unfold crOk at hok
   simp only [Bool.and_eq_true] at hok
   exact hok.2
  have h3 : headB (crM L).a (crM L).b (crM L).f (crM L).s (crM L).l.length (crM L).g.length (crM L).pl (crM L).st = true := by
   unfold Cm.ok carrierOkB at h2
   simp only [Bool.and_eq_true] at h2
   exact h2.1
  obtain ⟨hp, _, hg, _⟩ := headB_iff.1 h3
  have hl := (packetOk_bd hp).1
  refine ⟨by omega, fun x hx => ?_⟩
  have hx' : x ∈ rdL (crP L) := hx
  unfold rdL at hx'
  split at hx'
  ·exact h x (List.mem_of_mem_drop (List.mem_of_mem_drop hx'))
  ·cases hx'
 ·exact ⟨by decide, fun x hx => by cases hx⟩
end Go.Proofs.YtoeoiljddcjphaaDoor

