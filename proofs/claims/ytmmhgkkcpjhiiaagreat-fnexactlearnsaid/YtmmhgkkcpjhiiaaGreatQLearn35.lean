/- Several texts in one: SSoon, SPlain, SHint, Cut5, SPut. -/
import Derived.Deep.RegionWith
import Derived.Test.YtmmhgkkcpjhiiaaGreatQLearn07
import Derived.Test.YtmmhgkkcpjhiiaaGreatQLearn33
import Derived.Test.YtmmhgkkcpjhiiaaGreatQLearn23
import Derived.Test.YtmmhgkkcpjhiiaaGreatQLearn03
import Derived.Test.YtmmhgkkcpjhiiaaGreatQLearn10
import Derived.Test.YtmmhgkkcpjhiiaaGreatQLearn34
namespace Go.Proofs.YtmmhgkkcpjhiiaaGreat
open Go.ChangeShapes Go.WideShapes Go.ChangeAt Go.RowKit Go.Joins
set_option linter.unusedVariables false
set_option linter.unusedSimpArgs false

def soonStep (q s : Sl) : Sl := if s.u = true ∧ (q.u = false ∨ s.t < q.t) then s else q
def soonTo (l : List Sl) (k : Nat) : Sl := (l.take k).foldl soonStep sl0
theorem soonTo_succ {l : List Sl} {k : Nat} (h : k < l.length) : soonTo l (k + 1) = soonStep (soonTo l k) (l.getD k sl0) := by
 unfold soonTo
 rw [takeL_succ layS l k h, List.foldl_append]; rfl
theorem soonStep_free {q s : Sl} (h : s.u = false) : soonStep q s = q := by unfold soonStep; rw [if_neg (by rw [h]; simp)]
theorem soonStep_first {q s : Sl} (h : s.u = true) (hq : q.u = false) : soonStep q s = s := by unfold soonStep; rw [if_pos ⟨h, .inl hq⟩]
theorem soonStep_less {q s : Sl} (h : s.u = true) (hq : s.t < q.t) : soonStep q s = s := by unfold soonStep; rw [if_pos ⟨h, .inr hq⟩]
theorem soonStep_more {q s : Sl} (hq : q.u = true) (h : ¬ s.t < q.t) : soonStep q s = q := by
 unfold soonStep
 rw [if_neg]
 rintro ⟨_, h1 | h1⟩
 ·rw [hq] at h1; cases h1
 ·exact h h1
def soonL (l : List Sl) : Sl := soonTo l l.length
theorem box_set1 (w : World) (k j : Nat) (cs : Array Value) (t : TypeId) (v : Value) (h : w.heap[k]? = some (.cells cs t (0, 0))) : (w.setCell ⟨k, j, none⟩ v).heap[k]? = some (.cells (cs.setIfInBounds j v) t (0, 0)) := by
 simp [World.setCell, Array.getElem?_modify, h]
theorem frozen_of {W : World} {B : Nat} {c : Array Value} {t : TypeId} (h : W.heap[B]? = some (.cells c t (0, 0))) (j : Nat) : W.frozen? ⟨B, j, none⟩ = false := by simp [World.frozen?, h]
abbrev slotCells (s : Sl) : Array Value := #[.bool s.u, .int .i64 s.a, .int .i64 s.p, .int .i64 s.v, .int .i64 s.t]
def set5 (w : World) (B : Nat) (s : Sl) : World := ((((w.setCell ⟨B, 0, none⟩ (.bool s.u)).setCell ⟨B, 1, none⟩ (.int .i64 s.a)).setCell ⟨B, 2, none⟩ (.int .i64 s.p)).setCell ⟨B, 3, none⟩ (.int .i64 s.v)).setCell ⟨B, 4, none⟩ (.int .i64 s.t)
theorem box_set5 {w : World} {B : Nat} {s q : Sl} {T : TypeId} (h : w.heap[B]? = some (.cells (slotCells q) T (0, 0))) : (set5 w B s).heap[B]? = some (.cells (slotCells s) T (0, 0)) := by
 have h0 := box_set1 w B 0 _ _ (.bool s.u) h
 have h1 := box_set1 _ B 1 _ _ (.int .i64 s.a) h0
 have h2 := box_set1 _ B 2 _ _ (.int .i64 s.p) h1
 have h3 := box_set1 _ B 3 _ _ (.int .i64 s.v) h2
 have h4 := box_set1 _ B 4 _ _ (.int .i64 s.t) h3
 exact h4
theorem below_set5 {w W : World} {n B : Nat} (h : Below n w W) (hB : n ≤ B) (s : Sl) : Below n w (set5 W B s) :=
 ((((h.setCell (p := ⟨B, 0, none⟩) hB _).setCell (p := ⟨B, 1, none⟩) hB _).setCell (p := ⟨B, 2, none⟩) hB _).setCell (p := ⟨B, 3, none⟩) hB _).setCell (p := ⟨B, 4, none⟩) hB _

set_option maxHeartbeats 4000000 in
theorem l5soonest_any (b off c : Nat) (l : List Sl) (w : World) (hbl : b < w.heap.size) (hc : ∀ i, i < l.length → ∀ j, j < layS.k → w.cell? ⟨b, off + i * layS.k + j, none⟩ = (layS.cs (l.getD i layS.d))[j]?) (hl : l.length ≤ 1048576) :
  Calls Tryz.prog 253 #[tab (.slice (some ⟨b, off, none⟩) l.length c)] w fun e w' => e = .returned (.tuple #[slot (soonL l), .bool (soonL l).u]) ∧ Below w.heap.size w w' := by
 have HC := hide hc
 clear hc
 obtain ⟨W0, hW0⟩ : ∃ W, ((w.alloc (.cells #[.slice (some ⟨b, off, none⟩) l.length c] 32)).alloc (.cells #[.bool false, .int .i64 0, .int .i64 0, .int .i64 0, .int .i64 0] 160)) = W := ⟨_, rfl⟩
 have hb_W0 : Below w.heap.size w W0 := by rw [← hW0]; exact (((Below.refl _ _).alloc (Nat.le_refl _) _).alloc (by simp <;> omega) _)
 have HB := hide hb_W0
 clear hb_W0
 have zct : w.heap.size < W0.heap.size := by rw [← hW0]; simp <;> omega
 have ct0 : W0.cell? ⟨w.heap.size, 0, none⟩ = some (.slice (some ⟨b, off, none⟩) l.length c) := by rw [← hW0]; simp [go_sem]
 have zcr : w.heap.size + 1 < W0.heap.size := by rw [← hW0]; simp
 have cr0 : W0.cell? ⟨w.heap.size + 1, 0, none⟩ = some (.bool false) := by rw [← hW0]; simp [go_sem]
 have cr1 : W0.cell? ⟨w.heap.size + 1, 1, none⟩ = some (.int .i64 0) := by rw [← hW0]; simp [go_sem]
 have cr2 : W0.cell? ⟨w.heap.size + 1, 2, none⟩ = some (.int .i64 0) := by rw [← hW0]; simp [go_sem]
 have cr3 : W0.cell? ⟨w.heap.size + 1, 3, none⟩ = some (.int .i64 0) := by rw [← hW0]; simp [go_sem]
 have cr4 : W0.cell? ⟨w.heap.size + 1, 4, none⟩ = some (.int .i64 0) := by rw [← hW0]; simp [go_sem]
 have fcr0 : W0.frozen? ⟨w.heap.size + 1, 0, none⟩ = false := by rw [← hW0]; simp [go_sem]
 have fcr1 : W0.frozen? ⟨w.heap.size + 1, 1, none⟩ = false := by rw [← hW0]; simp [go_sem]
 have fcr2 : W0.frozen? ⟨w.heap.size + 1, 2, none⟩ = false := by rw [← hW0]; simp [go_sem]
 have fcr3 : W0.frozen? ⟨w.heap.size + 1, 3, none⟩ = false := by rw [← hW0]; simp [go_sem]
 have fcr4 : W0.frozen? ⟨w.heap.size + 1, 4, none⟩ = false := by rw [← hW0]; simp [go_sem]
 obtain ⟨W1, hW1⟩ : ∃ W, W0.alloc (.cells #[.bool false, .int .i64 0, .int .i64 0, .int .i64 0, .int .i64 0] 160) = W := ⟨_, rfl⟩
 have zct0 := zct
 have zcr0 := zcr
 have b4 : Hid (W1.heap[W0.heap.size]? = some (.cells (slotCells sl0) 160 (0, 0))) := by rw [← hW1]; exact World.alloc_heap_new W0 _
 have hb_W1 : Below W0.heap.size W0 W1 := by rw [← hW1]; exact (Below.refl _ _).alloc (Nat.le_refl _) _
 replace ct0 : W1.cell? ⟨w.heap.size, 0, none⟩ = some (.slice (some ⟨b, off, none⟩) l.length c) := (hb_W1.cell (p := ⟨w.heap.size, 0, none⟩) zct).trans ct0
 replace zct : w.heap.size < W1.heap.size := Nat.lt_of_lt_of_le zct hb_W1.size
 replace cr0 : W1.cell? ⟨w.heap.size + 1, 0, none⟩ = some (.bool false) := (hb_W1.cell (p := ⟨w.heap.size + 1, 0, none⟩) zcr).trans cr0
 replace cr1 : W1.cell? ⟨w.heap.size + 1, 1, none⟩ = some (.int .i64 0) := (hb_W1.cell (p := ⟨w.heap.size + 1, 1, none⟩) zcr).trans cr1
 replace cr2 : W1.cell? ⟨w.heap.size + 1, 2, none⟩ = some (.int .i64 0) := (hb_W1.cell (p := ⟨w.heap.size + 1, 2, none⟩) zcr).trans cr2
 replace cr3 : W1.cell? ⟨w.heap.size + 1, 3, none⟩ = some (.int .i64 0) := (hb_W1.cell (p := ⟨w.heap.size + 1, 3, none⟩) zcr).trans cr3
 replace cr4 : W1.cell? ⟨w.heap.size + 1, 4, none⟩ = some (.int .i64 0) := (hb_W1.cell (p := ⟨w.heap.size + 1, 4, none⟩) zcr).trans cr4
 replace fcr0 : W1.frozen? ⟨w.heap.size + 1, 0, none⟩ = false := (hb_W1.frozen (p := ⟨w.heap.size + 1, 0, none⟩) zcr).trans fcr0
 replace fcr1 : W1.frozen? ⟨w.heap.size + 1, 1, none⟩ = false := (hb_W1.frozen (p := ⟨w.heap.size + 1, 1, none⟩) zcr).trans fcr1
 replace fcr2 : W1.frozen? ⟨w.heap.size + 1, 2, none⟩ = false := (hb_W1.frozen (p := ⟨w.heap.size + 1, 2, none⟩) zcr).trans fcr2
 replace fcr3 : W1.frozen? ⟨w.heap.size + 1, 3, none⟩ = false := (hb_W1.frozen (p := ⟨w.heap.size + 1, 3, none⟩) zcr).trans fcr3
 replace fcr4 : W1.frozen? ⟨w.heap.size + 1, 4, none⟩ = false := (hb_W1.frozen (p := ⟨w.heap.size + 1, 4, none⟩) zcr).trans fcr4
 replace zcr : w.heap.size + 1 < W1.heap.size := Nat.lt_of_lt_of_le zcr hb_W1.size
 replace HB := hide (HB.out.trans (hb_W1.mono HB.out.size))
 clear hb_W1
 have hz4 : W0.heap.size < W1.heap.size := by rw [← hW1]; simp
 have HBW := HB
 go_enter Tryz.func253, Tryz.ntmps253
 go_wp2
 go_loopw [5] (fun i wr => ∃ k : Nat, k ≤ l.length ∧ i = .int .i64 k ∧ Hid (wr.heap[W0.heap.size]? = some (.cells (slotCells (soonTo l k)) 160 (0, 0))) ∧ Hid (Below (W0.heap.size) W1 wr))
  (fun i _ => l.length - (intOf i).toNat)
 case atStart => exact ⟨0, Nat.zero_le _, rfl, b4, Below.refl _ _⟩
 case round =>
 obtain ⟨k, hk, rfl, hq, HBr⟩ := hrel
 have hszr : W1.heap.size ≤ wr.heap.size := HBr.out.size
 obtain ⟨q, hqq⟩ : ∃ q, soonTo l k = q := ⟨_, rfl⟩
 rw [hqq] at hq
 replace ct0 : wr.cell? ⟨w.heap.size, 0, none⟩ = some (.slice (some ⟨b, off, none⟩) l.length c) := (HBr.out.cell (p := ⟨w.heap.size, 0, none⟩) zct0).trans ct0
 replace zct : w.heap.size < wr.heap.size := by omega
 replace cr0 : wr.cell? ⟨w.heap.size + 1, 0, none⟩ = some (.bool false) := (HBr.out.cell (p := ⟨w.heap.size + 1, 0, none⟩) zcr0).trans cr0
 replace cr1 : wr.cell? ⟨w.heap.size + 1, 1, none⟩ = some (.int .i64 0) := (HBr.out.cell (p := ⟨w.heap.size + 1, 1, none⟩) zcr0).trans cr1
 replace cr2 : wr.cell? ⟨w.heap.size + 1, 2, none⟩ = some (.int .i64 0) := (HBr.out.cell (p := ⟨w.heap.size + 1, 2, none⟩) zcr0).trans cr2
 replace cr3 : wr.cell? ⟨w.heap.size + 1, 3, none⟩ = some (.int .i64 0) := (HBr.out.cell (p := ⟨w.heap.size + 1, 3, none⟩) zcr0).trans cr3
 replace cr4 : wr.cell? ⟨w.heap.size + 1, 4, none⟩ = some (.int .i64 0) := (HBr.out.cell (p := ⟨w.heap.size + 1, 4, none⟩) zcr0).trans cr4
 replace fcr0 : wr.frozen? ⟨w.heap.size + 1, 0, none⟩ = false := (HBr.out.frozen (p := ⟨w.heap.size + 1, 0, none⟩) zcr0).trans fcr0
 replace fcr1 : wr.frozen? ⟨w.heap.size + 1, 1, none⟩ = false := (HBr.out.frozen (p := ⟨w.heap.size + 1, 1, none⟩) zcr0).trans fcr1
 replace fcr2 : wr.frozen? ⟨w.heap.size + 1, 2, none⟩ = false := (HBr.out.frozen (p := ⟨w.heap.size + 1, 2, none⟩) zcr0).trans fcr2
 replace fcr3 : wr.frozen? ⟨w.heap.size + 1, 3, none⟩ = false := (HBr.out.frozen (p := ⟨w.heap.size + 1, 3, none⟩) zcr0).trans fcr3
 replace fcr4 : wr.frozen? ⟨w.heap.size + 1, 4, none⟩ = false := (HBr.out.frozen (p := ⟨w.heap.size + 1, 4, none⟩) zcr0).trans fcr4
 replace zcr : w.heap.size + 1 < wr.heap.size := by omega
 have zq : W0.heap.size < wr.heap.size := by omega
 have hw0 : w.heap.size ≤ W0.heap.size := by omega
 have HB2 := hide (HBW.out.trans (HBr.out.mono hw0))
 have q0 : wr.cell? ⟨W0.heap.size, 0, none⟩ = some (.bool q.u) := block_cell1 hq.out 0 _ rfl
 have q1 : wr.cell? ⟨W0.heap.size, 1, none⟩ = some (.int .i64 q.a) := block_cell1 hq.out 1 _ rfl
 have q2 : wr.cell? ⟨W0.heap.size, 2, none⟩ = some (.int .i64 q.p) := block_cell1 hq.out 2 _ rfl
 have q3 : wr.cell? ⟨W0.heap.size, 3, none⟩ = some (.int .i64 q.v) := block_cell1 hq.out 3 _ rfl
 have q4 : wr.cell? ⟨W0.heap.size, 4, none⟩ = some (.int .i64 q.t) := block_cell1 hq.out 4 _ rfl
 have fq0 := frozen_of hq.out 0
 have fq1 := frozen_of hq.out 1
 have fq2 := frozen_of hq.out 2
 have fq3 := frozen_of hq.out 3
 have fq4 := frozen_of hq.out 4
 by_cases hlt : k < l.length
 ·skip
  have hcx := RdL.slot (C := w.heap.size) HC.out k hlt
  have HSu := hide (soonTo_succ hlt)
  rw [hqq] at HSu
  obtain ⟨s, hxy⟩ : ∃ s, l.getD k sl0 = s := ⟨_, rfl⟩
  rw [hxy] at hcx HSu
  have e0 := (HB2.out.cell (p := ⟨b, off + k * 5, none⟩) hbl).trans hcx.1
  have e1 := (HB2.out.cell (p := ⟨b, off + k * 5 + 1, none⟩) hbl).trans hcx.2.1
  have e2 := (HB2.out.cell (p := ⟨b, off + k * 5 + 2, none⟩) hbl).trans hcx.2.2.1
  have e3 := (HB2.out.cell (p := ⟨b, off + k * 5 + 3, none⟩) hbl).trans hcx.2.2.2.1
  have e4 := (HB2.out.cell (p := ⟨b, off + k * 5 + 4, none⟩) hbl).trans hcx.2.2.2.2
  have zb : b < wr.heap.size := Nat.lt_of_lt_of_le hbl HB2.out.size
  have hk' : (k : Int) < (l.length : Int) := by omega
  clear hcx hxy hqq
  have G0 := Grown.cell ct0 zct
  have Ge0 := Grown.cell (b := b) (off := off + k * 5) e0 zb
  have Gq0 := Grown.cell q0 zq
  have Gf0 : ∀ p : Grown wr, p.v.frozen? ⟨W0.heap.size, 0, none⟩ = false := fun p => (p.b.frozen (p := ⟨W0.heap.size, 0, none⟩) zq).trans fq0
  have Ge1 := Grown.cell (b := b) (off := off + k * 5 + 1) e1 zb
  have Gq1 := Grown.cell q1 zq
  have Gf1 : ∀ p : Grown wr, p.v.frozen? ⟨W0.heap.size, 1, none⟩ = false := fun p => (p.b.frozen (p := ⟨W0.heap.size, 1, none⟩) zq).trans fq1
  have Ge2 := Grown.cell (b := b) (off := off + k * 5 + 2) e2 zb
  have Gq2 := Grown.cell q2 zq
  have Gf2 : ∀ p : Grown wr, p.v.frozen? ⟨W0.heap.size, 2, none⟩ = false := fun p => (p.b.frozen (p := ⟨W0.heap.size, 2, none⟩) zq).trans fq2
  have Ge3 := Grown.cell (b := b) (off := off + k * 5 + 3) e3 zb
  have Gq3 := Grown.cell q3 zq
  have Gf3 : ∀ p : Grown wr, p.v.frozen? ⟨W0.heap.size, 3, none⟩ = false := fun p => (p.b.frozen (p := ⟨W0.heap.size, 3, none⟩) zq).trans fq3
  have Ge4 := Grown.cell (b := b) (off := off + k * 5 + 4) e4 zb
  have Gq4 := Grown.cell q4 zq
  have Gf4 : ∀ p : Grown wr, p.v.frozen? ⟨W0.heap.size, 4, none⟩ = false := fun p => (p.b.frozen (p := ⟨W0.heap.size, 4, none⟩) zq).trans fq4
  have HQ := hq
  clear hq fq0 q0 e0 fq1 q1 e1 fq2 q2 e2 fq3 q3 e3 fq4 q4 e4 cr0 fcr0 cr1 fcr1 cr2 fcr2 cr3 fcr3 cr4 fcr4
  obtain ⟨su, sa, sp, sv, st⟩ := s
  obtain ⟨qu, qa, qp, qv, qt⟩ := q
  simp only at Ge0 Ge1 Ge2 Ge3 Ge4 Gq0 Gq1 Gq2 Gq3 Gq4
  cases su with
  | false =>
   have HN := hide (HSu.out.trans (soonStep_free rfl))
   clear HSu
   go_wp2
   (refine wp_region_grown (by kernel_rfl) (by kernel_rfl) ?_; intro hne9; (repeat (go_big_quiet_step ((fail)))); (with_reducible refine wpQuiet_nil ?_); intro _ hw9; obtain ⟨pq, hw8⟩ := hw9; subst hw8)
   go_wp2
   go_roundw
   case rel => exact ⟨k + 1, hlt, by go_num, (by unfold Hid; rw [HN.out]; exact (pq.b.block _ zq).trans HQ.out), (HBr.out.trans (pq.b.mono (Nat.le_of_lt zq)))⟩
   case measure => simp [intOf]; omega
  | true =>
   cases qu with
   | false =>
    have HN := hide (HSu.out.trans (soonStep_first rfl rfl))
    clear HSu
    go_wp2
    (refine wp_region_grown (by kernel_rfl) (by kernel_rfl) ?_; intro hne9; (repeat (go_big_quiet_step ((fail)))); (with_reducible refine wpQuiet_nil ?_); intro _ hw9; obtain ⟨pq, hw8⟩ := hw9; subst hw8)
    go_wp2
    go_roundw
    case rel => exact ⟨k + 1, hlt, by go_num, (by unfold Hid; rw [HN.out]; exact box_set5 (s := ⟨true, sa, sp, sv, st⟩) ((pq.b.block _ zq).trans HQ.out)), below_set5 (s := ⟨true, sa, sp, sv, st⟩) (HBr.out.trans (pq.b.mono (Nat.le_of_lt zq))) (Nat.le_refl _)⟩
    case measure => simp [intOf]; omega
   | true =>
    by_cases hlq : st < qt
    ·have HN := hide (HSu.out.trans (soonStep_less rfl hlq))
     clear HSu
     go_wp2
     (refine wp_region_grown (by kernel_rfl) (by kernel_rfl) ?_; intro hne9; (repeat (go_big_quiet_step ((fail)))); (with_reducible refine wpQuiet_nil ?_); intro _ hw9; obtain ⟨pq, hw8⟩ := hw9; subst hw8)
     go_wp2
     go_roundw
     case rel => exact ⟨k + 1, hlt, by go_num, (by unfold Hid; rw [HN.out]; exact box_set5 (s := ⟨true, sa, sp, sv, st⟩) ((pq.b.block _ zq).trans HQ.out)), below_set5 (s := ⟨true, sa, sp, sv, st⟩) (HBr.out.trans (pq.b.mono (Nat.le_of_lt zq))) (Nat.le_refl _)⟩
     case measure => simp [intOf]; omega
    ·have hdq : decide (st < qt) = false := decide_eq_false hlq
     have HN := hide (HSu.out.trans (soonStep_more rfl hlq))
     clear HSu
     go_wp2
     (refine wp_region_grown (by kernel_rfl) (by kernel_rfl) ?_; intro hne9; (repeat (go_big_quiet_step ((fail)))); (with_reducible refine wpQuiet_nil ?_); intro _ hw9; obtain ⟨pq, hw8⟩ := hw9; subst hw8)
     go_wp2
     go_roundw
     case rel => exact ⟨k + 1, hlt, by go_num, (by unfold Hid; rw [HN.out]; exact (pq.b.block _ zq).trans HQ.out), (HBr.out.trans (pq.b.mono (Nat.le_of_lt zq)))⟩
     case measure => simp [intOf]; omega
 ·skip
  have e : k = l.length := by omega
  subst e
  have HE := hide (show soonL l = q from hqq)
  have HQ := hq
  clear hq hqq
  go_wp2
  go_region
  go_wp2
  refine bodyPost_ret (v := .tuple #[slot q, .bool q.u]) (by simp [results, Tryz.results253, go_sem, cr0, cr1, cr2, cr3, cr4]) rfl ⟨by rw [HE.out], ?_⟩
  exact below_set5 (s := q) (Below.drew HB2.out) (show w.heap.size ≤ w.heap.size + 1 by omega)

end Go.Proofs.YtmmhgkkcpjhiiaaGreat

namespace Go.Proofs.YtmmhgkkcpjhiiaaGreat
open Go.ChangeShapes Go.WideShapes Go.ChangeAt Go.RowKit Go.Joins
set_option linter.unusedVariables false
set_option linter.unusedSimpArgs false

set_option maxHeartbeats 8000000 in
theorem plainTable_any (b off c : Nat) (l : List Sl) (w : World) (hbl : b < w.heap.size) (hc : ∀ i, i < l.length → ∀ j, j < layS.k → w.cell? ⟨b, off + i * layS.k + j, none⟩ = (layS.cs (l.getD i layS.d))[j]?) (hl : l.length ≤ 1048576) :
  Calls Tryz.prog 230 #[tab (.slice (some ⟨b, off, none⟩) l.length c)] w fun e w' => ∃ g, e = .returned (tab (.slice (some ⟨g, 0, none⟩) l.length l.length)) ∧ ownS w' w.heap.size (.slice (some ⟨g, 0, none⟩) l.length l.length) l ∧ Below w.heap.size w w' := by
 obtain ⟨i0, hi, hz0, hz1, hz2⟩ := info_parts infoSlot
 have HC := hide hc
 clear hc
 obtain ⟨W0, hW0⟩ : ∃ W, ((w.alloc (.cells #[.slice (some ⟨b, off, none⟩) l.length c] 148)).alloc (.cells #[.slice none 0 0] 32)) = W := ⟨_, rfl⟩
 have hb_W0 : Below w.heap.size w W0 := by rw [← hW0]; exact (((Below.refl _ _).alloc (Nat.le_refl _) _).alloc (by simp <;> omega) _)
 have HB := hide hb_W0
 clear hb_W0
 have zct : w.heap.size < W0.heap.size := by rw [← hW0]; simp <;> omega
 have ct0 : W0.cell? ⟨w.heap.size, 0, none⟩ = some (.slice (some ⟨b, off, none⟩) l.length c) := by rw [← hW0]; simp [go_sem]
 have zcr : w.heap.size + 1 < W0.heap.size := by rw [← hW0]; simp
 have cr0 : W0.cell? ⟨w.heap.size + 1, 0, none⟩ = some (.slice none 0 0) := by rw [← hW0]; simp [go_sem]
 have fcr0 : W0.frozen? ⟨w.heap.size + 1, 0, none⟩ = false := by rw [← hW0]; simp [go_sem]
 have zcr0 := zcr
 have hw00 : w.heap.size ≤ W0.heap.size := HB.out.size
 go_enter Tryz.func230, Tryz.ntmps230
 go_wp2_with (at_make; refine wpList_make_full _ rfl _ _ 30 rfl W0.heap.size 160 i0 (slot sl0) 5 Tryz.underlying30 hi hz0 hz1 _ _ _ _ l.length rfl rfl rfl rfl ?b2 ?b3 ?b4 ?_)
 case b2 => rw [hz2]; omega
 case b3 => unfold maxLen; omega
 case b4 => simp
 intro w1 hown hgrow
 have hb : Below W0.heap.size W0 w1 := (Below.refl _ _).grown hgrow (Nat.le_refl _) (fun k h => by cases h)
 have HBg := hide hb
 have HO : Hid (w1.ownsRow W0.heap.size 160 5 (.slice (some ⟨W0.heap.size, 0, none⟩) l.length l.length) l.length ((fillL layS l 0).flatMap layS.cs)) := by unfold Hid; rw [fillL_zero, ← made_flat layS (slot sl0) rfl]; exact hown
 have zg : W0.heap.size < w1.heap.size := (hown.lt _ rfl).2
 clear hown hgrow
 replace ct0 : w1.cell? ⟨w.heap.size, 0, none⟩ = some (.slice (some ⟨b, off, none⟩) l.length c) := (hb.cell (p := ⟨w.heap.size, 0, none⟩) zct).trans ct0
 replace zct : w.heap.size < w1.heap.size := Nat.lt_of_lt_of_le zct hb.size
 replace cr0 : w1.cell? ⟨w.heap.size + 1, 0, none⟩ = some (.slice none 0 0) := (hb.cell (p := ⟨w.heap.size + 1, 0, none⟩) zcr).trans cr0
 replace fcr0 : w1.frozen? ⟨w.heap.size + 1, 0, none⟩ = false := (hb.frozen (p := ⟨w.heap.size + 1, 0, none⟩) zcr).trans fcr0
 replace zcr : w.heap.size + 1 < w1.heap.size := Nat.lt_of_lt_of_le zcr hb.size
 replace HB := hide (HB.out.trans (hb.mono HB.out.size))
 clear hb
 obtain ⟨W2, hW2⟩ : ∃ W, (w1.alloc (.cells #[.slice (some ⟨W0.heap.size, 0, none⟩) l.length l.length] 32)) = W := ⟨_, rfl⟩
 have hb_W2 : Below w1.heap.size w1 W2 := by rw [← hW2]; exact ((Below.refl _ _).alloc (Nat.le_refl _) _)
 replace ct0 : W2.cell? ⟨w.heap.size, 0, none⟩ = some (.slice (some ⟨b, off, none⟩) l.length c) := (hb_W2.cell (p := ⟨w.heap.size, 0, none⟩) zct).trans ct0
 replace zct : w.heap.size < W2.heap.size := Nat.lt_of_lt_of_le zct hb_W2.size
 replace cr0 : W2.cell? ⟨w.heap.size + 1, 0, none⟩ = some (.slice none 0 0) := (hb_W2.cell (p := ⟨w.heap.size + 1, 0, none⟩) zcr).trans cr0
 replace fcr0 : W2.frozen? ⟨w.heap.size + 1, 0, none⟩ = false := (hb_W2.frozen (p := ⟨w.heap.size + 1, 0, none⟩) zcr).trans fcr0
 replace zcr : w.heap.size + 1 < W2.heap.size := Nat.lt_of_lt_of_le zcr hb_W2.size
 replace HO := hide (own_kept HO.out hb_W2)
 replace HB := hide (HB.out.trans (hb_W2.mono HB.out.size))
 clear hb_W2
 have zcs : w1.heap.size < W2.heap.size := by rw [← hW2]; simp
 have cs0 : W2.cell? ⟨w1.heap.size, 0, none⟩ = some (.slice (some ⟨W0.heap.size, 0, none⟩) l.length l.length) := by rw [← hW2]; simp [go_sem]
 have b3 : Hid (W2.heap[w1.heap.size]? = some (.cells #[.slice (some ⟨W0.heap.size, 0, none⟩) l.length l.length] 32 (0, 0))) := by rw [← hW2]; exact World.alloc_heap_new w1 _
 have bR : Hid (W2.heap[w.heap.size + 1]? = some (.cells #[.slice none 0 0] 32 (0, 0))) := by
  have h := World.alloc_heap_new (w.alloc (.cells #[.slice (some ⟨b, off, none⟩) l.length c] 148)) (.cells #[.slice none 0 0] 32)
  rw [hW0, World.size_alloc] at h
  exact ((by rw [← hW2]; exact (Below.heap_alloc _ _ _ (by omega)) : W2.heap[w.heap.size + 1]? = w1.heap[w.heap.size + 1]?)).trans ((HBg.out.block _ zcr0).trans h)
 have zs0 := zcs
 go_wp2
 go_loopw [14] (fun i wr => ∃ k : Nat, k ≤ l.length ∧ i = .int .i64 k ∧ Hid (wr.ownsRow W0.heap.size 160 5 (.slice (some ⟨W0.heap.size, 0, none⟩) l.length l.length) l.length ((fillL layS l k).flatMap layS.cs)) ∧ Hid (wr.heap[w.heap.size + 1]? = some (.cells #[.slice none 0 0] 32 (0, 0))) ∧ Hid (wr.heap[w1.heap.size]? = some (.cells #[.slice (some ⟨W0.heap.size, 0, none⟩) l.length l.length] 32 (0, 0))) ∧ Hid (Below w.heap.size w wr) ∧ w1.heap.size < wr.heap.size)
  (fun i _ => l.length - (intOf i).toNat)
 case atStart => exact ⟨0, Nat.zero_le _, rfl, HO, bR, b3, HB, zcs⟩
 case round =>
  clear HO bR b3 HB HBg ct0 cr0 fcr0 cs0 hW2 hW0 zct zcr zcs
  obtain ⟨k, hk, rfl, HO, HR, HT, HBr, hsz⟩ := hrel
  by_cases hlt : k < l.length
  ·obtain ⟨s, hxy⟩ : ∃ s, l.getD k sl0 = s := ⟨_, rfl⟩
   have hcx := RdL.slot (C := w.heap.size) HC.out k hlt
   rw [hxy] at hcx
   have e0 := (HBr.out.cell (p := ⟨b, off + k * 5, none⟩) hbl).trans hcx.1
   have e1 := (HBr.out.cell (p := ⟨b, off + k * 5 + 1, none⟩) hbl).trans hcx.2.1
   have e2 := (HBr.out.cell (p := ⟨b, off + k * 5 + 2, none⟩) hbl).trans hcx.2.2.1
   have e3 := (HBr.out.cell (p := ⟨b, off + k * 5 + 3, none⟩) hbl).trans hcx.2.2.2.1
   have e4 := (HBr.out.cell (p := ⟨b, off + k * 5 + 4, none⟩) hbl).trans hcx.2.2.2.2
   have hk' : (k : Int) < (l.length : Int) := by omega
   have HX := hide hxy
   clear hcx hxy
   obtain ⟨W5, hW5⟩ : ∃ W, wr.alloc (.cells (slotCells s) 288) = W := ⟨_, rfl⟩
   have hb5 : Below wr.heap.size wr W5 := by rw [← hW5]; exact (Below.refl _ _).alloc (Nat.le_refl _) _
   have hz5 : wr.heap.size < W5.heap.size := by rw [← hW5]; simp
   have s0 : W5.cell? ⟨wr.heap.size, 0, none⟩ = some (.bool s.u) := by rw [← hW5]; simp [go_sem]
   have s1 : W5.cell? ⟨wr.heap.size, 1, none⟩ = some (.int .i64 s.a) := by rw [← hW5]; simp [go_sem]
   have s2 : W5.cell? ⟨wr.heap.size, 2, none⟩ = some (.int .i64 s.p) := by rw [← hW5]; simp [go_sem]
   have s3 : W5.cell? ⟨wr.heap.size, 3, none⟩ = some (.int .i64 s.v) := by rw [← hW5]; simp [go_sem]
   have s4 : W5.cell? ⟨wr.heap.size, 4, none⟩ = some (.int .i64 s.t) := by rw [← hW5]; simp [go_sem]
   have t3 : W5.cell? ⟨w1.heap.size, 0, none⟩ = some (.slice (some ⟨W0.heap.size, 0, none⟩) l.length l.length) := (hb5.cell (p := ⟨w1.heap.size, 0, none⟩) hsz).trans (block_cell1 HT.out 0 _ rfl)
   have zt3 : w1.heap.size < W5.heap.size := Nat.lt_of_lt_of_le hsz hb5.size
   have Hb5 := hide hb5
   have hown5 := own_kept HO.out hb5
   have hso := slotOf_any s W5.drew
   have hln : ((fillL layS l k).flatMap layS.cs).length = l.length * 5 := by rw [flat_length, fillL_length layS l k hk]; rfl
   have Hown5 : Hid (W5.ownsRow W0.heap.size 160 5 (.slice (some ⟨W0.heap.size, 0, none⟩) l.length l.length) l.length ((fillL layS l k).flatMap layS.cs)) := hown5
   clear hown5 hb5
   go_wp2
   first | (go_region_with (first | (go_at_call 332; refine hso.mono ?_; rintro e w6 ⟨rfl, hb⟩; replace hb : Below W5.heap.size W5 w6 := (Below.drew (Below.refl _ _)).trans hb; have t36 := (hb.cell (p := ⟨w1.heap.size, 0, none⟩) zt3).trans t3; have s60 := (hb.cell (p := ⟨wr.heap.size, 0, none⟩) hz5).trans s0; have s61 := (hb.cell (p := ⟨wr.heap.size, 1, none⟩) hz5).trans s1; have s62 := (hb.cell (p := ⟨wr.heap.size, 2, none⟩) hz5).trans s2; have s63 := (hb.cell (p := ⟨wr.heap.size, 3, none⟩) hz5).trans s3; have s64 := (hb.cell (p := ⟨wr.heap.size, 4, none⟩) hz5).trans s4; have ho6 := own_kept Hown5.out hb; obtain ⟨u0, hu0⟩ : ∃ u, w6.cell? ⟨W0.heap.size, k * 5, none⟩ = some u := ⟨_, (ho6.cellAt (k * 5) (by omega)).trans (List.getElem?_eq_getElem (by omega))⟩; have hf0 := ho6.frozenAt (k * 5); obtain ⟨u1, hu1⟩ : ∃ u, w6.cell? ⟨W0.heap.size, k * 5 + 1, none⟩ = some u := ⟨_, (ho6.cellAt (k * 5 + 1) (by omega)).trans (List.getElem?_eq_getElem (by omega))⟩; have hf1 := ho6.frozenAt (k * 5 + 1); obtain ⟨u2, hu2⟩ : ∃ u, w6.cell? ⟨W0.heap.size, k * 5 + 2, none⟩ = some u := ⟨_, (ho6.cellAt (k * 5 + 2) (by omega)).trans (List.getElem?_eq_getElem (by omega))⟩; have hf2 := ho6.frozenAt (k * 5 + 2); obtain ⟨u3, hu3⟩ : ∃ u, w6.cell? ⟨W0.heap.size, k * 5 + 3, none⟩ = some u := ⟨_, (ho6.cellAt (k * 5 + 3) (by omega)).trans (List.getElem?_eq_getElem (by omega))⟩; have hf3 := ho6.frozenAt (k * 5 + 3); obtain ⟨u4, hu4⟩ : ∃ u, w6.cell? ⟨W0.heap.size, k * 5 + 4, none⟩ = some u := ⟨_, (ho6.cellAt (k * 5 + 4) (by omega)).trans (List.getElem?_eq_getElem (by omega))⟩; have hf4 := ho6.frozenAt (k * 5 + 4); have Hb6 := hide hb; have HO6 := hide ho6; clear hb ho6))) | fail
   all_goals have HR6 := hide (stored5 (k := k) s (Nat.le_refl _) HO6.out (Below.refl W0.heap.size w6))
   all_goals have HX2 := hide (show (fillL layS l k).set k s = fillL layS l (k + 1) by rw [← HX.out]; exact fillL_set layS l k hlt)
   all_goals have Hb7 := hide (Hb5.out.trans (Hb6.out.mono Hb5.out.size))
   all_goals go_wp2
   all_goals go_roundw
   all_goals first | (simp [intOf]; omega; done) | exact ⟨k + 1, hlt, by go_num, (by have h := HR6.out.1; rw [HX2.out] at h; exact h), (HR6.out.2.block _ zcr0).trans ((Hb7.out.block _ (by omega)).trans HR.out), ((((((Below.heap_setCell _ _ _ _ (by simp; omega)).trans (Below.heap_setCell _ _ _ _ (by simp; omega))).trans (Below.heap_setCell _ _ _ _ (by simp; omega))).trans (Below.heap_setCell _ _ _ _ (by simp; omega))).trans (Below.heap_setCell _ _ _ _ (by simp; omega))).trans ((Hb7.out.block _ hsz).trans HT.out)), HBr.out.trans ((Hb7.out.mono HBr.out.size).trans (HR6.out.2.mono hw00)), Nat.lt_of_lt_of_le hsz (Nat.le_trans Hb7.out.size HR6.out.2.size)⟩
  ·have e : k = l.length := by omega
   subst e
   have hrow := HO.out
   rw [fillL_all] at hrow
   have HRow := hide hrow
   clear hrow HO
   have r1 := block_cell1 HR.out 0 _ rfl
   have f1 := frozen_of HR.out 0
   have t3 := block_cell1 HT.out 0 _ rfl
   go_wp2
   refine bodyPost_ret (v := tab (.slice (some ⟨W0.heap.size, 0, none⟩) l.length l.length)) (by simp [results, Tryz.results230, go_sem, r1]) rfl ⟨_, rfl, ?_, ?_⟩
   ·exact own_mono (ownsRow_setCell_below HRow.out (show w.heap.size + 1 < W0.heap.size from zcr0) _) hw00
   ·exact HBr.out.setCell (p := ⟨w.heap.size + 1, 0, none⟩) (by simp) _

end Go.Proofs.YtmmhgkkcpjhiiaaGreat

namespace Go.Proofs.YtmmhgkkcpjhiiaaGreat
open Go.ChangeShapes Go.WideShapes Go.ChangeAt Go.RowKit Go.Joins
set_option linter.unusedVariables false
set_option linter.unusedSimpArgs false


theorem balB_tab {m : Bm} (h : balB m = true) : tableOkB m.t = true := by
 rw [balB_spec] at h
 simp only [Bool.and_eq_true] at h
 exact h.2.1
theorem balB_pos {m : Bm} (h : balB m = true) : 0 < m.t.length := (tableOkB_iff.1 (balB_tab h)).1
theorem rdS_some {C : Nat} {w : World} {o : Option Addr} {l : List Sl} (h : RdS C w o l) (hn : 0 < l.length) : ∃ b off, o = some ⟨b, off, none⟩ ∧ b < C ∧ ∀ i, i < l.length → ∀ j, j < layS.k → w.cell? ⟨b, off + i * layS.k + j, none⟩ = (layS.cs (l.getD i layS.d))[j]? := by
 rcases h with h | ⟨b, off, e, hb, r⟩
 ·subst h; simp at hn
 ·exact ⟨b, off, e, hb, r⟩
theorem inBl_open {lo hi : Nat} {w : World} {xo : Option Addr} {xn xc : Nat} {kq : Int} {yo : Option Addr} {yn yc : Nat} {sq kr : Int} {uo : Option Addr} {un uc : Nat} {vo : Option Addr} {vn vc : Nat} {j : Jm} {p : Pm} {t : List Sl} (h : InBl lo hi w (balr (.slice xo xn xc) kq (.slice yo yn yc) sq kr (.slice uo un uc) (.slice vo vn vc)) j p t) (ht : 0 < t.length) :
  ∃ g a b, lo ≤ a ∧ a ≤ g ∧ g < b ∧ b ≤ hi ∧ kq = j.key ∧ sq = j.safe ∧ kr = p.key ∧ xo = some ⟨g, 0, none⟩ ∧ xn = t.length ∧ InPm lo a w (plv p.key (.slice uo un uc) (.slice vo vn vc)) p ∧ w.ownsRow a CellT 5 (.slice (some ⟨g, 0, none⟩) t.length xc) t.length (t.flatMap layS.cs) ∧ InJm b hi w (jrn j.key (.slice yo yn yc) j.safe) j := by
 obtain ⟨vt, vl, vb, vr, a, b, e, k1, k2, k3, i1, i2, i3⟩ := h
 simp only [Value.agg.injEq, Array.mk.injEq, List.cons.injEq, and_true, Value.int.injEq, true_and] at e
 obtain ⟨e1, e2, e3, e4, e5, e6, e7⟩ := e
 subst e1 e3 e6 e7
 have i2' := i2
 rcases i2'.1.2 with ⟨h1, h2⟩ | ⟨g, cap, cur, hv, hg, r⟩
 ·exact absurd h2 (by omega)
 ·injection hv with h4 h5 h6
  subst h4 h5 h6
  exact ⟨g, a, b, k1, hg, i2.2 g rfl, k3, e2, e4, e5, rfl, rfl, i1, i2.1, i3⟩

end Go.Proofs.YtmmhgkkcpjhiiaaGreat

namespace Go.Proofs.YtmmhgkkcpjhiiaaGreat
open Go.ChangeShapes Go.WideShapes Go.ChangeAt Go.RowKit Go.Joins
set_option linter.unusedVariables false
set_option linter.unusedSimpArgs false

theorem stp_setC (W : World) (B j : Nat) (v : Value) : Stp B (B + 1) W (W.setCell ⟨B, j, none⟩ v) := by
 have h := (Below.refl B W).setCell (p := ⟨B, j, none⟩) (Nat.le_refl _) v
 exact ⟨h.os, h.tape, h.output, h.size, fun k hk hn => Below.heap_setCell W ⟨B, j, none⟩ v k (by simp; omega)⟩
theorem InTb.opn {lo hi : Nat} {w : World} {v : Value} {m : List Sl} (h : InTb lo hi w v m) : ∃ (o : Option Addr) (c : Nat), v = tab (.slice o m.length c) := by
 obtain ⟨vl, rfl, o, c, rfl, _⟩ := h.rd
 exact ⟨o, c, rfl⟩
end Go.Proofs.YtmmhgkkcpjhiiaaGreat

namespace Go.Proofs.YtmmhgkkcpjhiiaaGreat
open Go.ChangeShapes Go.WideShapes Go.ChangeAt Go.RowKit Go.Joins
set_option linter.unusedVariables false
set_option linter.unusedSimpArgs false

theorem appS : AppOk layS 30 160 := ⟨Tryz.underlying30, ⟨_, _, infoSlot, rfl, by decide⟩, by decide, fun a u hu => by
 simp [layS] at hu; rcases hu with rfl | rfl | rfl | rfl | rfl <;> rfl⟩
theorem Stp.cell {lo hi b j : Nat} {w w' : World} {u : Value} (s : Stp lo hi w w') (h : w.cell? ⟨b, j, none⟩ = some u) (hb : b < w.heap.size) (hd : b < lo ∨ hi ≤ b) : w'.cell? ⟨b, j, none⟩ = some u := by
 have := s.block b hb hd
 simp only [World.cell?, this] at h ⊢; exact h
theorem Stp.frozen {lo hi b j : Nat} {w w' : World} (s : Stp lo hi w w') (h : w.frozen? ⟨b, j, none⟩ = false) (hb : b < w.heap.size) (hd : b < lo ∨ hi ≤ b) : w'.frozen? ⟨b, j, none⟩ = false := by
 have := s.block b hb hd
 simp only [World.frozen?, this] at h ⊢; exact h
theorem stp_set5 (W : World) (B k : Nat) (s : Sl) : Stp B (B + 1) W (((((W.setCell ⟨B, k * 5, none⟩ (.bool s.u)).setCell ⟨B, k * 5 + 1, none⟩ (.int .i64 s.a)).setCell ⟨B, k * 5 + 2, none⟩ (.int .i64 s.p)).setCell ⟨B, k * 5 + 3, none⟩ (.int .i64 s.v)).setCell ⟨B, k * 5 + 4, none⟩ (.int .i64 s.t)) :=
 ((((stp_setC W B _ _).trans (stp_setC _ B _ _)).trans (stp_setC _ B _ _)).trans (stp_setC _ B _ _)).trans (stp_setC _ B _ _)

set_option maxHeartbeats 2000000 in
theorem l5own_any (b off c : Nat) (l : List Sl) (w : World) (hbl : b < w.heap.size) (hc : ∀ i, i < l.length → ∀ j, j < layS.k → w.cell? ⟨b, off + i * layS.k + j, none⟩ = (layS.cs (l.getD i layS.d))[j]?) (hl : l.length ≤ 1048576) :
  Calls Tryz.prog 251 #[tab (.slice (some ⟨b, off, none⟩) l.length c)] w fun e w' => ∃ o' c', e = .returned (tab (.slice o' l.length c')) ∧ ownS w' w.heap.size (.slice o' l.length c') l ∧ Below w.heap.size w w' := by
 have HC := hide hc
 clear hc
 obtain ⟨W0, hW0⟩ : ∃ W, ((w.alloc (.cells #[.slice (some ⟨b, off, none⟩) l.length c] 32)).alloc (.cells #[.slice none 0 0] 32)) = W := ⟨_, rfl⟩
 have hb_W0 : Below w.heap.size w W0 := by rw [← hW0]; exact (((Below.refl _ _).alloc (Nat.le_refl _) _).alloc (by simp <;> omega) _)
 have HB := hide hb_W0
 clear hb_W0
 have zct : w.heap.size < W0.heap.size := by rw [← hW0]; simp <;> omega
 have ct0 : W0.cell? ⟨w.heap.size, 0, none⟩ = some (.slice (some ⟨b, off, none⟩) l.length c) := by rw [← hW0]; simp [go_sem]
 have zcr : w.heap.size + 1 < W0.heap.size := by rw [← hW0]; simp
 have cr0 : W0.cell? ⟨w.heap.size + 1, 0, none⟩ = some (.slice none 0 0) := by rw [← hW0]; simp [go_sem]
 have fcr0 : W0.frozen? ⟨w.heap.size + 1, 0, none⟩ = false := by rw [← hW0]; simp [go_sem]
 have HZ := hide zcr
 have hw00 := HB.out.size
 obtain ⟨W1, hW1⟩ : ∃ W, W0.alloc (.cells #[] 160) = W := ⟨_, rfl⟩
 have F1 : Hid (ownL layS 160 W1 W0.heap.size (.slice (some ⟨W0.heap.size, 0, none⟩) 0 0) []) := by rw [← hW1]; exact own_none0 (L := layS) W0 _
 have hb_W1 : Below W0.heap.size W0 W1 := by rw [← hW1]; exact (Below.refl _ _).alloc (Nat.le_refl _) _
 replace ct0 : W1.cell? ⟨w.heap.size, 0, none⟩ = some (.slice (some ⟨b, off, none⟩) l.length c) := (hb_W1.cell (p := ⟨w.heap.size, 0, none⟩) zct).trans ct0
 replace zct : w.heap.size < W1.heap.size := Nat.lt_of_lt_of_le zct hb_W1.size
 replace cr0 : W1.cell? ⟨w.heap.size + 1, 0, none⟩ = some (.slice none 0 0) := (hb_W1.cell (p := ⟨w.heap.size + 1, 0, none⟩) zcr).trans cr0
 replace fcr0 : W1.frozen? ⟨w.heap.size + 1, 0, none⟩ = false := (hb_W1.frozen (p := ⟨w.heap.size + 1, 0, none⟩) zcr).trans fcr0
 replace zcr : w.heap.size + 1 < W1.heap.size := Nat.lt_of_lt_of_le zcr hb_W1.size
 replace HB := hide (HB.out.trans (hb_W1.mono HB.out.size))
 clear hb_W1
 have hsz1 : W0.heap.size ≤ W1.heap.size := by rw [← hW1]; simp
 have rdl : Hid (RdL layS w.heap.size W1 (some ⟨b, off, none⟩) l) := .inr ⟨b, off, rfl, hbl, fun i hi j hj => (HB.out.cell (p := ⟨b, off + i * layS.k + j, none⟩) hbl).trans (HC.out i hi j hj)⟩
 go_enter Tryz.func251, Tryz.ntmps251
 go_wp2_with (at_builtin; refine wpList_append_lay appS rfl _ _ rfl W0.heap.size _ [] rfl F1.out (some ⟨b, off, none⟩) c w.heap.size l l.length rfl rfl (fun h => by cases h) rdl.out ?c1 ?c2 ?_)
 case c1 => simp; omega
 case c2 => exact hsz1
 intro v2 w2 hv2 hg2 _
 (try rw [List.nil_append] at hv2)
 have hb : Below W0.heap.size W1 w2 := (Below.refl _ _).grown hg2 hsz1 (fun q h => (F1.out.lt q h).1)
 have HO := hide hv2
 obtain ⟨o2, c2, hve, _⟩ := ownL.open (L := layS) hv2
 subst hve
 have cr02 : w2.cell? ⟨w.heap.size + 1, 0, none⟩ = some (.slice none 0 0) := (hb.cell (p := ⟨w.heap.size + 1, 0, none⟩) HZ.out).trans cr0
 have fcr02 : w2.frozen? ⟨w.heap.size + 1, 0, none⟩ = false := (hb.frozen (p := ⟨w.heap.size + 1, 0, none⟩) HZ.out).trans fcr0
 have HB2 := hide (HB.out.trans (hb.mono hw00))
 clear hv2 hg2 hb F1 cr0 fcr0
 go_wp2
 refine bodyPost_ret (v := tab (.slice o2 l.length c2)) (by simp [results, Tryz.results251, go_sem, cr02]) rfl ⟨_, _, rfl, ?_, ?_⟩
 ·exact own_mono (ownsRow_setCell_below HO.out (show w.heap.size + 1 < W0.heap.size from HZ.out) _) hw00
 ·exact HB2.out.setCell (p := ⟨w.heap.size + 1, 0, none⟩) (by simp) _

theorem putL_no {l : List Sl} {a p v t : Int} (h : (endL l a p).1 < 0) : putL l a p v t = l := by unfold putL; rw [if_neg (by omega)]
theorem putL_yes {l : List Sl} {a p v t : Int} {k : Nat} (h : (endL l a p).1 = (k : Int)) : putL l a p v t = l.set k ⟨true, a, p, v, t⟩ := by unfold putL; rw [if_pos (by omega), h]; simp
theorem endL_place (l : List Sl) (hn : 0 < l.length) (a p : Int) : (endL l a p).1 = -1 ∨ ∃ k, k < l.length ∧ (endL l a p).1 = (k : Int) := by
 rcases endL_cases l hn a p with e | ⟨k, hk, ⟨e, _⟩ | ⟨e, _⟩⟩
 ·exact .inl (by rw [e])
 ·exact .inr ⟨k, hk, by rw [e]⟩
 ·exact .inr ⟨k, hk, by rw [e]⟩
set_option maxHeartbeats 2000000 in
theorem l5putW_any (b off c : Nat) (l : List Sl) (a p v t : Int) (w : World) (hn : 0 < l.length) (hl : l.length ≤ 1048576) (hf : flowOkB a p = true) (hbl : b < w.heap.size) (hc : ∀ i, i < l.length → ∀ j, j < layS.k → w.cell? ⟨b, off + i * layS.k + j, none⟩ = (layS.cs (l.getD i layS.d))[j]?) :
  Calls Tryz.prog 252 #[tab (.slice (some ⟨b, off, none⟩) l.length c), flow a p, .int .i64 v, .int .i64 t] w fun e w' => ∃ b' off' c', e = .returned (.tuple #[tab (.slice (some ⟨b', off', none⟩) l.length c'), .bool (decide (0 ≤ (endL l a p).1))]) ∧ b' < w'.heap.size ∧ (∀ i, i < (putL l a p v t).length → ∀ j, j < layS.k → w'.cell? ⟨b', off' + i * layS.k + j, none⟩ = (layS.cs ((putL l a p v t).getD i layS.d))[j]?) ∧ Below w.heap.size w w' ∧ (b' = b ∨ w.heap.size ≤ b') := by
 have HC := hide hc
 clear hc
 obtain ⟨W0, hW0⟩ : ∃ W, (((w.alloc (.cells #[.slice (some ⟨b, off, none⟩) l.length c] 32)).alloc (.cells #[.int .i64 a, .int .i64 p] 36)).alloc (.cells #[.slice none 0 0] 32)) = W := ⟨_, rfl⟩
 have hb_W0 : Below w.heap.size w W0 := by rw [← hW0]; exact ((((Below.refl _ _).alloc (Nat.le_refl _) _).alloc (by simp <;> omega) _).alloc (by simp <;> omega) _)
 have HB := hide hb_W0
 clear hb_W0
 have zct : w.heap.size < W0.heap.size := by rw [← hW0]; simp <;> omega
 have ct0 : W0.cell? ⟨w.heap.size, 0, none⟩ = some (.slice (some ⟨b, off, none⟩) l.length c) := by rw [← hW0]; simp [go_sem]
 have zcf : w.heap.size + 1 < W0.heap.size := by rw [← hW0]; simp <;> omega
 have cf0 : W0.cell? ⟨w.heap.size + 1, 0, none⟩ = some (.int .i64 a) := by rw [← hW0]; simp [go_sem]
 have cf1 : W0.cell? ⟨w.heap.size + 1, 1, none⟩ = some (.int .i64 p) := by rw [← hW0]; simp [go_sem]
 have zcr : w.heap.size + 1 + 1 < W0.heap.size := by rw [← hW0]; simp
 have cr0 : W0.cell? ⟨w.heap.size + 1 + 1, 0, none⟩ = some (.slice none 0 0) := by rw [← hW0]; simp [go_sem]
 have fcr0 : W0.frozen? ⟨w.heap.size + 1 + 1, 0, none⟩ = false := by rw [← hW0]; simp [go_sem]
 have hat := l5at_any (some ⟨b, off, none⟩) c l a p W0 (.inr ⟨b, off, rfl, Nat.lt_of_lt_of_le hbl HB.out.size, (fun i hi j hj => (HB.out.cell (p := ⟨b, off + i * layS.k + j, none⟩) hbl).trans (HC.out i hi j hj))⟩) hn hl hf
 obtain ⟨E, hE⟩ : ∃ E, endL l a p = E := ⟨_, rfl⟩
 have HZ := hide zcr
 have hw00 := HB.out.size
 rcases endL_place l hn a p with h1 | ⟨k, hk, h1⟩
 ·skip
  have HP := hide (putL_no (l := l) (a := a) (p := p) (v := v) (t := t) (by rw [h1]; decide))
  have HD := hide (show decide (0 ≤ (endL l a p).1) = false by rw [h1]; rfl)
  rw [h1] at hat
  generalize (endL l a p).2 = E2 at hat
  clear hE
  go_enter Tryz.func252, Tryz.ntmps252
  go_wp2_with fail
  refine (hat).mono ?_
  rintro e v1 ⟨rfl, hb⟩
  replace ct0 : v1.cell? ⟨w.heap.size, 0, none⟩ = some (.slice (some ⟨b, off, none⟩) l.length c) := (hb.cell (p := ⟨w.heap.size, 0, none⟩) zct).trans ct0
  replace zct : w.heap.size < v1.heap.size := Nat.lt_of_lt_of_le zct hb.size
  replace cf0 : v1.cell? ⟨w.heap.size + 1, 0, none⟩ = some (.int .i64 a) := (hb.cell (p := ⟨w.heap.size + 1, 0, none⟩) zcf).trans cf0
  replace cf1 : v1.cell? ⟨w.heap.size + 1, 1, none⟩ = some (.int .i64 p) := (hb.cell (p := ⟨w.heap.size + 1, 1, none⟩) zcf).trans cf1
  replace zcf : w.heap.size + 1 < v1.heap.size := Nat.lt_of_lt_of_le zcf hb.size
  replace cr0 : v1.cell? ⟨w.heap.size + 1 + 1, 0, none⟩ = some (.slice none 0 0) := (hb.cell (p := ⟨w.heap.size + 1 + 1, 0, none⟩) zcr).trans cr0
  replace fcr0 : v1.frozen? ⟨w.heap.size + 1 + 1, 0, none⟩ = false := (hb.frozen (p := ⟨w.heap.size + 1 + 1, 0, none⟩) zcr).trans fcr0
  replace zcr : w.heap.size + 1 + 1 < v1.heap.size := Nat.lt_of_lt_of_le zcr hb.size
  replace HB := hide (HB.out.trans (hb.mono HB.out.size))
  clear hb
  clear hat
  go_wp2
  refine bodyPost_ret (v := .tuple #[tab (.slice (some ⟨b, off, none⟩) l.length c), .bool false]) (by simp [results, Tryz.results252, go_sem, cr0]) rfl ⟨b, off, c, by rw [HD.out], ?_, ?_, ?_, .inl rfl⟩
  ·have := HB.out.size; simp; omega
  ·rw [HP.out]
   intro i hi j hj
   have hB2 := HB.out.setCell (p := ⟨w.heap.size + 1 + 1, 0, none⟩) (by simp <;> omega) (.slice (some ⟨b, off, none⟩) l.length c)
   exact (hB2.cell (p := ⟨b, off + i * layS.k + j, none⟩) hbl).trans (HC.out i hi j hj)
  ·exact HB.out.setCell (p := ⟨w.heap.size + 1 + 1, 0, none⟩) (by simp <;> omega) _
 ·skip
  have HP := hide (putL_yes (l := l) (a := a) (p := p) (v := v) (t := t) h1)
  have HD := hide (show decide (0 ≤ (endL l a p).1) = true by rw [h1]; simp)
  rw [h1] at hat
  generalize (endL l a p).2 = E2 at hat
  clear hE h1
  have hk' : (k : Int) < (l.length : Int) := by omega
  go_enter Tryz.func252, Tryz.ntmps252
  go_wp2_with fail
  refine (hat).mono ?_
  rintro e v1 ⟨rfl, hb⟩
  replace ct0 : v1.cell? ⟨w.heap.size, 0, none⟩ = some (.slice (some ⟨b, off, none⟩) l.length c) := (hb.cell (p := ⟨w.heap.size, 0, none⟩) zct).trans ct0
  replace zct : w.heap.size < v1.heap.size := Nat.lt_of_lt_of_le zct hb.size
  replace cf0 : v1.cell? ⟨w.heap.size + 1, 0, none⟩ = some (.int .i64 a) := (hb.cell (p := ⟨w.heap.size + 1, 0, none⟩) zcf).trans cf0
  replace cf1 : v1.cell? ⟨w.heap.size + 1, 1, none⟩ = some (.int .i64 p) := (hb.cell (p := ⟨w.heap.size + 1, 1, none⟩) zcf).trans cf1
  replace zcf : w.heap.size + 1 < v1.heap.size := Nat.lt_of_lt_of_le zcf hb.size
  replace cr0 : v1.cell? ⟨w.heap.size + 1 + 1, 0, none⟩ = some (.slice none 0 0) := (hb.cell (p := ⟨w.heap.size + 1 + 1, 0, none⟩) zcr).trans cr0
  replace fcr0 : v1.frozen? ⟨w.heap.size + 1 + 1, 0, none⟩ = false := (hb.frozen (p := ⟨w.heap.size + 1 + 1, 0, none⟩) zcr).trans fcr0
  replace zcr : w.heap.size + 1 + 1 < v1.heap.size := Nat.lt_of_lt_of_le zcr hb.size
  replace HB := hide (HB.out.trans (hb.mono HB.out.size))
  clear hb
  go_wp2_with fail
  refine (l5own_any b off c l v1 (Nat.lt_of_lt_of_le hbl HB.out.size) (fun i hi j hj => (HB.out.cell (p := ⟨b, off + i * layS.k + j, none⟩) hbl).trans (HC.out i hi j hj)) hl).mono ?_
  rintro e v2 ⟨o2, c2, rfl, hown, hb⟩
  have HV1 := hide zcr
  obtain ⟨g, c3, hve⟩ : ∃ g c3, Value.slice o2 l.length c2 = .slice (some ⟨g, 0, none⟩) l.length c3 := by
   rcases hown.2 with ⟨_, h0⟩ | ⟨g, c3, _, h0, _⟩
   ·exact absurd h0 (by omega)
   ·exact ⟨g, c3, h0⟩
  injection hve with hv1 hv2 hv3
  subst hv1 hv3
  have HO := hide hown
  clear hown
  replace ct0 : v2.cell? ⟨w.heap.size, 0, none⟩ = some (.slice (some ⟨b, off, none⟩) l.length c) := (hb.cell (p := ⟨w.heap.size, 0, none⟩) zct).trans ct0
  replace zct : w.heap.size < v2.heap.size := Nat.lt_of_lt_of_le zct hb.size
  replace cf0 : v2.cell? ⟨w.heap.size + 1, 0, none⟩ = some (.int .i64 a) := (hb.cell (p := ⟨w.heap.size + 1, 0, none⟩) zcf).trans cf0
  replace cf1 : v2.cell? ⟨w.heap.size + 1, 1, none⟩ = some (.int .i64 p) := (hb.cell (p := ⟨w.heap.size + 1, 1, none⟩) zcf).trans cf1
  replace zcf : w.heap.size + 1 < v2.heap.size := Nat.lt_of_lt_of_le zcf hb.size
  replace cr0 : v2.cell? ⟨w.heap.size + 1 + 1, 0, none⟩ = some (.slice none 0 0) := (hb.cell (p := ⟨w.heap.size + 1 + 1, 0, none⟩) zcr).trans cr0
  replace fcr0 : v2.frozen? ⟨w.heap.size + 1 + 1, 0, none⟩ = false := (hb.frozen (p := ⟨w.heap.size + 1 + 1, 0, none⟩) zcr).trans fcr0
  replace zcr : w.heap.size + 1 + 1 < v2.heap.size := Nat.lt_of_lt_of_le zcr hb.size
  replace HB := hide (HB.out.trans (hb.mono HB.out.size))
  clear hb
  have HOv := HO
  obtain ⟨W2, hW2⟩ : ∃ W, (v2.alloc (.cells #[.slice (some ⟨g, 0, none⟩) l.length c2] 32)) = W := ⟨_, rfl⟩
  have hb_W2 : Below v2.heap.size v2 W2 := by rw [← hW2]; exact ((Below.refl _ _).alloc (Nat.le_refl _) _)
  replace ct0 : W2.cell? ⟨w.heap.size, 0, none⟩ = some (.slice (some ⟨b, off, none⟩) l.length c) := (hb_W2.cell (p := ⟨w.heap.size, 0, none⟩) zct).trans ct0
  replace zct : w.heap.size < W2.heap.size := Nat.lt_of_lt_of_le zct hb_W2.size
  replace cf0 : W2.cell? ⟨w.heap.size + 1, 0, none⟩ = some (.int .i64 a) := (hb_W2.cell (p := ⟨w.heap.size + 1, 0, none⟩) zcf).trans cf0
  replace cf1 : W2.cell? ⟨w.heap.size + 1, 1, none⟩ = some (.int .i64 p) := (hb_W2.cell (p := ⟨w.heap.size + 1, 1, none⟩) zcf).trans cf1
  replace zcf : w.heap.size + 1 < W2.heap.size := Nat.lt_of_lt_of_le zcf hb_W2.size
  replace cr0 : W2.cell? ⟨w.heap.size + 1 + 1, 0, none⟩ = some (.slice none 0 0) := (hb_W2.cell (p := ⟨w.heap.size + 1 + 1, 0, none⟩) zcr).trans cr0
  replace fcr0 : W2.frozen? ⟨w.heap.size + 1 + 1, 0, none⟩ = false := (hb_W2.frozen (p := ⟨w.heap.size + 1 + 1, 0, none⟩) zcr).trans fcr0
  replace zcr : w.heap.size + 1 + 1 < W2.heap.size := Nat.lt_of_lt_of_le zcr hb_W2.size
  replace HO := hide (own_kept HO.out hb_W2)
  replace HB := hide (HB.out.trans (hb_W2.mono HB.out.size))
  clear hb_W2
  have zco : v2.heap.size < W2.heap.size := by rw [← hW2]; simp
  have co0 : W2.cell? ⟨v2.heap.size, 0, none⟩ = some (.slice (some ⟨g, 0, none⟩) l.length c2) := by rw [← hW2]; simp [go_sem]
  have hgb := (HO.out.lt g rfl)
  have ho : W2.ownsRow v1.heap.size 160 5 (.slice (some ⟨g, 0, none⟩) l.length c2) l.length (l.flatMap layS.cs) := HO.out
  have hln : (l.flatMap layS.cs).length = l.length * 5 := by rw [flat_length]; rfl
  obtain ⟨u0, hu0⟩ : ∃ u, W2.cell? ⟨g, k * 5, none⟩ = some u := ⟨_, (ho.cellAt (k * 5) (by omega)).trans (List.getElem?_eq_getElem (by omega))⟩
  have hf0 := ho.frozenAt (k * 5)
  obtain ⟨u1, hu1⟩ : ∃ u, W2.cell? ⟨g, k * 5 + 1, none⟩ = some u := ⟨_, (ho.cellAt (k * 5 + 1) (by omega)).trans (List.getElem?_eq_getElem (by omega))⟩
  have hf1 := ho.frozenAt (k * 5 + 1)
  obtain ⟨u2, hu2⟩ : ∃ u, W2.cell? ⟨g, k * 5 + 2, none⟩ = some u := ⟨_, (ho.cellAt (k * 5 + 2) (by omega)).trans (List.getElem?_eq_getElem (by omega))⟩
  have hf2 := ho.frozenAt (k * 5 + 2)
  obtain ⟨u3, hu3⟩ : ∃ u, W2.cell? ⟨g, k * 5 + 3, none⟩ = some u := ⟨_, (ho.cellAt (k * 5 + 3) (by omega)).trans (List.getElem?_eq_getElem (by omega))⟩
  have hf3 := ho.frozenAt (k * 5 + 3)
  obtain ⟨u4, hu4⟩ : ∃ u, W2.cell? ⟨g, k * 5 + 4, none⟩ = some u := ⟨_, (ho.cellAt (k * 5 + 4) (by omega)).trans (List.getElem?_eq_getElem (by omega))⟩
  have hf4 := ho.frozenAt (k * 5 + 4)
  have HS := hide (stored5 (k := k) ⟨true, a, p, v, t⟩ (Nat.le_refl g) ho (Below.refl g W2))
  have HSt := hide (stp_set5 W2 g k ⟨true, a, p, v, t⟩)
  clear ho hln hat
  obtain ⟨W3, hW3⟩ : ∃ W, ((((W2.setCell ⟨g, k * 5, none⟩ (.bool true)).setCell ⟨g, k * 5 + 1, none⟩ (.int .i64 a)).setCell ⟨g, k * 5 + 2, none⟩ (.int .i64 p)).setCell ⟨g, k * 5 + 3, none⟩ (.int .i64 v)).setCell ⟨g, k * 5 + 4, none⟩ (.int .i64 t) = W := ⟨_, rfl⟩
  have HS3 : Hid (W3.ownsRow v1.heap.size 160 5 (.slice (some ⟨g, 0, none⟩) l.length c2) l.length ((l.set k ⟨true, a, p, v, t⟩).flatMap layS.cs)) := by rw [← hW3]; exact HS.out.1
  have HSt3 : Hid (Stp g (g + 1) W2 W3) := by rw [← hW3]; exact HSt.out
  have hgv : v1.heap.size ≤ g := hgb.1
  have hzo : g + 1 ≤ v2.heap.size := by have h := (HOv.out.lt g rfl).2; omega
  have co3 := HSt3.out.cell co0 zco (.inr hzo)
  have cr3 := HSt3.out.cell cr0 zcr (.inl (show w.heap.size + 1 + 1 < g from Nat.lt_of_lt_of_le HV1.out hgv))
  have fcr3 := HSt3.out.frozen fcr0 zcr (.inl (show w.heap.size + 1 + 1 < g from Nat.lt_of_lt_of_le HV1.out hgv))
  have hB3 : Hid (Below w.heap.size W2 W3) := HSt3.out.below (by have := HV1.out; omega) (by have := HV1.out; omega)
  have hwv : w.heap.size ≤ v1.heap.size := by have := HV1.out; omega
  clear cr0 fcr0 HS HSt
  go_wp2
  refine bodyPost_ret (v := .tuple #[tab (.slice (some ⟨g, 0, none⟩) l.length c2), .bool true]) (by simp [results, Tryz.results252, go_sem, cr3]) rfl ⟨g, 0, c2, by rw [HD.out], ?_, ?_, ?_, .inr (by have h1 := (HS3.out.lt g rfl).1; have h2 := HV1.out; omega)⟩
  ·have h := (HS3.out.lt g rfl).2; simpa using h
  ·rw [HP.out]
   have h := ownsRow_setCell_below HS3.out (a := ⟨w.heap.size + 1 + 1, 0, none⟩) (show w.heap.size + 1 + 1 < v1.heap.size from HV1.out) (.slice (some ⟨g, 0, none⟩) l.length c2)
   exact rd_of_own h (by simp)
  ·exact (HB.out.trans hB3.out).setCell (p := ⟨w.heap.size + 1 + 1, 0, none⟩) (by simp <;> omega) _

end Go.Proofs.YtmmhgkkcpjhiiaaGreat

