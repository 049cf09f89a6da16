/- Several texts in one: SSoon, SPlain, Cut5, SPut, SPut2, DropMath, WayMath, WayMath2, DueMath. -/
import Derived.Deep.RegionWith
import Derived.Test.YtpjkcgaohoinaaaGreatQLearn08
import Derived.Test.YtpjkcgaohoinaaaGreatQLearn04
import Derived.Test.YtpjkcgaohoinaaaGreatQLearn24
import Derived.Test.YtpjkcgaohoinaaaGreatQLearn03
import Derived.Test.YtpjkcgaohoinaaaGreatQLearn09
namespace Go.Proofs.YtpjkcgaohoinaaaGreat
open Go.ChangeShapes Go.WideShapes Go.ChangeAt Go.RowKit Go.Joins
set_option linter.unusedVariables false
set_option linter.unusedSimpArgs false

def soonStep (q s : Sl) : Sl := if s.u = true ∧ (q.u = false ∨ s.t < q.t) then s else q
def soonTo (l : List Sl) (k : Nat) : Sl := (l.take k).foldl soonStep sl0
theorem soonTo_succ {l : List Sl} {k : Nat} (h : k < l.length) : soonTo l (k + 1) = soonStep (soonTo l k) (l.getD k sl0) := by
 unfold soonTo
 rw [takeL_succ layS l k h, List.foldl_append]; rfl
theorem soonStep_free {q s : Sl} (h : s.u = false) : soonStep q s = q := by unfold soonStep; rw [if_neg (by rw [h]; simp)]
theorem soonStep_first {q s : Sl} (h : s.u = true) (hq : q.u = false) : soonStep q s = s := by unfold soonStep; rw [if_pos ⟨h, .inl hq⟩]
theorem soonStep_less {q s : Sl} (h : s.u = true) (hq : s.t < q.t) : soonStep q s = s := by unfold soonStep; rw [if_pos ⟨h, .inr hq⟩]
theorem soonStep_more {q s : Sl} (hq : q.u = true) (h : ¬ s.t < q.t) : soonStep q s = q := by
 unfold soonStep
 rw [if_neg]
 rintro ⟨_, h1 | h1⟩
 ·rw [hq] at h1; cases h1
 ·exact h h1
def soonL (l : List Sl) : Sl := soonTo l l.length
theorem box_set1 (w : World) (k j : Nat) (cs : Array Value) (t : TypeId) (v : Value) (h : w.heap[k]? = some (.cells cs t (0, 0))) : (w.setCell ⟨k, j, none⟩ v).heap[k]? = some (.cells (cs.setIfInBounds j v) t (0, 0)) := by
 simp [World.setCell, Array.getElem?_modify, h]
theorem frozen_of {W : World} {B : Nat} {c : Array Value} {t : TypeId} (h : W.heap[B]? = some (.cells c t (0, 0))) (j : Nat) : W.frozen? ⟨B, j, none⟩ = false := by simp [World.frozen?, h]
abbrev slotCells (s : Sl) : Array Value := #[.bool s.u, .int .i64 s.a, .int .i64 s.p, .int .i64 s.v, .int .i64 s.t]
def set5 (w : World) (B : Nat) (s : Sl) : World := ((((w.setCell ⟨B, 0, none⟩ (.bool s.u)).setCell ⟨B, 1, none⟩ (.int .i64 s.a)).setCell ⟨B, 2, none⟩ (.int .i64 s.p)).setCell ⟨B, 3, none⟩ (.int .i64 s.v)).setCell ⟨B, 4, none⟩ (.int .i64 s.t)
theorem box_set5 {w : World} {B : Nat} {s q : Sl} {T : TypeId} (h : w.heap[B]? = some (.cells (slotCells q) T (0, 0))) : (set5 w B s).heap[B]? = some (.cells (slotCells s) T (0, 0)) := by
 have h0 := box_set1 w B 0 _ _ (.bool s.u) h
 have h1 := box_set1 _ B 1 _ _ (.int .i64 s.a) h0
 have h2 := box_set1 _ B 2 _ _ (.int .i64 s.p) h1
 have h3 := box_set1 _ B 3 _ _ (.int .i64 s.v) h2
 have h4 := box_set1 _ B 4 _ _ (.int .i64 s.t) h3
 exact h4
theorem below_set5 {w W : World} {n B : Nat} (h : Below n w W) (hB : n ≤ B) (s : Sl) : Below n w (set5 W B s) :=
 ((((h.setCell (p := ⟨B, 0, none⟩) hB _).setCell (p := ⟨B, 1, none⟩) hB _).setCell (p := ⟨B, 2, none⟩) hB _).setCell (p := ⟨B, 3, none⟩) hB _).setCell (p := ⟨B, 4, none⟩) hB _

set_option maxHeartbeats 4000000 in
theorem l5soonest_any (b off c : Nat) (l : List Sl) (w : World) (hbl : b < w.heap.size) (hc : ∀ i, i < l.length → ∀ j, j < layS.k → w.cell? ⟨b, off + i * layS.k + j, none⟩ = (layS.cs (l.getD i layS.d))[j]?) (hl : l.length ≤ 1048576) :
  Calls Tryz.prog 55 #[tab (.slice (some ⟨b, off, none⟩) l.length c)] w fun e w' => e = .returned (.tuple #[slot (soonL l), .bool (soonL l).u]) ∧ Below w.heap.size w w' := by
 have HC := hide hc
 clear hc
 obtain ⟨W0, hW0⟩ : ∃ W, ((w.alloc (.cells #[.slice (some ⟨b, off, none⟩) l.length c] 45)).alloc (.cells #[.bool false, .int .i64 0, .int .i64 0, .int .i64 0, .int .i64 0] 96)) = W := ⟨_, rfl⟩
 have hb_W0 : Below w.heap.size w W0 := by rw [← hW0]; exact (((Below.refl _ _).alloc (Nat.le_refl _) _).alloc (by simp <;> omega) _)
 have HB := hide hb_W0
 clear hb_W0
 have zct : w.heap.size < W0.heap.size := by rw [← hW0]; simp <;> omega
 have ct0 : W0.cell? ⟨w.heap.size, 0, none⟩ = some (.slice (some ⟨b, off, none⟩) l.length c) := by rw [← hW0]; simp [go_sem]
 have zcr : w.heap.size + 1 < W0.heap.size := by rw [← hW0]; simp
 have cr0 : W0.cell? ⟨w.heap.size + 1, 0, none⟩ = some (.bool false) := by rw [← hW0]; simp [go_sem]
 have cr1 : W0.cell? ⟨w.heap.size + 1, 1, none⟩ = some (.int .i64 0) := by rw [← hW0]; simp [go_sem]
 have cr2 : W0.cell? ⟨w.heap.size + 1, 2, none⟩ = some (.int .i64 0) := by rw [← hW0]; simp [go_sem]
 have cr3 : W0.cell? ⟨w.heap.size + 1, 3, none⟩ = some (.int .i64 0) := by rw [← hW0]; simp [go_sem]
 have cr4 : W0.cell? ⟨w.heap.size + 1, 4, none⟩ = some (.int .i64 0) := by rw [← hW0]; simp [go_sem]
 have fcr0 : W0.frozen? ⟨w.heap.size + 1, 0, none⟩ = false := by rw [← hW0]; simp [go_sem]
 have fcr1 : W0.frozen? ⟨w.heap.size + 1, 1, none⟩ = false := by rw [← hW0]; simp [go_sem]
 have fcr2 : W0.frozen? ⟨w.heap.size + 1, 2, none⟩ = false := by rw [← hW0]; simp [go_sem]
 have fcr3 : W0.frozen? ⟨w.heap.size + 1, 3, none⟩ = false := by rw [← hW0]; simp [go_sem]
 have fcr4 : W0.frozen? ⟨w.heap.size + 1, 4, none⟩ = false := by rw [← hW0]; simp [go_sem]
 obtain ⟨W1, hW1⟩ : ∃ W, W0.alloc (.cells #[.bool false, .int .i64 0, .int .i64 0, .int .i64 0, .int .i64 0] 96) = W := ⟨_, rfl⟩
 have zct0 := zct
 have zcr0 := zcr
 have b4 : Hid (W1.heap[W0.heap.size]? = some (.cells (slotCells sl0) 96 (0, 0))) := by rw [← hW1]; exact World.alloc_heap_new W0 _
 have hb_W1 : Below W0.heap.size W0 W1 := by rw [← hW1]; exact (Below.refl _ _).alloc (Nat.le_refl _) _
 replace ct0 : W1.cell? ⟨w.heap.size, 0, none⟩ = some (.slice (some ⟨b, off, none⟩) l.length c) := (hb_W1.cell (p := ⟨w.heap.size, 0, none⟩) zct).trans ct0
 replace zct : w.heap.size < W1.heap.size := Nat.lt_of_lt_of_le zct hb_W1.size
 replace cr0 : W1.cell? ⟨w.heap.size + 1, 0, none⟩ = some (.bool false) := (hb_W1.cell (p := ⟨w.heap.size + 1, 0, none⟩) zcr).trans cr0
 replace cr1 : W1.cell? ⟨w.heap.size + 1, 1, none⟩ = some (.int .i64 0) := (hb_W1.cell (p := ⟨w.heap.size + 1, 1, none⟩) zcr).trans cr1
 replace cr2 : W1.cell? ⟨w.heap.size + 1, 2, none⟩ = some (.int .i64 0) := (hb_W1.cell (p := ⟨w.heap.size + 1, 2, none⟩) zcr).trans cr2
 replace cr3 : W1.cell? ⟨w.heap.size + 1, 3, none⟩ = some (.int .i64 0) := (hb_W1.cell (p := ⟨w.heap.size + 1, 3, none⟩) zcr).trans cr3
 replace cr4 : W1.cell? ⟨w.heap.size + 1, 4, none⟩ = some (.int .i64 0) := (hb_W1.cell (p := ⟨w.heap.size + 1, 4, none⟩) zcr).trans cr4
 replace fcr0 : W1.frozen? ⟨w.heap.size + 1, 0, none⟩ = false := (hb_W1.frozen (p := ⟨w.heap.size + 1, 0, none⟩) zcr).trans fcr0
 replace fcr1 : W1.frozen? ⟨w.heap.size + 1, 1, none⟩ = false := (hb_W1.frozen (p := ⟨w.heap.size + 1, 1, none⟩) zcr).trans fcr1
 replace fcr2 : W1.frozen? ⟨w.heap.size + 1, 2, none⟩ = false := (hb_W1.frozen (p := ⟨w.heap.size + 1, 2, none⟩) zcr).trans fcr2
 replace fcr3 : W1.frozen? ⟨w.heap.size + 1, 3, none⟩ = false := (hb_W1.frozen (p := ⟨w.heap.size + 1, 3, none⟩) zcr).trans fcr3
 replace fcr4 : W1.frozen? ⟨w.heap.size + 1, 4, none⟩ = false := (hb_W1.frozen (p := ⟨w.heap.size + 1, 4, none⟩) zcr).trans fcr4
 replace zcr : w.heap.size + 1 < W1.heap.size := Nat.lt_of_lt_of_le zcr hb_W1.size
 replace HB := hide (HB.out.trans (hb_W1.mono HB.out.size))
 clear hb_W1
 have hz4 : W0.heap.size < W1.heap.size := by rw [← hW1]; simp
 have HBW := HB
 go_enter Tryz.func55, Tryz.ntmps55
 go_wp2
 go_loopw [5] (fun i wr => ∃ k : Nat, k ≤ l.length ∧ i = .int .i64 k ∧ Hid (wr.heap[W0.heap.size]? = some (.cells (slotCells (soonTo l k)) 96 (0, 0))) ∧ Hid (Below (W0.heap.size) W1 wr))
  (fun i _ => l.length - (intOf i).toNat)
 case atStart => exact ⟨0, Nat.zero_le _, rfl, b4, Below.refl _ _⟩
 case round =>
 obtain ⟨k, hk, rfl, hq, HBr⟩ := hrel
 have hszr : W1.heap.size ≤ wr.heap.size := HBr.out.size
 obtain ⟨q, hqq⟩ : ∃ q, soonTo l k = q := ⟨_, rfl⟩
 rw [hqq] at hq
 replace ct0 : wr.cell? ⟨w.heap.size, 0, none⟩ = some (.slice (some ⟨b, off, none⟩) l.length c) := (HBr.out.cell (p := ⟨w.heap.size, 0, none⟩) zct0).trans ct0
 replace zct : w.heap.size < wr.heap.size := by omega
 replace cr0 : wr.cell? ⟨w.heap.size + 1, 0, none⟩ = some (.bool false) := (HBr.out.cell (p := ⟨w.heap.size + 1, 0, none⟩) zcr0).trans cr0
 replace cr1 : wr.cell? ⟨w.heap.size + 1, 1, none⟩ = some (.int .i64 0) := (HBr.out.cell (p := ⟨w.heap.size + 1, 1, none⟩) zcr0).trans cr1
 replace cr2 : wr.cell? ⟨w.heap.size + 1, 2, none⟩ = some (.int .i64 0) := (HBr.out.cell (p := ⟨w.heap.size + 1, 2, none⟩) zcr0).trans cr2
 replace cr3 : wr.cell? ⟨w.heap.size + 1, 3, none⟩ = some (.int .i64 0) := (HBr.out.cell (p := ⟨w.heap.size + 1, 3, none⟩) zcr0).trans cr3
 replace cr4 : wr.cell? ⟨w.heap.size + 1, 4, none⟩ = some (.int .i64 0) := (HBr.out.cell (p := ⟨w.heap.size + 1, 4, none⟩) zcr0).trans cr4
 replace fcr0 : wr.frozen? ⟨w.heap.size + 1, 0, none⟩ = false := (HBr.out.frozen (p := ⟨w.heap.size + 1, 0, none⟩) zcr0).trans fcr0
 replace fcr1 : wr.frozen? ⟨w.heap.size + 1, 1, none⟩ = false := (HBr.out.frozen (p := ⟨w.heap.size + 1, 1, none⟩) zcr0).trans fcr1
 replace fcr2 : wr.frozen? ⟨w.heap.size + 1, 2, none⟩ = false := (HBr.out.frozen (p := ⟨w.heap.size + 1, 2, none⟩) zcr0).trans fcr2
 replace fcr3 : wr.frozen? ⟨w.heap.size + 1, 3, none⟩ = false := (HBr.out.frozen (p := ⟨w.heap.size + 1, 3, none⟩) zcr0).trans fcr3
 replace fcr4 : wr.frozen? ⟨w.heap.size + 1, 4, none⟩ = false := (HBr.out.frozen (p := ⟨w.heap.size + 1, 4, none⟩) zcr0).trans fcr4
 replace zcr : w.heap.size + 1 < wr.heap.size := by omega
 have zq : W0.heap.size < wr.heap.size := by omega
 have hw0 : w.heap.size ≤ W0.heap.size := by omega
 have HB2 := hide (HBW.out.trans (HBr.out.mono hw0))
 have q0 : wr.cell? ⟨W0.heap.size, 0, none⟩ = some (.bool q.u) := block_cell1 hq.out 0 _ rfl
 have q1 : wr.cell? ⟨W0.heap.size, 1, none⟩ = some (.int .i64 q.a) := block_cell1 hq.out 1 _ rfl
 have q2 : wr.cell? ⟨W0.heap.size, 2, none⟩ = some (.int .i64 q.p) := block_cell1 hq.out 2 _ rfl
 have q3 : wr.cell? ⟨W0.heap.size, 3, none⟩ = some (.int .i64 q.v) := block_cell1 hq.out 3 _ rfl
 have q4 : wr.cell? ⟨W0.heap.size, 4, none⟩ = some (.int .i64 q.t) := block_cell1 hq.out 4 _ rfl
 have fq0 := frozen_of hq.out 0
 have fq1 := frozen_of hq.out 1
 have fq2 := frozen_of hq.out 2
 have fq3 := frozen_of hq.out 3
 have fq4 := frozen_of hq.out 4
 by_cases hlt : k < l.length
 ·skip
  have hcx := RdL.slot (C := w.heap.size) HC.out k hlt
  have HSu := hide (soonTo_succ hlt)
  rw [hqq] at HSu
  obtain ⟨s, hxy⟩ : ∃ s, l.getD k sl0 = s := ⟨_, rfl⟩
  rw [hxy] at hcx HSu
  have e0 := (HB2.out.cell (p := ⟨b, off + k * 5, none⟩) hbl).trans hcx.1
  have e1 := (HB2.out.cell (p := ⟨b, off + k * 5 + 1, none⟩) hbl).trans hcx.2.1
  have e2 := (HB2.out.cell (p := ⟨b, off + k * 5 + 2, none⟩) hbl).trans hcx.2.2.1
  have e3 := (HB2.out.cell (p := ⟨b, off + k * 5 + 3, none⟩) hbl).trans hcx.2.2.2.1
  have e4 := (HB2.out.cell (p := ⟨b, off + k * 5 + 4, none⟩) hbl).trans hcx.2.2.2.2
  have zb : b < wr.heap.size := Nat.lt_of_lt_of_le hbl HB2.out.size
  have hk' : (k : Int) < (l.length : Int) := by omega
  clear hcx hxy hqq
  have G0 := Grown.cell ct0 zct
  have Ge0 := Grown.cell (b := b) (off := off + k * 5) e0 zb
  have Gq0 := Grown.cell q0 zq
  have Gf0 : ∀ p : Grown wr, p.v.frozen? ⟨W0.heap.size, 0, none⟩ = false := fun p => (p.b.frozen (p := ⟨W0.heap.size, 0, none⟩) zq).trans fq0
  have Ge1 := Grown.cell (b := b) (off := off + k * 5 + 1) e1 zb
  have Gq1 := Grown.cell q1 zq
  have Gf1 : ∀ p : Grown wr, p.v.frozen? ⟨W0.heap.size, 1, none⟩ = false := fun p => (p.b.frozen (p := ⟨W0.heap.size, 1, none⟩) zq).trans fq1
  have Ge2 := Grown.cell (b := b) (off := off + k * 5 + 2) e2 zb
  have Gq2 := Grown.cell q2 zq
  have Gf2 : ∀ p : Grown wr, p.v.frozen? ⟨W0.heap.size, 2, none⟩ = false := fun p => (p.b.frozen (p := ⟨W0.heap.size, 2, none⟩) zq).trans fq2
  have Ge3 := Grown.cell (b := b) (off := off + k * 5 + 3) e3 zb
  have Gq3 := Grown.cell q3 zq
  have Gf3 : ∀ p : Grown wr, p.v.frozen? ⟨W0.heap.size, 3, none⟩ = false := fun p => (p.b.frozen (p := ⟨W0.heap.size, 3, none⟩) zq).trans fq3
  have Ge4 := Grown.cell (b := b) (off := off + k * 5 + 4) e4 zb
  have Gq4 := Grown.cell q4 zq
  have Gf4 : ∀ p : Grown wr, p.v.frozen? ⟨W0.heap.size, 4, none⟩ = false := fun p => (p.b.frozen (p := ⟨W0.heap.size, 4, none⟩) zq).trans fq4
  have HQ := hq
  clear hq fq0 q0 e0 fq1 q1 e1 fq2 q2 e2 fq3 q3 e3 fq4 q4 e4 cr0 fcr0 cr1 fcr1 cr2 fcr2 cr3 fcr3 cr4 fcr4
  obtain ⟨su, sa, sp, sv, st⟩ := s
  obtain ⟨qu, qa, qp, qv, qt⟩ := q
  simp only at Ge0 Ge1 Ge2 Ge3 Ge4 Gq0 Gq1 Gq2 Gq3 Gq4
  cases su with
  | false =>
   have HN := hide (HSu.out.trans (soonStep_free rfl))
   clear HSu
   go_wp2
   (refine wp_region_grown (by kernel_rfl) (by kernel_rfl) ?_; intro hne9; (repeat (go_big_quiet_step ((fail)))); (with_reducible refine wpQuiet_nil ?_); intro _ hw9; obtain ⟨pq, hw8⟩ := hw9; subst hw8)
   go_wp2
   go_roundw
   case rel => exact ⟨k + 1, hlt, by go_num, (by unfold Hid; rw [HN.out]; exact (pq.b.block _ zq).trans HQ.out), (HBr.out.trans (pq.b.mono (Nat.le_of_lt zq)))⟩
   case measure => simp [intOf]; omega
  | true =>
   cases qu with
   | false =>
    have HN := hide (HSu.out.trans (soonStep_first rfl rfl))
    clear HSu
    go_wp2
    (refine wp_region_grown (by kernel_rfl) (by kernel_rfl) ?_; intro hne9; (repeat (go_big_quiet_step ((fail)))); (with_reducible refine wpQuiet_nil ?_); intro _ hw9; obtain ⟨pq, hw8⟩ := hw9; subst hw8)
    go_wp2
    go_roundw
    case rel => exact ⟨k + 1, hlt, by go_num, (by unfold Hid; rw [HN.out]; exact box_set5 (s := ⟨true, sa, sp, sv, st⟩) ((pq.b.block _ zq).trans HQ.out)), below_set5 (s := ⟨true, sa, sp, sv, st⟩) (HBr.out.trans (pq.b.mono (Nat.le_of_lt zq))) (Nat.le_refl _)⟩
    case measure => simp [intOf]; omega
   | true =>
    by_cases hlq : st < qt
    ·have HN := hide (HSu.out.trans (soonStep_less rfl hlq))
     clear HSu
     go_wp2
     (refine wp_region_grown (by kernel_rfl) (by kernel_rfl) ?_; intro hne9; (repeat (go_big_quiet_step ((fail)))); (with_reducible refine wpQuiet_nil ?_); intro _ hw9; obtain ⟨pq, hw8⟩ := hw9; subst hw8)
     go_wp2
     go_roundw
     case rel => exact ⟨k + 1, hlt, by go_num, (by unfold Hid; rw [HN.out]; exact box_set5 (s := ⟨true, sa, sp, sv, st⟩) ((pq.b.block _ zq).trans HQ.out)), below_set5 (s := ⟨true, sa, sp, sv, st⟩) (HBr.out.trans (pq.b.mono (Nat.le_of_lt zq))) (Nat.le_refl _)⟩
     case measure => simp [intOf]; omega
    ·have hdq : decide (st < qt) = false := decide_eq_false hlq
     have HN := hide (HSu.out.trans (soonStep_more rfl hlq))
     clear HSu
     go_wp2
     (refine wp_region_grown (by kernel_rfl) (by kernel_rfl) ?_; intro hne9; (repeat (go_big_quiet_step ((fail)))); (with_reducible refine wpQuiet_nil ?_); intro _ hw9; obtain ⟨pq, hw8⟩ := hw9; subst hw8)
     go_wp2
     go_roundw
     case rel => exact ⟨k + 1, hlt, by go_num, (by unfold Hid; rw [HN.out]; exact (pq.b.block _ zq).trans HQ.out), (HBr.out.trans (pq.b.mono (Nat.le_of_lt zq)))⟩
     case measure => simp [intOf]; omega
 ·skip
  have e : k = l.length := by omega
  subst e
  have HE := hide (show soonL l = q from hqq)
  have HQ := hq
  clear hq hqq
  go_wp2
  go_region
  go_wp2
  refine bodyPost_ret (v := .tuple #[slot q, .bool q.u]) (by simp [results, Tryz.results55, go_sem, cr0, cr1, cr2, cr3, cr4]) rfl ⟨by rw [HE.out], ?_⟩
  exact below_set5 (s := q) (Below.drew HB2.out) (show w.heap.size ≤ w.heap.size + 1 by omega)

end Go.Proofs.YtpjkcgaohoinaaaGreat

namespace Go.Proofs.YtpjkcgaohoinaaaGreat
open Go.ChangeShapes Go.WideShapes Go.ChangeAt Go.RowKit Go.Joins
set_option linter.unusedVariables false
set_option linter.unusedSimpArgs false

set_option maxHeartbeats 8000000 in
theorem plainTable_any (b off c : Nat) (l : List Sl) (w : World) (hbl : b < w.heap.size) (hc : ∀ i, i < l.length → ∀ j, j < layS.k → w.cell? ⟨b, off + i * layS.k + j, none⟩ = (layS.cs (l.getD i layS.d))[j]?) (hl : l.length ≤ 1048576) :
  Calls Tryz.prog 69 #[tab (.slice (some ⟨b, off, none⟩) l.length c)] w fun e w' => ∃ g, e = .returned (tab (.slice (some ⟨g, 0, none⟩) l.length l.length)) ∧ ownS w' w.heap.size (.slice (some ⟨g, 0, none⟩) l.length l.length) l ∧ Below w.heap.size w w' := by
 obtain ⟨i0, hi, hz0, hz1, hz2⟩ := info_parts infoSlot
 have HC := hide hc
 clear hc
 obtain ⟨W0, hW0⟩ : ∃ W, ((w.alloc (.cells #[.slice (some ⟨b, off, none⟩) l.length c] 72)).alloc (.cells #[.slice none 0 0] 45)) = W := ⟨_, rfl⟩
 have hb_W0 : Below w.heap.size w W0 := by rw [← hW0]; exact (((Below.refl _ _).alloc (Nat.le_refl _) _).alloc (by simp <;> omega) _)
 have HB := hide hb_W0
 clear hb_W0
 have zct : w.heap.size < W0.heap.size := by rw [← hW0]; simp <;> omega
 have ct0 : W0.cell? ⟨w.heap.size, 0, none⟩ = some (.slice (some ⟨b, off, none⟩) l.length c) := by rw [← hW0]; simp [go_sem]
 have zcr : w.heap.size + 1 < W0.heap.size := by rw [← hW0]; simp
 have cr0 : W0.cell? ⟨w.heap.size + 1, 0, none⟩ = some (.slice none 0 0) := by rw [← hW0]; simp [go_sem]
 have fcr0 : W0.frozen? ⟨w.heap.size + 1, 0, none⟩ = false := by rw [← hW0]; simp [go_sem]
 have zcr0 := zcr
 have hw00 : w.heap.size ≤ W0.heap.size := HB.out.size
 go_enter Tryz.func69, Tryz.ntmps69
 go_wp2_with (at_make; refine wpList_make_full _ rfl _ _ 43 rfl W0.heap.size 96 i0 (slot sl0) 5 Tryz.underlying43 hi hz0 hz1 _ _ _ _ l.length rfl rfl rfl rfl ?b2 ?b3 ?b4 ?_)
 case b2 => rw [hz2]; omega
 case b3 => unfold maxLen; omega
 case b4 => simp
 intro w1 hown hgrow
 have hb : Below W0.heap.size W0 w1 := (Below.refl _ _).grown hgrow (Nat.le_refl _) (fun k h => by cases h)
 have HBg := hide hb
 have HO : Hid (w1.ownsRow W0.heap.size 96 5 (.slice (some ⟨W0.heap.size, 0, none⟩) l.length l.length) l.length ((fillL layS l 0).flatMap layS.cs)) := by unfold Hid; rw [fillL_zero, ← made_flat layS (slot sl0) rfl]; exact hown
 have zg : W0.heap.size < w1.heap.size := (hown.lt _ rfl).2
 clear hown hgrow
 replace ct0 : w1.cell? ⟨w.heap.size, 0, none⟩ = some (.slice (some ⟨b, off, none⟩) l.length c) := (hb.cell (p := ⟨w.heap.size, 0, none⟩) zct).trans ct0
 replace zct : w.heap.size < w1.heap.size := Nat.lt_of_lt_of_le zct hb.size
 replace cr0 : w1.cell? ⟨w.heap.size + 1, 0, none⟩ = some (.slice none 0 0) := (hb.cell (p := ⟨w.heap.size + 1, 0, none⟩) zcr).trans cr0
 replace fcr0 : w1.frozen? ⟨w.heap.size + 1, 0, none⟩ = false := (hb.frozen (p := ⟨w.heap.size + 1, 0, none⟩) zcr).trans fcr0
 replace zcr : w.heap.size + 1 < w1.heap.size := Nat.lt_of_lt_of_le zcr hb.size
 replace HB := hide (HB.out.trans (hb.mono HB.out.size))
 clear hb
 obtain ⟨W2, hW2⟩ : ∃ W, (w1.alloc (.cells #[.slice (some ⟨W0.heap.size, 0, none⟩) l.length l.length] 45)) = W := ⟨_, rfl⟩
 have hb_W2 : Below w1.heap.size w1 W2 := by rw [← hW2]; exact ((Below.refl _ _).alloc (Nat.le_refl _) _)
 replace ct0 : W2.cell? ⟨w.heap.size, 0, none⟩ = some (.slice (some ⟨b, off, none⟩) l.length c) := (hb_W2.cell (p := ⟨w.heap.size, 0, none⟩) zct).trans ct0
 replace zct : w.heap.size < W2.heap.size := Nat.lt_of_lt_of_le zct hb_W2.size
 replace cr0 : W2.cell? ⟨w.heap.size + 1, 0, none⟩ = some (.slice none 0 0) := (hb_W2.cell (p := ⟨w.heap.size + 1, 0, none⟩) zcr).trans cr0
 replace fcr0 : W2.frozen? ⟨w.heap.size + 1, 0, none⟩ = false := (hb_W2.frozen (p := ⟨w.heap.size + 1, 0, none⟩) zcr).trans fcr0
 replace zcr : w.heap.size + 1 < W2.heap.size := Nat.lt_of_lt_of_le zcr hb_W2.size
 replace HO := hide (own_kept HO.out hb_W2)
 replace HB := hide (HB.out.trans (hb_W2.mono HB.out.size))
 clear hb_W2
 have zcs : w1.heap.size < W2.heap.size := by rw [← hW2]; simp
 have cs0 : W2.cell? ⟨w1.heap.size, 0, none⟩ = some (.slice (some ⟨W0.heap.size, 0, none⟩) l.length l.length) := by rw [← hW2]; simp [go_sem]
 have b3 : Hid (W2.heap[w1.heap.size]? = some (.cells #[.slice (some ⟨W0.heap.size, 0, none⟩) l.length l.length] 45 (0, 0))) := by rw [← hW2]; exact World.alloc_heap_new w1 _
 have bR : Hid (W2.heap[w.heap.size + 1]? = some (.cells #[.slice none 0 0] 45 (0, 0))) := by
  have h := World.alloc_heap_new (w.alloc (.cells #[.slice (some ⟨b, off, none⟩) l.length c] 72)) (.cells #[.slice none 0 0] 45)
  rw [hW0, World.size_alloc] at h
  exact ((by rw [← hW2]; exact (Below.heap_alloc _ _ _ (by omega)) : W2.heap[w.heap.size + 1]? = w1.heap[w.heap.size + 1]?)).trans ((HBg.out.block _ zcr0).trans h)
 have zs0 := zcs
 go_wp2
 go_loopw [14] (fun i wr => ∃ k : Nat, k ≤ l.length ∧ i = .int .i64 k ∧ Hid (wr.ownsRow W0.heap.size 96 5 (.slice (some ⟨W0.heap.size, 0, none⟩) l.length l.length) l.length ((fillL layS l k).flatMap layS.cs)) ∧ Hid (wr.heap[w.heap.size + 1]? = some (.cells #[.slice none 0 0] 45 (0, 0))) ∧ Hid (wr.heap[w1.heap.size]? = some (.cells #[.slice (some ⟨W0.heap.size, 0, none⟩) l.length l.length] 45 (0, 0))) ∧ Hid (Below w.heap.size w wr) ∧ w1.heap.size < wr.heap.size)
  (fun i _ => l.length - (intOf i).toNat)
 case atStart => exact ⟨0, Nat.zero_le _, rfl, HO, bR, b3, HB, zcs⟩
 case round =>
  clear HO bR b3 HB HBg ct0 cr0 fcr0 cs0 hW2 hW0 zct zcr zcs
  obtain ⟨k, hk, rfl, HO, HR, HT, HBr, hsz⟩ := hrel
  by_cases hlt : k < l.length
  ·obtain ⟨s, hxy⟩ : ∃ s, l.getD k sl0 = s := ⟨_, rfl⟩
   have hcx := RdL.slot (C := w.heap.size) HC.out k hlt
   rw [hxy] at hcx
   have e0 := (HBr.out.cell (p := ⟨b, off + k * 5, none⟩) hbl).trans hcx.1
   have e1 := (HBr.out.cell (p := ⟨b, off + k * 5 + 1, none⟩) hbl).trans hcx.2.1
   have e2 := (HBr.out.cell (p := ⟨b, off + k * 5 + 2, none⟩) hbl).trans hcx.2.2.1
   have e3 := (HBr.out.cell (p := ⟨b, off + k * 5 + 3, none⟩) hbl).trans hcx.2.2.2.1
   have e4 := (HBr.out.cell (p := ⟨b, off + k * 5 + 4, none⟩) hbl).trans hcx.2.2.2.2
   have hk' : (k : Int) < (l.length : Int) := by omega
   have HX := hide hxy
   clear hcx hxy
   obtain ⟨W5, hW5⟩ : ∃ W, wr.alloc (.cells (slotCells s) 164) = W := ⟨_, rfl⟩
   have hb5 : Below wr.heap.size wr W5 := by rw [← hW5]; exact (Below.refl _ _).alloc (Nat.le_refl _) _
   have hz5 : wr.heap.size < W5.heap.size := by rw [← hW5]; simp
   have s0 : W5.cell? ⟨wr.heap.size, 0, none⟩ = some (.bool s.u) := by rw [← hW5]; simp [go_sem]
   have s1 : W5.cell? ⟨wr.heap.size, 1, none⟩ = some (.int .i64 s.a) := by rw [← hW5]; simp [go_sem]
   have s2 : W5.cell? ⟨wr.heap.size, 2, none⟩ = some (.int .i64 s.p) := by rw [← hW5]; simp [go_sem]
   have s3 : W5.cell? ⟨wr.heap.size, 3, none⟩ = some (.int .i64 s.v) := by rw [← hW5]; simp [go_sem]
   have s4 : W5.cell? ⟨wr.heap.size, 4, none⟩ = some (.int .i64 s.t) := by rw [← hW5]; simp [go_sem]
   have t3 : W5.cell? ⟨w1.heap.size, 0, none⟩ = some (.slice (some ⟨W0.heap.size, 0, none⟩) l.length l.length) := (hb5.cell (p := ⟨w1.heap.size, 0, none⟩) hsz).trans (block_cell1 HT.out 0 _ rfl)
   have zt3 : w1.heap.size < W5.heap.size := Nat.lt_of_lt_of_le hsz hb5.size
   have Hb5 := hide hb5
   have hown5 := own_kept HO.out hb5
   have hso := slotOf_any s W5.drew
   have hln : ((fillL layS l k).flatMap layS.cs).length = l.length * 5 := by rw [flat_length, fillL_length layS l k hk]; rfl
   have Hown5 : Hid (W5.ownsRow W0.heap.size 96 5 (.slice (some ⟨W0.heap.size, 0, none⟩) l.length l.length) l.length ((fillL layS l k).flatMap layS.cs)) := hown5
   clear hown5 hb5
   go_wp2
   first | (go_region_with (first | (go_at_call 110; refine hso.mono ?_; rintro e w6 ⟨rfl, hb⟩; replace hb : Below W5.heap.size W5 w6 := (Below.drew (Below.refl _ _)).trans hb; have t36 := (hb.cell (p := ⟨w1.heap.size, 0, none⟩) zt3).trans t3; have s60 := (hb.cell (p := ⟨wr.heap.size, 0, none⟩) hz5).trans s0; have s61 := (hb.cell (p := ⟨wr.heap.size, 1, none⟩) hz5).trans s1; have s62 := (hb.cell (p := ⟨wr.heap.size, 2, none⟩) hz5).trans s2; have s63 := (hb.cell (p := ⟨wr.heap.size, 3, none⟩) hz5).trans s3; have s64 := (hb.cell (p := ⟨wr.heap.size, 4, none⟩) hz5).trans s4; have ho6 := own_kept Hown5.out hb; obtain ⟨u0, hu0⟩ : ∃ u, w6.cell? ⟨W0.heap.size, k * 5, none⟩ = some u := ⟨_, (ho6.cellAt (k * 5) (by omega)).trans (List.getElem?_eq_getElem (by omega))⟩; have hf0 := ho6.frozenAt (k * 5); obtain ⟨u1, hu1⟩ : ∃ u, w6.cell? ⟨W0.heap.size, k * 5 + 1, none⟩ = some u := ⟨_, (ho6.cellAt (k * 5 + 1) (by omega)).trans (List.getElem?_eq_getElem (by omega))⟩; have hf1 := ho6.frozenAt (k * 5 + 1); obtain ⟨u2, hu2⟩ : ∃ u, w6.cell? ⟨W0.heap.size, k * 5 + 2, none⟩ = some u := ⟨_, (ho6.cellAt (k * 5 + 2) (by omega)).trans (List.getElem?_eq_getElem (by omega))⟩; have hf2 := ho6.frozenAt (k * 5 + 2); obtain ⟨u3, hu3⟩ : ∃ u, w6.cell? ⟨W0.heap.size, k * 5 + 3, none⟩ = some u := ⟨_, (ho6.cellAt (k * 5 + 3) (by omega)).trans (List.getElem?_eq_getElem (by omega))⟩; have hf3 := ho6.frozenAt (k * 5 + 3); obtain ⟨u4, hu4⟩ : ∃ u, w6.cell? ⟨W0.heap.size, k * 5 + 4, none⟩ = some u := ⟨_, (ho6.cellAt (k * 5 + 4) (by omega)).trans (List.getElem?_eq_getElem (by omega))⟩; have hf4 := ho6.frozenAt (k * 5 + 4); have Hb6 := hide hb; have HO6 := hide ho6; clear hb ho6))) | fail
   all_goals have HR6 := hide (stored5 (k := k) s (Nat.le_refl _) HO6.out (Below.refl W0.heap.size w6))
   all_goals have HX2 := hide (show (fillL layS l k).set k s = fillL layS l (k + 1) by rw [← HX.out]; exact fillL_set layS l k hlt)
   all_goals have Hb7 := hide (Hb5.out.trans (Hb6.out.mono Hb5.out.size))
   all_goals go_wp2
   all_goals go_roundw
   all_goals first | (simp [intOf]; omega; done) | exact ⟨k + 1, hlt, by go_num, (by have h := HR6.out.1; rw [HX2.out] at h; exact h), (HR6.out.2.block _ zcr0).trans ((Hb7.out.block _ (by omega)).trans HR.out), ((((((Below.heap_setCell _ _ _ _ (by simp; omega)).trans (Below.heap_setCell _ _ _ _ (by simp; omega))).trans (Below.heap_setCell _ _ _ _ (by simp; omega))).trans (Below.heap_setCell _ _ _ _ (by simp; omega))).trans (Below.heap_setCell _ _ _ _ (by simp; omega))).trans ((Hb7.out.block _ hsz).trans HT.out)), HBr.out.trans ((Hb7.out.mono HBr.out.size).trans (HR6.out.2.mono hw00)), Nat.lt_of_lt_of_le hsz (Nat.le_trans Hb7.out.size HR6.out.2.size)⟩
  ·have e : k = l.length := by omega
   subst e
   have hrow := HO.out
   rw [fillL_all] at hrow
   have HRow := hide hrow
   clear hrow HO
   have r1 := block_cell1 HR.out 0 _ rfl
   have f1 := frozen_of HR.out 0
   have t3 := block_cell1 HT.out 0 _ rfl
   go_wp2
   refine bodyPost_ret (v := tab (.slice (some ⟨W0.heap.size, 0, none⟩) l.length l.length)) (by simp [results, Tryz.results69, go_sem, r1]) rfl ⟨_, rfl, ?_, ?_⟩
   ·exact own_mono (ownsRow_setCell_below HRow.out (show w.heap.size + 1 < W0.heap.size from zcr0) _) hw00
   ·exact HBr.out.setCell (p := ⟨w.heap.size + 1, 0, none⟩) (by simp) _

end Go.Proofs.YtpjkcgaohoinaaaGreat

namespace Go.Proofs.YtpjkcgaohoinaaaGreat
open Go.ChangeShapes Go.WideShapes Go.ChangeAt Go.RowKit Go.Joins
set_option linter.unusedVariables false
set_option linter.unusedSimpArgs false

theorem stp_setC (W : World) (B j : Nat) (v : Value) : Stp B (B + 1) W (W.setCell ⟨B, j, none⟩ v) := by
 have h := (Below.refl B W).setCell (p := ⟨B, j, none⟩) (Nat.le_refl _) v
 exact ⟨h.os, h.tape, h.output, h.size, fun k hk hn => Below.heap_setCell W ⟨B, j, none⟩ v k (by simp; omega)⟩
theorem InTb.opn {lo hi : Nat} {w : World} {v : Value} {m : List Sl} (h : InTb lo hi w v m) : ∃ (o : Option Addr) (c : Nat), v = tab (.slice o m.length c) := by
 obtain ⟨vl, rfl, o, c, rfl, _⟩ := h.rd
 exact ⟨o, c, rfl⟩
end Go.Proofs.YtpjkcgaohoinaaaGreat

namespace Go.Proofs.YtpjkcgaohoinaaaGreat
open Go.ChangeShapes Go.WideShapes Go.ChangeAt Go.RowKit Go.Joins
set_option linter.unusedVariables false
set_option linter.unusedSimpArgs false

theorem appS : AppOk layS 43 96 := ⟨Tryz.underlying43, ⟨_, _, infoSlot, rfl, by decide⟩, by decide, fun a u hu => by
 simp [layS] at hu; rcases hu with rfl | rfl | rfl | rfl | rfl <;> rfl⟩
theorem Stp.cell {lo hi b j : Nat} {w w' : World} {u : Value} (s : Stp lo hi w w') (h : w.cell? ⟨b, j, none⟩ = some u) (hb : b < w.heap.size) (hd : b < lo ∨ hi ≤ b) : w'.cell? ⟨b, j, none⟩ = some u := by
 have := s.block b hb hd
 simp only [World.cell?, this] at h ⊢; exact h
theorem Stp.frozen {lo hi b j : Nat} {w w' : World} (s : Stp lo hi w w') (h : w.frozen? ⟨b, j, none⟩ = false) (hb : b < w.heap.size) (hd : b < lo ∨ hi ≤ b) : w'.frozen? ⟨b, j, none⟩ = false := by
 have := s.block b hb hd
 simp only [World.frozen?, this] at h ⊢; exact h
theorem stp_set5 (W : World) (B k : Nat) (s : Sl) : Stp B (B + 1) W (((((W.setCell ⟨B, k * 5, none⟩ (.bool s.u)).setCell ⟨B, k * 5 + 1, none⟩ (.int .i64 s.a)).setCell ⟨B, k * 5 + 2, none⟩ (.int .i64 s.p)).setCell ⟨B, k * 5 + 3, none⟩ (.int .i64 s.v)).setCell ⟨B, k * 5 + 4, none⟩ (.int .i64 s.t)) :=
 ((((stp_setC W B _ _).trans (stp_setC _ B _ _)).trans (stp_setC _ B _ _)).trans (stp_setC _ B _ _)).trans (stp_setC _ B _ _)

set_option maxHeartbeats 2000000 in
theorem l5own_any (b off c : Nat) (l : List Sl) (w : World) (hbl : b < w.heap.size) (hc : ∀ i, i < l.length → ∀ j, j < layS.k → w.cell? ⟨b, off + i * layS.k + j, none⟩ = (layS.cs (l.getD i layS.d))[j]?) (hl : l.length ≤ 1048576) :
  Calls Tryz.prog 53 #[tab (.slice (some ⟨b, off, none⟩) l.length c)] w fun e w' => ∃ o' c', e = .returned (tab (.slice o' l.length c')) ∧ ownS w' w.heap.size (.slice o' l.length c') l ∧ Below w.heap.size w w' := by
 have HC := hide hc
 clear hc
 obtain ⟨W0, hW0⟩ : ∃ W, ((w.alloc (.cells #[.slice (some ⟨b, off, none⟩) l.length c] 45)).alloc (.cells #[.slice none 0 0] 45)) = W := ⟨_, rfl⟩
 have hb_W0 : Below w.heap.size w W0 := by rw [← hW0]; exact (((Below.refl _ _).alloc (Nat.le_refl _) _).alloc (by simp <;> omega) _)
 have HB := hide hb_W0
 clear hb_W0
 have zct : w.heap.size < W0.heap.size := by rw [← hW0]; simp <;> omega
 have ct0 : W0.cell? ⟨w.heap.size, 0, none⟩ = some (.slice (some ⟨b, off, none⟩) l.length c) := by rw [← hW0]; simp [go_sem]
 have zcr : w.heap.size + 1 < W0.heap.size := by rw [← hW0]; simp
 have cr0 : W0.cell? ⟨w.heap.size + 1, 0, none⟩ = some (.slice none 0 0) := by rw [← hW0]; simp [go_sem]
 have fcr0 : W0.frozen? ⟨w.heap.size + 1, 0, none⟩ = false := by rw [← hW0]; simp [go_sem]
 have HZ := hide zcr
 have hw00 := HB.out.size
 obtain ⟨W1, hW1⟩ : ∃ W, W0.alloc (.cells #[] 96) = W := ⟨_, rfl⟩
 have F1 : Hid (ownL layS 96 W1 W0.heap.size (.slice (some ⟨W0.heap.size, 0, none⟩) 0 0) []) := by rw [← hW1]; exact own_none0 (L := layS) W0 _
 have hb_W1 : Below W0.heap.size W0 W1 := by rw [← hW1]; exact (Below.refl _ _).alloc (Nat.le_refl _) _
 replace ct0 : W1.cell? ⟨w.heap.size, 0, none⟩ = some (.slice (some ⟨b, off, none⟩) l.length c) := (hb_W1.cell (p := ⟨w.heap.size, 0, none⟩) zct).trans ct0
 replace zct : w.heap.size < W1.heap.size := Nat.lt_of_lt_of_le zct hb_W1.size
 replace cr0 : W1.cell? ⟨w.heap.size + 1, 0, none⟩ = some (.slice none 0 0) := (hb_W1.cell (p := ⟨w.heap.size + 1, 0, none⟩) zcr).trans cr0
 replace fcr0 : W1.frozen? ⟨w.heap.size + 1, 0, none⟩ = false := (hb_W1.frozen (p := ⟨w.heap.size + 1, 0, none⟩) zcr).trans fcr0
 replace zcr : w.heap.size + 1 < W1.heap.size := Nat.lt_of_lt_of_le zcr hb_W1.size
 replace HB := hide (HB.out.trans (hb_W1.mono HB.out.size))
 clear hb_W1
 have hsz1 : W0.heap.size ≤ W1.heap.size := by rw [← hW1]; simp
 have rdl : Hid (RdL layS w.heap.size W1 (some ⟨b, off, none⟩) l) := .inr ⟨b, off, rfl, hbl, fun i hi j hj => (HB.out.cell (p := ⟨b, off + i * layS.k + j, none⟩) hbl).trans (HC.out i hi j hj)⟩
 go_enter Tryz.func53, Tryz.ntmps53
 go_wp2_with (at_builtin; refine wpList_append_lay appS rfl _ _ rfl W0.heap.size _ [] rfl F1.out (some ⟨b, off, none⟩) c w.heap.size l l.length rfl rfl (fun h => by cases h) rdl.out ?c1 ?c2 ?_)
 case c1 => simp; omega
 case c2 => exact hsz1
 intro v2 w2 hv2 hg2 _
 (try rw [List.nil_append] at hv2)
 have hb : Below W0.heap.size W1 w2 := (Below.refl _ _).grown hg2 hsz1 (fun q h => (F1.out.lt q h).1)
 have HO := hide hv2
 obtain ⟨o2, c2, hve, _⟩ := ownL.open (L := layS) hv2
 subst hve
 have cr02 : w2.cell? ⟨w.heap.size + 1, 0, none⟩ = some (.slice none 0 0) := (hb.cell (p := ⟨w.heap.size + 1, 0, none⟩) HZ.out).trans cr0
 have fcr02 : w2.frozen? ⟨w.heap.size + 1, 0, none⟩ = false := (hb.frozen (p := ⟨w.heap.size + 1, 0, none⟩) HZ.out).trans fcr0
 have HB2 := hide (HB.out.trans (hb.mono hw00))
 clear hv2 hg2 hb F1 cr0 fcr0
 go_wp2
 refine bodyPost_ret (v := tab (.slice o2 l.length c2)) (by simp [results, Tryz.results53, go_sem, cr02]) rfl ⟨_, _, rfl, ?_, ?_⟩
 ·exact own_mono (ownsRow_setCell_below HO.out (show w.heap.size + 1 < W0.heap.size from HZ.out) _) hw00
 ·exact HB2.out.setCell (p := ⟨w.heap.size + 1, 0, none⟩) (by simp) _

theorem putL_no {l : List Sl} {a p v t : Int} (h : (endL l a p).1 < 0) : putL l a p v t = l := by unfold putL; rw [if_neg (by omega)]
theorem putL_yes {l : List Sl} {a p v t : Int} {k : Nat} (h : (endL l a p).1 = (k : Int)) : putL l a p v t = l.set k ⟨true, a, p, v, t⟩ := by unfold putL; rw [if_pos (by omega), h]; simp
theorem endL_place (l : List Sl) (hn : 0 < l.length) (a p : Int) : (endL l a p).1 = -1 ∨ ∃ k, k < l.length ∧ (endL l a p).1 = (k : Int) := by
 rcases endL_cases l hn a p with e | ⟨k, hk, ⟨e, _⟩ | ⟨e, _⟩⟩
 ·exact .inl (by rw [e])
 ·exact .inr ⟨k, hk, by rw [e]⟩
 ·exact .inr ⟨k, hk, by rw [e]⟩
set_option maxHeartbeats 2000000 in
theorem l5putW_any (b off c : Nat) (l : List Sl) (a p v t : Int) (w : World) (hn : 0 < l.length) (hl : l.length ≤ 1048576) (hf : flowOkB a p = true) (hbl : b < w.heap.size) (hc : ∀ i, i < l.length → ∀ j, j < layS.k → w.cell? ⟨b, off + i * layS.k + j, none⟩ = (layS.cs (l.getD i layS.d))[j]?) :
  Calls Tryz.prog 54 #[tab (.slice (some ⟨b, off, none⟩) l.length c), flow a p, .int .i64 v, .int .i64 t] w fun e w' => ∃ b' off' c', e = .returned (.tuple #[tab (.slice (some ⟨b', off', none⟩) l.length c'), .bool (decide (0 ≤ (endL l a p).1))]) ∧ b' < w'.heap.size ∧ (∀ i, i < (putL l a p v t).length → ∀ j, j < layS.k → w'.cell? ⟨b', off' + i * layS.k + j, none⟩ = (layS.cs ((putL l a p v t).getD i layS.d))[j]?) ∧ Below w.heap.size w w' ∧ (b' = b ∨ w.heap.size ≤ b') := by
 have HC := hide hc
 clear hc
 obtain ⟨W0, hW0⟩ : ∃ W, (((w.alloc (.cells #[.slice (some ⟨b, off, none⟩) l.length c] 45)).alloc (.cells #[.int .i64 a, .int .i64 p] 51)).alloc (.cells #[.slice none 0 0] 45)) = W := ⟨_, rfl⟩
 have hb_W0 : Below w.heap.size w W0 := by rw [← hW0]; exact ((((Below.refl _ _).alloc (Nat.le_refl _) _).alloc (by simp <;> omega) _).alloc (by simp <;> omega) _)
 have HB := hide hb_W0
 clear hb_W0
 have zct : w.heap.size < W0.heap.size := by rw [← hW0]; simp <;> omega
 have ct0 : W0.cell? ⟨w.heap.size, 0, none⟩ = some (.slice (some ⟨b, off, none⟩) l.length c) := by rw [← hW0]; simp [go_sem]
 have zcf : w.heap.size + 1 < W0.heap.size := by rw [← hW0]; simp <;> omega
 have cf0 : W0.cell? ⟨w.heap.size + 1, 0, none⟩ = some (.int .i64 a) := by rw [← hW0]; simp [go_sem]
 have cf1 : W0.cell? ⟨w.heap.size + 1, 1, none⟩ = some (.int .i64 p) := by rw [← hW0]; simp [go_sem]
 have zcr : w.heap.size + 1 + 1 < W0.heap.size := by rw [← hW0]; simp
 have cr0 : W0.cell? ⟨w.heap.size + 1 + 1, 0, none⟩ = some (.slice none 0 0) := by rw [← hW0]; simp [go_sem]
 have fcr0 : W0.frozen? ⟨w.heap.size + 1 + 1, 0, none⟩ = false := by rw [← hW0]; simp [go_sem]
 have hat := l5at_any (some ⟨b, off, none⟩) c l a p W0 (.inr ⟨b, off, rfl, Nat.lt_of_lt_of_le hbl HB.out.size, (fun i hi j hj => (HB.out.cell (p := ⟨b, off + i * layS.k + j, none⟩) hbl).trans (HC.out i hi j hj))⟩) hn hl hf
 obtain ⟨E, hE⟩ : ∃ E, endL l a p = E := ⟨_, rfl⟩
 have HZ := hide zcr
 have hw00 := HB.out.size
 rcases endL_place l hn a p with h1 | ⟨k, hk, h1⟩
 ·skip
  have HP := hide (putL_no (l := l) (a := a) (p := p) (v := v) (t := t) (by rw [h1]; decide))
  have HD := hide (show decide (0 ≤ (endL l a p).1) = false by rw [h1]; rfl)
  rw [h1] at hat
  generalize (endL l a p).2 = E2 at hat
  clear hE
  go_enter Tryz.func54, Tryz.ntmps54
  go_wp2_with fail
  refine (hat).mono ?_
  rintro e v1 ⟨rfl, hb⟩
  replace ct0 : v1.cell? ⟨w.heap.size, 0, none⟩ = some (.slice (some ⟨b, off, none⟩) l.length c) := (hb.cell (p := ⟨w.heap.size, 0, none⟩) zct).trans ct0
  replace zct : w.heap.size < v1.heap.size := Nat.lt_of_lt_of_le zct hb.size
  replace cf0 : v1.cell? ⟨w.heap.size + 1, 0, none⟩ = some (.int .i64 a) := (hb.cell (p := ⟨w.heap.size + 1, 0, none⟩) zcf).trans cf0
  replace cf1 : v1.cell? ⟨w.heap.size + 1, 1, none⟩ = some (.int .i64 p) := (hb.cell (p := ⟨w.heap.size + 1, 1, none⟩) zcf).trans cf1
  replace zcf : w.heap.size + 1 < v1.heap.size := Nat.lt_of_lt_of_le zcf hb.size
  replace cr0 : v1.cell? ⟨w.heap.size + 1 + 1, 0, none⟩ = some (.slice none 0 0) := (hb.cell (p := ⟨w.heap.size + 1 + 1, 0, none⟩) zcr).trans cr0
  replace fcr0 : v1.frozen? ⟨w.heap.size + 1 + 1, 0, none⟩ = false := (hb.frozen (p := ⟨w.heap.size + 1 + 1, 0, none⟩) zcr).trans fcr0
  replace zcr : w.heap.size + 1 + 1 < v1.heap.size := Nat.lt_of_lt_of_le zcr hb.size
  replace HB := hide (HB.out.trans (hb.mono HB.out.size))
  clear hb
  clear hat
  go_wp2
  refine bodyPost_ret (v := .tuple #[tab (.slice (some ⟨b, off, none⟩) l.length c), .bool false]) (by simp [results, Tryz.results54, go_sem, cr0]) rfl ⟨b, off, c, by rw [HD.out], ?_, ?_, ?_, .inl rfl⟩
  ·have := HB.out.size; simp; omega
  ·rw [HP.out]
   intro i hi j hj
   have hB2 := HB.out.setCell (p := ⟨w.heap.size + 1 + 1, 0, none⟩) (by simp <;> omega) (.slice (some ⟨b, off, none⟩) l.length c)
   exact (hB2.cell (p := ⟨b, off + i * layS.k + j, none⟩) hbl).trans (HC.out i hi j hj)
  ·exact HB.out.setCell (p := ⟨w.heap.size + 1 + 1, 0, none⟩) (by simp <;> omega) _
 ·skip
  have HP := hide (putL_yes (l := l) (a := a) (p := p) (v := v) (t := t) h1)
  have HD := hide (show decide (0 ≤ (endL l a p).1) = true by rw [h1]; simp)
  rw [h1] at hat
  generalize (endL l a p).2 = E2 at hat
  clear hE h1
  have hk' : (k : Int) < (l.length : Int) := by omega
  go_enter Tryz.func54, Tryz.ntmps54
  go_wp2_with fail
  refine (hat).mono ?_
  rintro e v1 ⟨rfl, hb⟩
  replace ct0 : v1.cell? ⟨w.heap.size, 0, none⟩ = some (.slice (some ⟨b, off, none⟩) l.length c) := (hb.cell (p := ⟨w.heap.size, 0, none⟩) zct).trans ct0
  replace zct : w.heap.size < v1.heap.size := Nat.lt_of_lt_of_le zct hb.size
  replace cf0 : v1.cell? ⟨w.heap.size + 1, 0, none⟩ = some (.int .i64 a) := (hb.cell (p := ⟨w.heap.size + 1, 0, none⟩) zcf).trans cf0
  replace cf1 : v1.cell? ⟨w.heap.size + 1, 1, none⟩ = some (.int .i64 p) := (hb.cell (p := ⟨w.heap.size + 1, 1, none⟩) zcf).trans cf1
  replace zcf : w.heap.size + 1 < v1.heap.size := Nat.lt_of_lt_of_le zcf hb.size
  replace cr0 : v1.cell? ⟨w.heap.size + 1 + 1, 0, none⟩ = some (.slice none 0 0) := (hb.cell (p := ⟨w.heap.size + 1 + 1, 0, none⟩) zcr).trans cr0
  replace fcr0 : v1.frozen? ⟨w.heap.size + 1 + 1, 0, none⟩ = false := (hb.frozen (p := ⟨w.heap.size + 1 + 1, 0, none⟩) zcr).trans fcr0
  replace zcr : w.heap.size + 1 + 1 < v1.heap.size := Nat.lt_of_lt_of_le zcr hb.size
  replace HB := hide (HB.out.trans (hb.mono HB.out.size))
  clear hb
  go_wp2_with fail
  refine (l5own_any b off c l v1 (Nat.lt_of_lt_of_le hbl HB.out.size) (fun i hi j hj => (HB.out.cell (p := ⟨b, off + i * layS.k + j, none⟩) hbl).trans (HC.out i hi j hj)) hl).mono ?_
  rintro e v2 ⟨o2, c2, rfl, hown, hb⟩
  have HV1 := hide zcr
  obtain ⟨g, c3, hve⟩ : ∃ g c3, Value.slice o2 l.length c2 = .slice (some ⟨g, 0, none⟩) l.length c3 := by
   rcases hown.2 with ⟨_, h0⟩ | ⟨g, c3, _, h0, _⟩
   ·exact absurd h0 (by omega)
   ·exact ⟨g, c3, h0⟩
  injection hve with hv1 hv2 hv3
  subst hv1 hv3
  have HO := hide hown
  clear hown
  replace ct0 : v2.cell? ⟨w.heap.size, 0, none⟩ = some (.slice (some ⟨b, off, none⟩) l.length c) := (hb.cell (p := ⟨w.heap.size, 0, none⟩) zct).trans ct0
  replace zct : w.heap.size < v2.heap.size := Nat.lt_of_lt_of_le zct hb.size
  replace cf0 : v2.cell? ⟨w.heap.size + 1, 0, none⟩ = some (.int .i64 a) := (hb.cell (p := ⟨w.heap.size + 1, 0, none⟩) zcf).trans cf0
  replace cf1 : v2.cell? ⟨w.heap.size + 1, 1, none⟩ = some (.int .i64 p) := (hb.cell (p := ⟨w.heap.size + 1, 1, none⟩) zcf).trans cf1
  replace zcf : w.heap.size + 1 < v2.heap.size := Nat.lt_of_lt_of_le zcf hb.size
  replace cr0 : v2.cell? ⟨w.heap.size + 1 + 1, 0, none⟩ = some (.slice none 0 0) := (hb.cell (p := ⟨w.heap.size + 1 + 1, 0, none⟩) zcr).trans cr0
  replace fcr0 : v2.frozen? ⟨w.heap.size + 1 + 1, 0, none⟩ = false := (hb.frozen (p := ⟨w.heap.size + 1 + 1, 0, none⟩) zcr).trans fcr0
  replace zcr : w.heap.size + 1 + 1 < v2.heap.size := Nat.lt_of_lt_of_le zcr hb.size
  replace HB := hide (HB.out.trans (hb.mono HB.out.size))
  clear hb
  have HOv := HO
  obtain ⟨W2, hW2⟩ : ∃ W, (v2.alloc (.cells #[.slice (some ⟨g, 0, none⟩) l.length c2] 45)) = W := ⟨_, rfl⟩
  have hb_W2 : Below v2.heap.size v2 W2 := by rw [← hW2]; exact ((Below.refl _ _).alloc (Nat.le_refl _) _)
  replace ct0 : W2.cell? ⟨w.heap.size, 0, none⟩ = some (.slice (some ⟨b, off, none⟩) l.length c) := (hb_W2.cell (p := ⟨w.heap.size, 0, none⟩) zct).trans ct0
  replace zct : w.heap.size < W2.heap.size := Nat.lt_of_lt_of_le zct hb_W2.size
  replace cf0 : W2.cell? ⟨w.heap.size + 1, 0, none⟩ = some (.int .i64 a) := (hb_W2.cell (p := ⟨w.heap.size + 1, 0, none⟩) zcf).trans cf0
  replace cf1 : W2.cell? ⟨w.heap.size + 1, 1, none⟩ = some (.int .i64 p) := (hb_W2.cell (p := ⟨w.heap.size + 1, 1, none⟩) zcf).trans cf1
  replace zcf : w.heap.size + 1 < W2.heap.size := Nat.lt_of_lt_of_le zcf hb_W2.size
  replace cr0 : W2.cell? ⟨w.heap.size + 1 + 1, 0, none⟩ = some (.slice none 0 0) := (hb_W2.cell (p := ⟨w.heap.size + 1 + 1, 0, none⟩) zcr).trans cr0
  replace fcr0 : W2.frozen? ⟨w.heap.size + 1 + 1, 0, none⟩ = false := (hb_W2.frozen (p := ⟨w.heap.size + 1 + 1, 0, none⟩) zcr).trans fcr0
  replace zcr : w.heap.size + 1 + 1 < W2.heap.size := Nat.lt_of_lt_of_le zcr hb_W2.size
  replace HO := hide (own_kept HO.out hb_W2)
  replace HB := hide (HB.out.trans (hb_W2.mono HB.out.size))
  clear hb_W2
  have zco : v2.heap.size < W2.heap.size := by rw [← hW2]; simp
  have co0 : W2.cell? ⟨v2.heap.size, 0, none⟩ = some (.slice (some ⟨g, 0, none⟩) l.length c2) := by rw [← hW2]; simp [go_sem]
  have hgb := (HO.out.lt g rfl)
  have ho : W2.ownsRow v1.heap.size 96 5 (.slice (some ⟨g, 0, none⟩) l.length c2) l.length (l.flatMap layS.cs) := HO.out
  have hln : (l.flatMap layS.cs).length = l.length * 5 := by rw [flat_length]; rfl
  obtain ⟨u0, hu0⟩ : ∃ u, W2.cell? ⟨g, k * 5, none⟩ = some u := ⟨_, (ho.cellAt (k * 5) (by omega)).trans (List.getElem?_eq_getElem (by omega))⟩
  have hf0 := ho.frozenAt (k * 5)
  obtain ⟨u1, hu1⟩ : ∃ u, W2.cell? ⟨g, k * 5 + 1, none⟩ = some u := ⟨_, (ho.cellAt (k * 5 + 1) (by omega)).trans (List.getElem?_eq_getElem (by omega))⟩
  have hf1 := ho.frozenAt (k * 5 + 1)
  obtain ⟨u2, hu2⟩ : ∃ u, W2.cell? ⟨g, k * 5 + 2, none⟩ = some u := ⟨_, (ho.cellAt (k * 5 + 2) (by omega)).trans (List.getElem?_eq_getElem (by omega))⟩
  have hf2 := ho.frozenAt (k * 5 + 2)
  obtain ⟨u3, hu3⟩ : ∃ u, W2.cell? ⟨g, k * 5 + 3, none⟩ = some u := ⟨_, (ho.cellAt (k * 5 + 3) (by omega)).trans (List.getElem?_eq_getElem (by omega))⟩
  have hf3 := ho.frozenAt (k * 5 + 3)
  obtain ⟨u4, hu4⟩ : ∃ u, W2.cell? ⟨g, k * 5 + 4, none⟩ = some u := ⟨_, (ho.cellAt (k * 5 + 4) (by omega)).trans (List.getElem?_eq_getElem (by omega))⟩
  have hf4 := ho.frozenAt (k * 5 + 4)
  have HS := hide (stored5 (k := k) ⟨true, a, p, v, t⟩ (Nat.le_refl g) ho (Below.refl g W2))
  have HSt := hide (stp_set5 W2 g k ⟨true, a, p, v, t⟩)
  clear ho hln hat
  obtain ⟨W3, hW3⟩ : ∃ W, ((((W2.setCell ⟨g, k * 5, none⟩ (.bool true)).setCell ⟨g, k * 5 + 1, none⟩ (.int .i64 a)).setCell ⟨g, k * 5 + 2, none⟩ (.int .i64 p)).setCell ⟨g, k * 5 + 3, none⟩ (.int .i64 v)).setCell ⟨g, k * 5 + 4, none⟩ (.int .i64 t) = W := ⟨_, rfl⟩
  have HS3 : Hid (W3.ownsRow v1.heap.size 96 5 (.slice (some ⟨g, 0, none⟩) l.length c2) l.length ((l.set k ⟨true, a, p, v, t⟩).flatMap layS.cs)) := by rw [← hW3]; exact HS.out.1
  have HSt3 : Hid (Stp g (g + 1) W2 W3) := by rw [← hW3]; exact HSt.out
  have hgv : v1.heap.size ≤ g := hgb.1
  have hzo : g + 1 ≤ v2.heap.size := by have h := (HOv.out.lt g rfl).2; omega
  have co3 := HSt3.out.cell co0 zco (.inr hzo)
  have cr3 := HSt3.out.cell cr0 zcr (.inl (show w.heap.size + 1 + 1 < g from Nat.lt_of_lt_of_le HV1.out hgv))
  have fcr3 := HSt3.out.frozen fcr0 zcr (.inl (show w.heap.size + 1 + 1 < g from Nat.lt_of_lt_of_le HV1.out hgv))
  have hB3 : Hid (Below w.heap.size W2 W3) := HSt3.out.below (by have := HV1.out; omega) (by have := HV1.out; omega)
  have hwv : w.heap.size ≤ v1.heap.size := by have := HV1.out; omega
  clear cr0 fcr0 HS HSt
  go_wp2
  refine bodyPost_ret (v := .tuple #[tab (.slice (some ⟨g, 0, none⟩) l.length c2), .bool true]) (by simp [results, Tryz.results54, go_sem, cr3]) rfl ⟨g, 0, c2, by rw [HD.out], ?_, ?_, ?_, .inr (by have h1 := (HS3.out.lt g rfl).1; have h2 := HV1.out; omega)⟩
  ·have h := (HS3.out.lt g rfl).2; simpa using h
  ·rw [HP.out]
   have h := ownsRow_setCell_below HS3.out (a := ⟨w.heap.size + 1 + 1, 0, none⟩) (show w.heap.size + 1 + 1 < v1.heap.size from HV1.out) (.slice (some ⟨g, 0, none⟩) l.length c2)
   exact rd_of_own h (by simp)
  ·exact (HB.out.trans hB3.out).setCell (p := ⟨w.heap.size + 1 + 1, 0, none⟩) (by simp <;> omega) _

end Go.Proofs.YtpjkcgaohoinaaaGreat

namespace Go.Proofs.YtpjkcgaohoinaaaGreat
open Go.ChangeShapes Go.WideShapes Go.ChangeAt Go.RowKit Go.Joins
set_option linter.unusedVariables false
set_option linter.unusedSimpArgs false

def putOk (l : List Sl) (a p v t : Int) : Bool := tableOkB l && flowOkB a p && leaseB v t
def putB (l : List Sl) (a p v t : Int) : Bool := if putOk l a p v t = true then decide (0 ≤ (endL l a p).1) else false
set_option maxHeartbeats 2000000 in
theorem put_any (g c base : Nat) (l : List Sl) (a p v t : Int) (w : World) (hn : 0 < l.length) (hl : l.length ≤ 1048576) (hf : flowOkB a p = true) (ho : w.ownsRow base CellT 5 (.slice (some ⟨g, 0, none⟩) l.length c) l.length (l.flatMap layS.cs)) :
  Calls Tryz.prog 66 #[tab (.slice (some ⟨g, 0, none⟩) l.length c), flow a p, leaseV v t] w fun e w' => e = .returned (.bool (decide (0 ≤ (endL l a p).1))) ∧ w'.ownsRow base CellT 5 (.slice (some ⟨g, 0, none⟩) l.length c) l.length ((putL l a p v t).flatMap layS.cs) ∧ Stp g (g + 1) w w' := by
 have HO := hide ho
 have hgw := (ho.lt g rfl).2
 clear ho
 obtain ⟨W0, hW0⟩ : ∃ W, (((w.alloc (.cells #[.slice (some ⟨g, 0, none⟩) l.length c] 72)).alloc (.cells #[.int .i64 a, .int .i64 p] 51)).alloc (.cells #[.int .i64 v, .int .i64 t] 114)) = W := ⟨_, rfl⟩
 have hb_W0 : Below w.heap.size w W0 := by rw [← hW0]; exact ((((Below.refl _ _).alloc (Nat.le_refl _) _).alloc (by simp <;> omega) _).alloc (by simp <;> omega) _)
 replace HO := hide (own_kept HO.out hb_W0)
 have HB := hide hb_W0
 clear hb_W0
 have zct : w.heap.size < W0.heap.size := by rw [← hW0]; simp <;> omega
 have ct0 : W0.cell? ⟨w.heap.size, 0, none⟩ = some (.slice (some ⟨g, 0, none⟩) l.length c) := by rw [← hW0]; simp [go_sem]
 have zcf : w.heap.size + 1 < W0.heap.size := by rw [← hW0]; simp <;> omega
 have cf0 : W0.cell? ⟨w.heap.size + 1, 0, none⟩ = some (.int .i64 a) := by rw [← hW0]; simp [go_sem]
 have cf1 : W0.cell? ⟨w.heap.size + 1, 1, none⟩ = some (.int .i64 p) := by rw [← hW0]; simp [go_sem]
 have zcl : w.heap.size + 1 + 1 < W0.heap.size := by rw [← hW0]; simp
 have cl0 : W0.cell? ⟨w.heap.size + 1 + 1, 0, none⟩ = some (.int .i64 v) := by rw [← hW0]; simp [go_sem]
 have cl1 : W0.cell? ⟨w.heap.size + 1 + 1, 1, none⟩ = some (.int .i64 t) := by rw [← hW0]; simp [go_sem]
 have hat := endOfWay_any g 0 c l a p W0 hn hl hf (HO.out.lt g rfl).2 (rd_of_own HO.out rfl)
 rcases endL_place l hn a p with h1 | ⟨k, hk, h1⟩
 ·skip
  have HP := hide (putL_no (l := l) (a := a) (p := p) (v := v) (t := t) (by rw [h1]; decide))
  have HD := hide (show decide (0 ≤ (endL l a p).1) = false by rw [h1]; rfl)
  rw [h1] at hat
  generalize (endL l a p).2 = E2 at hat
  clear h1
  go_enter Tryz.func66, Tryz.ntmps66
  go_wp2_with fail
  refine (hat).mono ?_
  rintro e v1 ⟨rfl, hb⟩
  replace ct0 : v1.cell? ⟨w.heap.size, 0, none⟩ = some (.slice (some ⟨g, 0, none⟩) l.length c) := (hb.cell (p := ⟨w.heap.size, 0, none⟩) zct).trans ct0
  replace zct : w.heap.size < v1.heap.size := Nat.lt_of_lt_of_le zct hb.size
  replace cf0 : v1.cell? ⟨w.heap.size + 1, 0, none⟩ = some (.int .i64 a) := (hb.cell (p := ⟨w.heap.size + 1, 0, none⟩) zcf).trans cf0
  replace cf1 : v1.cell? ⟨w.heap.size + 1, 1, none⟩ = some (.int .i64 p) := (hb.cell (p := ⟨w.heap.size + 1, 1, none⟩) zcf).trans cf1
  replace zcf : w.heap.size + 1 < v1.heap.size := Nat.lt_of_lt_of_le zcf hb.size
  replace cl0 : v1.cell? ⟨w.heap.size + 1 + 1, 0, none⟩ = some (.int .i64 v) := (hb.cell (p := ⟨w.heap.size + 1 + 1, 0, none⟩) zcl).trans cl0
  replace cl1 : v1.cell? ⟨w.heap.size + 1 + 1, 1, none⟩ = some (.int .i64 t) := (hb.cell (p := ⟨w.heap.size + 1 + 1, 1, none⟩) zcl).trans cl1
  replace zcl : w.heap.size + 1 + 1 < v1.heap.size := Nat.lt_of_lt_of_le zcl hb.size
  replace HO := hide (own_kept HO.out hb)
  replace HB := hide (HB.out.trans (hb.mono HB.out.size))
  clear hb
  clear hat
  go_wp2
  go_ret
  exact ⟨by rw [HD.out]; rfl, by rw [HP.out]; exact HO.out, Stp.of HB.out⟩
 ·skip
  have HP := hide (putL_yes (l := l) (a := a) (p := p) (v := v) (t := t) h1)
  have HD := hide (show decide (0 ≤ (endL l a p).1) = true by rw [h1]; simp)
  rw [h1] at hat
  generalize (endL l a p).2 = E2 at hat
  clear h1
  have hk' : (k : Int) < (l.length : Int) := by omega
  go_enter Tryz.func66, Tryz.ntmps66
  go_wp2_with fail
  refine (hat).mono ?_
  rintro e v1 ⟨rfl, hb⟩
  replace ct0 : v1.cell? ⟨w.heap.size, 0, none⟩ = some (.slice (some ⟨g, 0, none⟩) l.length c) := (hb.cell (p := ⟨w.heap.size, 0, none⟩) zct).trans ct0
  replace zct : w.heap.size < v1.heap.size := Nat.lt_of_lt_of_le zct hb.size
  replace cf0 : v1.cell? ⟨w.heap.size + 1, 0, none⟩ = some (.int .i64 a) := (hb.cell (p := ⟨w.heap.size + 1, 0, none⟩) zcf).trans cf0
  replace cf1 : v1.cell? ⟨w.heap.size + 1, 1, none⟩ = some (.int .i64 p) := (hb.cell (p := ⟨w.heap.size + 1, 1, none⟩) zcf).trans cf1
  replace zcf : w.heap.size + 1 < v1.heap.size := Nat.lt_of_lt_of_le zcf hb.size
  replace cl0 : v1.cell? ⟨w.heap.size + 1 + 1, 0, none⟩ = some (.int .i64 v) := (hb.cell (p := ⟨w.heap.size + 1 + 1, 0, none⟩) zcl).trans cl0
  replace cl1 : v1.cell? ⟨w.heap.size + 1 + 1, 1, none⟩ = some (.int .i64 t) := (hb.cell (p := ⟨w.heap.size + 1 + 1, 1, none⟩) zcl).trans cl1
  replace zcl : w.heap.size + 1 + 1 < v1.heap.size := Nat.lt_of_lt_of_le zcl hb.size
  replace HO := hide (own_kept HO.out hb)
  replace HB := hide (HB.out.trans (hb.mono HB.out.size))
  clear hb
  have ho : v1.ownsRow base CellT 5 (.slice (some ⟨g, 0, none⟩) l.length c) l.length (l.flatMap layS.cs) := HO.out
  have hln : (l.flatMap layS.cs).length = l.length * 5 := by rw [flat_length]; rfl
  obtain ⟨u0, hu0⟩ : ∃ u, v1.cell? ⟨g, k * 5, none⟩ = some u := ⟨_, (ho.cellAt (k * 5) (by omega)).trans (List.getElem?_eq_getElem (by omega))⟩
  have hf0 := ho.frozenAt (k * 5)
  obtain ⟨u1, hu1⟩ : ∃ u, v1.cell? ⟨g, k * 5 + 1, none⟩ = some u := ⟨_, (ho.cellAt (k * 5 + 1) (by omega)).trans (List.getElem?_eq_getElem (by omega))⟩
  have hf1 := ho.frozenAt (k * 5 + 1)
  obtain ⟨u2, hu2⟩ : ∃ u, v1.cell? ⟨g, k * 5 + 2, none⟩ = some u := ⟨_, (ho.cellAt (k * 5 + 2) (by omega)).trans (List.getElem?_eq_getElem (by omega))⟩
  have hf2 := ho.frozenAt (k * 5 + 2)
  obtain ⟨u3, hu3⟩ : ∃ u, v1.cell? ⟨g, k * 5 + 3, none⟩ = some u := ⟨_, (ho.cellAt (k * 5 + 3) (by omega)).trans (List.getElem?_eq_getElem (by omega))⟩
  have hf3 := ho.frozenAt (k * 5 + 3)
  obtain ⟨u4, hu4⟩ : ∃ u, v1.cell? ⟨g, k * 5 + 4, none⟩ = some u := ⟨_, (ho.cellAt (k * 5 + 4) (by omega)).trans (List.getElem?_eq_getElem (by omega))⟩
  have hf4 := ho.frozenAt (k * 5 + 4)
  have HS := hide (stored5 (k := k) ⟨true, a, p, v, t⟩ (Nat.le_refl g) ho (Below.refl g v1))
  have HSt := hide ((Stp.of (lo := g) (hi := g + 1) HB.out).trans (stp_set5 v1 g k ⟨true, a, p, v, t⟩))
  clear ho hln hat
  go_wp2
  go_ret
  exact ⟨by rw [HD.out]; rfl, by rw [HP.out]; exact HS.out.1, HSt.out⟩

end Go.Proofs.YtpjkcgaohoinaaaGreat

namespace Go.Proofs.YtpjkcgaohoinaaaGreat
open Go.ChangeShapes Go.WideShapes Go.ChangeAt Go.RowKit Go.Joins
set_option linter.unusedVariables false
set_option linter.unusedSimpArgs false

theorem Stp.drew {lo hi : Nat} {w w' : World} (h : Stp lo hi w w') : Stp lo hi w w'.drew := ⟨h.os, h.tape, h.output, h.size, h.block⟩
def flowsOk (m : List Sl) : Prop := ∀ j, j < m.length → (m.getD j sl0).u = true → flowOkB (m.getD j sl0).a (m.getD j sl0).p = true
theorem flowsOk_of {l : List Sl} (h : tableOkB l = true) : flowsOk l := fun j hj hu => by
 have ht := (tableOkB_iff.1 h).2.2 j hj
 unfold tabAt at ht
 exact ((slotB_used hu).1 ((Bool.and_eq_true _ _).mp ht).1).1
theorem flowsOk_set {m : List Sl} (h : flowsOk m) (i : Nat) (s : Sl) (hs : s.u = true → flowOkB s.a s.p = true) : flowsOk (m.set i s) := fun j hj hu => by
 rw [List.length_set] at hj
 by_cases e : i = j
 ·subst e
  rw [getD_set_self _ _ _ hj] at hu ⊢
  exact hs hu
 ·rw [getD_set_ne _ _ _ _ e] at hu ⊢
  exact h j hj hu
structure DropInv (n : Nat) (R : List Sl) (g : Nat) (m : List Sl) (i k : Nat) : Prop where
 len : m.length = n
 le : n ≤ 16
 hi : i < n
 hk : k < n
 free : (m.getD i sl0).u = false
 ok : flowsOk m
 go : dropGo n (g + 1) m i k = R
 ms : meas m i k ≤ g
theorem DropInv.done {n g i k : Nat} {R m : List Sl} (h : DropInv n R g m i k) (hu : (m.getD k sl0).u = false) : m = R := by
 rw [← h.go, dropGo_end hu]
theorem DropInv.move {n g i k : Nat} {R m : List Sl} (h : DropInv n R g m i k) (hu : (m.getD k sl0).u = true) (hm : moves n m i k = true) : 1 ≤ g ∧ DropInv n R (g - 1) ((m.set i (m.getD k sl0)).set k sl0) k ((k + 1) % n) := by
 obtain ⟨hlen, hle, hi, hk, hfree, hok, hgo, hms⟩ := h
 subst hlen
 have hd := meas_move hle hi hk hfree hu hm
 have hg : 1 ≤ g := by omega
 refine ⟨hg, by simp, hle, hk, next_lt (by omega) k, ?_, ?_, ?_, ?_⟩
 ·rw [getD_set_self _ _ _ (by simpa using hk)]
 ·exact flowsOk_set (flowsOk_set hok i _ (fun hq => hok k hk hq)) k _ (fun hq => by cases hq)
 ·rw [← hgo, dropGo_move hu hm, show g - 1 + 1 = g by omega]
 ·omega
theorem DropInv.stay {n g i k : Nat} {R m : List Sl} (h : DropInv n R g m i k) (hu : (m.getD k sl0).u = true) (hm : moves n m i k = false) : 1 ≤ g ∧ DropInv n R (g - 1) m i ((k + 1) % n) := by
 obtain ⟨hlen, hle, hi, hk, hfree, hok, hgo, hms⟩ := h
 subst hlen
 have hne : k ≠ i := fun e => by rw [e, hfree] at hu; cases hu
 have hd := meas_stay hi hk hne
 have hg : 1 ≤ g := by omega
 refine ⟨hg, rfl, hle, hi, next_lt (by omega) k, hfree, hok, ?_, by omega⟩
 rw [← hgo, dropGo_stay hu hm, show g - 1 + 1 = g by omega]
theorem DropInv.start {l : List Sl} {i : Nat} (hle : l.length ≤ 16) (hi : i < l.length) (hok : flowsOk l) : DropInv l.length (dropAtL l i) (meas (l.set i sl0) i ((i + 1) % l.length)) (l.set i sl0) i ((i + 1) % l.length) :=
 ⟨by simp, hle, hi, next_lt (by omega) i, by rw [getD_set_self _ _ _ hi], flowsOk_set hok i _ (fun h => by cases h), rfl, Nat.le_refl _⟩
theorem moves_iff {n i k : Nat} {m : List Sl} : moves n m i k = true ↔ farN n i k ≤ farN n (homeN n (m.getD k sl0).a (m.getD k sl0).p) k := by simp [moves]
theorem dropGo_length (n : Nat) : ∀ (f : Nat) (l : List Sl) (i k : Nat), (dropGo n f l i k).length = l.length
 | 0, l, i, k => rfl
 | f + 1, l, i, k => by
  unfold dropGo
  split
  ·split
   ·rw [dropGo_length n f]; simp
   ·rw [dropGo_length n f]
  ·rfl
theorem dropAtL_length (l : List Sl) (i : Nat) : (dropAtL l i).length = l.length := by unfold dropAtL; rw [dropGo_length]; simp
def dropL (l : List Sl) (a p : Int) : List Sl := if (endL l a p).2 = true then dropAtL l (endL l a p).1.toNat else l
theorem dropL_no {l : List Sl} {a p : Int} (h : (endL l a p).2 = false) : dropL l a p = l := by unfold dropL; rw [h]; rfl
theorem dropL_yes {l : List Sl} {a p : Int} {k : Nat} (h : endL l a p = ((k : Int), true)) : dropL l a p = dropAtL l k := by unfold dropL; rw [h]; simp

end Go.Proofs.YtpjkcgaohoinaaaGreat

namespace Go.Proofs.YtpjkcgaohoinaaaGreat
open Go.ChangeShapes Go.WideShapes Go.ChangeAt Go.RowKit Go.Joins
set_option linter.unusedVariables false
set_option linter.unusedSimpArgs false

theorem far_of_add {n h d : Nat} (hh : h < n) (hd : d < n) : farN n h ((h + d) % n) = d := by
 by_cases e : h + d < n
 ·rw [mod_small e, farN_eq hh e, if_pos (by omega)]; omega
 ·rw [mod_wrap (by omega) (by omega), farN_eq hh (by omega)]
  split <;> omega
theorem add_of_far {n h x : Nat} (hh : h < n) (hx : x < n) : (h + farN n h x) % n = x := by
 rw [farN_eq hh hx]
 split
 ·rw [mod_small (by omega)]; omega
 ·rw [mod_wrap (by omega) (by omega)]; omega
theorem far_lt {n h x : Nat} (hh : h < n) (hx : x < n) : farN n h x < n := Nat.mod_lt _ (by omega)
theorem far_inj {n h x y : Nat} (hh : h < n) (hx : x < n) (hy : y < n) (e : farN n h x = farN n h y) : x = y := by
 rw [← add_of_far hh hx, e, add_of_far hh hy]
theorem far_on {n h i k : Nat} (hh : h < n) (hi : i < n) (hk : k < n) (hne : i ≠ k) : farN n h i < farN n h k ↔ farN n i k ≤ farN n h k := by
 rw [farN_eq hh hi, farN_eq hh hk, farN_eq hi hk]
 (repeat' split) <;> omega
theorem far_add {n h i k : Nat} (hh : h < n) (hi : i < n) (hk : k < n) (h1 : farN n h i < farN n h k) : farN n h k = farN n h i + farN n i k := by
 rw [farN_eq hh hi, farN_eq hh hk] at h1
 rw [farN_eq hh hi, farN_eq hh hk, farN_eq hi hk]
 (repeat' split at h1) <;> (repeat' split) <;> omega
theorem far_self {n i : Nat} (hi : i < n) : farN n i i = 0 := by rw [farN_eq hi hi, if_pos (Nat.le_refl _)]; omega
theorem far_pos {n i j : Nat} (hi : i < n) (hj : j < n) (hne : i ≠ j) : 1 ≤ farN n i j := by
 rw [farN_eq hi hj]; split <;> omega

abbrev at' (m : List Sl) (j : Nat) : Sl := m.getD j sl0
abbrev hm (m : List Sl) (j : Nat) : Nat := homeN m.length (at' m j).a (at' m j).p
structure Gapless (m : List Sl) (i : Nat) : Prop where
 slots : slotTo m m.length
 dist : ∀ x y, x < m.length → y < m.length → (at' m x).u = true → (at' m y).u = true → (at' m x).a = (at' m y).a → (at' m x).p = (at' m y).p → x = y
 gap : ∀ j x, j < m.length → x < m.length → (at' m j).u = true → farN m.length (hm m j) x < farN m.length (hm m j) j → (at' m x).u = true ∨ x = i

theorem scan_some {a p : Int} : ∀ {L : List Met} {E : Int × Bool}, scan a p L = some E → ∃ x, x ∈ L ∧ scanX a p x = some E
 | [], E, h => by simp [scan] at h
 | x :: L, E, h => by
  unfold scan at h
  rw [List.findSome?_cons] at h
  cases hx : scanX a p x with
  | none => rw [hx] at h; obtain ⟨y, hy, e⟩ := scan_some (L := L) (E := E) h; exact ⟨y, List.mem_cons_of_mem _ hy, e⟩
  | some E' => rw [hx] at h; exact ⟨x, List.mem_cons_self, by rw [hx]; exact h⟩
theorem scan_none {a p : Int} : ∀ {L : List Met}, (∀ x, x ∈ L → scanX a p x = none) → scan a p L = none
 | [], _ => rfl
 | x :: L, h => by
  unfold scan
  rw [List.findSome?_cons, h x List.mem_cons_self]
  exact scan_none (L := L) (fun y hy => h y (List.mem_cons_of_mem _ hy))
theorem mem_uptoM {f : Nat → Met} {k : Nat} {x : Met} : x ∈ uptoM f k ↔ ∃ d, d < k ∧ f d = x := by simp [uptoM]
theorem scanX_place {a p : Int} {x : Met} {E : Int × Bool} (h : scanX a p x = some E) : E.1 = (x.1 : Int) := by
 unfold scanX at h
 split at h
 ·split at h
  ·cases h; rfl
  ·cases h
 ·cases h; rfl
theorem scanX_none {a p : Int} {x : Met} : scanX a p x = none ↔ x.2.u = true ∧ ¬ (x.2.a = a ∧ x.2.p = p) := by
 unfold scanX
 by_cases h1 : x.2.u = true
 ·rw [if_pos h1]
  by_cases h2 : x.2.a = a ∧ x.2.p = p
  ·rw [if_pos h2]; simp [h1, h2]
  ·rw [if_neg h2]; simp [h1, h2]
 ·rw [if_neg h1]; simp [h1]
theorem endL_before {l : List Sl} (hn : 0 < l.length) {a p : Int} {j : Nat} (hj : j < l.length) {f : Bool} (h : endL l a p = ((j : Int), f)) (x : Nat) (hx : x < l.length) (hd : farN l.length (homeN l.length a p) x < farN l.length (homeN l.length a p) j) : (at' l x).u = true ∧ ¬ ((at' l x).a = a ∧ (at' l x).p = p) := by
 have hh := homeN_lt hn a p
 generalize hhe : homeN l.length a p = h0 at *
 have hfx := far_lt hh hx
 have hme : metAt l h0 (farN l.length h0 x) = (x, at' l x) := by unfold metAt; rw [add_of_far hh hx]
 cases hs : scanX a p (x, at' l x) with
 | none => exact scanX_none.1 hs
 | some E0 =>
  exfalso
  cases hsc : scan a p (uptoM (metAt l h0) (farN l.length h0 x + 1)) with
  | none =>
   rw [uptoM_succ] at hsc
   have h1 : scan a p (uptoM (metAt l h0) (farN l.length h0 x)) = none := by
    cases hq : scan a p (uptoM (metAt l h0) (farN l.length h0 x)) with
    | none => rfl
    | some E => rw [scan_more _ _ _ _ hq] at hsc; cases hsc
   rw [scan_snoc _ _ _ _ h1, hme, hs] at hsc
   cases hsc
  | some E1 =>
   have he := endL_some (l := l) hn (a := a) (p := p) (k := farN l.length h0 x + 1) (E := E1) (by omega) (by rw [hhe]; exact hsc)
   obtain ⟨y, hy, hy2⟩ := scan_some hsc
   obtain ⟨d, hdl, rfl⟩ := mem_uptoM.1 hy
   have hpl := scanX_place hy2
   rw [← he, h] at hpl
   have hjd : j = (h0 + d) % l.length := by have : (j : Int) = ((h0 + d) % l.length : Nat) := hpl; omega
   have := far_of_add hh (show d < l.length by omega)
   rw [← hjd] at this
   omega
theorem endL_own {l : List Sl} (hn : 0 < l.length) {a p : Int} {j : Nat} (hj : j < l.length) (hu : (at' l j).u = true) (ha : (at' l j).a = a) (hp : (at' l j).p = p) (hb : ∀ x, x < l.length → farN l.length (homeN l.length a p) x < farN l.length (homeN l.length a p) j → (at' l x).u = true ∧ ¬ ((at' l x).a = a ∧ (at' l x).p = p)) : endL l a p = ((j : Int), true) := by
 have hh := homeN_lt hn a p
 have hfj := far_lt hh hj
 refine endL_some hn (k := farN l.length (homeN l.length a p) j + 1) (by omega) ?_
 rw [uptoM_succ, scan_snoc]
 ·unfold metAt scanX
  rw [add_of_far hh hj]
  simp only
  rw [if_pos hu, if_pos ⟨ha, hp⟩]
 ·refine scan_none ?_
  intro y hy
  obtain ⟨d, hd, rfl⟩ := mem_uptoM.1 hy
  have hx := Nat.mod_lt (homeN l.length a p + d) hn
  refine scanX_none.2 (hb _ hx ?_)
  rw [far_of_add hh (by omega)]
  exact hd
theorem gapless_of {l : List Sl} (h : tableOkB l = true) (i : Nat) : Gapless l i := by
 obtain ⟨h1, h2, h3⟩ := tableOkB_iff.1 h
 have hw : ∀ j, j < l.length → (at' l j).u = true → endL l (at' l j).a (at' l j).p = ((j : Int), true) := fun j hj hu => by
  have ht := ((Bool.and_eq_true _ _).mp (h3 j hj)).2
  unfold wayB at ht
  rw [hu] at ht
  simpa using ht
 refine ⟨fun j hj => ((Bool.and_eq_true _ _).mp (h3 j hj)).1, ?_, ?_⟩
 ·intro x y hx hy hux huy ha hp
  have e1 := hw x hx hux
  have e2 := hw y hy huy
  rw [ha, hp, e2] at e1
  have : (y : Int) = x := congrArg Prod.fst e1
  omega
 ·intro j x hj hx hu hd
  exact .inl (endL_before (by omega) hj (hw j hj hu) x hx hd).1
theorem ok_of_gapless {l : List Sl} (h1 : 1 ≤ l.length) (h2 : l.length ≤ 16) (hs : slotTo l l.length)
  (hd : ∀ x y, x < l.length → y < l.length → (at' l x).u = true → (at' l y).u = true → (at' l x).a = (at' l y).a → (at' l x).p = (at' l y).p → x = y)
  (hg : ∀ j x, j < l.length → x < l.length → (at' l j).u = true → farN l.length (hm l j) x < farN l.length (hm l j) j → (at' l x).u = true) : tableOkB l = true := by
 refine tableOkB_iff.2 ⟨h1, h2, fun j hj => ?_⟩
 cases hu : (at' l j).u with
 | false => exact tabAt_free hu (hs j hj)
 | true =>
  refine tabAt_used (hs j hj) (endL_own (by omega) hj hu rfl rfl ?_)
  intro x hx hfx
  refine ⟨hg j x hj hx hu hfx, fun ⟨e1, e2⟩ => ?_⟩
  have := hd x j hx hj (hg j x hj hx hu hfx) hu e1 e2
  subst this
  omega

end Go.Proofs.YtpjkcgaohoinaaaGreat

namespace Go.Proofs.YtpjkcgaohoinaaaGreat
open Go.ChangeShapes Go.WideShapes Go.ChangeAt Go.RowKit Go.Joins
set_option linter.unusedVariables false
set_option linter.unusedSimpArgs false

structure WInv (m : List Sl) (i c : Nat) : Prop where
 gl : Gapless m i
 lt : c < m.length
 seen : ∀ j, j < m.length → (at' m j).u = true → farN m.length i j ≤ c → ¬ farN m.length (hm m j) i < farN m.length (hm m j) j

theorem at_set_self {m : List Sl} {i : Nat} (s : Sl) (h : i < m.length) : at' (m.set i s) i = s := getD_set_self m i s h
theorem at_set_ne {m : List Sl} {i j : Nat} (s : Sl) (h : i ≠ j) : at' (m.set i s) j = at' m j := getD_set_ne m i j s h
theorem hm_set_ne {m : List Sl} {i j : Nat} (s : Sl) (h : i ≠ j) : hm (m.set i s) j = hm m j := by unfold hm; rw [at_set_ne s h, List.length_set]
theorem hm_lt {m : List Sl} (hn : 0 < m.length) (j : Nat) : hm m j < m.length := homeN_lt hn _ _

theorem WInv.start {l : List Sl} {i : Nat} (h : tableOkB l = true) (hi : i < l.length) : WInv (l.set i sl0) i 0 := by
 have hg := gapless_of h i
 obtain ⟨h1, _, _⟩ := tableOkB_iff.1 h
 have hne : ∀ j, (at' (l.set i sl0) j).u = true → i ≠ j := fun j hu e => by rw [← e, at_set_self _ hi] at hu; cases hu
 refine ⟨⟨?_, ?_, ?_⟩, (by rw [List.length_set]; omega), ?_⟩
 ·intro j hj
  rw [List.length_set] at hj
  by_cases e : i = j
  ·subst e; rw [getD_set_self _ _ _ hi]; rfl
  ·rw [getD_set_ne _ _ _ _ e]; exact hg.slots j hj
 ·intro x y hx hy hux huy ha hp
  have ex := hne x hux
  have ey := hne y huy
  rw [List.length_set] at hx hy
  rw [at_set_ne _ ex] at hux ha hp
  rw [at_set_ne _ ey] at huy ha hp
  exact hg.dist x y hx hy hux huy ha hp
 ·intro j x hj hx hu hd
  have ej := hne j hu
  rw [List.length_set] at hj hx hd
  rw [hm_set_ne _ ej] at hd
  rw [at_set_ne _ ej] at hu
  by_cases e : i = x
  ·exact .inr e.symm
  ·left
   rw [at_set_ne _ e]
   rcases hg.gap j x hj hx hu hd with hq | hq
   ·exact hq
   ·exact absurd hq.symm e
 ·intro j hj hu hd
  have ej := hne j hu
  rw [List.length_set] at hj hd
  have := far_pos hi hj ej
  omega

theorem WInv.stay {m : List Sl} {i c k : Nat} (h : WInv m i c) (hi : i < m.length) (hk : k = (i + 1 + c) % m.length) (hu : (at' m k).u = true) (hfree : (at' m i).u = false) (hmv : ¬ farN m.length i k ≤ farN m.length (hm m k) k) : WInv m i (c + 1) := by
 have hn : 0 < m.length := by omega
 have hkl : k < m.length := by rw [hk]; exact Nat.mod_lt _ hn
 have hne : i ≠ k := fun e => by rw [e, hu] at hfree; cases hfree
 have hc1 : c + 1 < m.length := by
  rcases Nat.lt_or_ge (c + 1) m.length with h1 | h1
  ·exact h1
  ·exfalso
   have := h.lt
   have e : i + 1 + c = i + m.length := by omega
   rw [e, Nat.add_mod_right, mod_small hi] at hk
   exact hne hk.symm
 have hfk : farN m.length i k = c + 1 := by rw [hk, Nat.add_assoc, Nat.add_comm 1 c]; exact far_of_add hi hc1
 refine ⟨h.gl, hc1, fun j hj huj hd => ?_⟩
 rcases Nat.lt_or_ge c (farN m.length i j) with h1 | h1
 ·have e : j = k := far_inj hi hj hkl (by omega)
  subst e
  intro hq
  exact hmv ((far_on (hm_lt hn j) hi hkl hne).1 hq)
 ·exact h.seen j hj huj h1

theorem WInv.move {m : List Sl} {i c k : Nat} (h : WInv m i c) (hi : i < m.length) (hkl : k < m.length) (hu : (at' m k).u = true) (hfree : (at' m i).u = false) (hmv : farN m.length i k ≤ farN m.length (hm m k) k) : WInv ((m.set i (at' m k)).set k sl0) k 0 := by
 have hn : 0 < m.length := by omega
 have hne : i ≠ k := fun e => by rw [e, hu] at hfree; cases hfree
 have hlen : ((m.set i (at' m k)).set k sl0).length = m.length := by simp
 have hon := (far_on (hm_lt hn k) hi hkl hne).2 hmv
 have ai : at' ((m.set i (at' m k)).set k sl0) i = at' m k := by rw [at_set_ne _ (fun e => hne e.symm), at_set_self _ hi]
 have ak : at' ((m.set i (at' m k)).set k sl0) k = sl0 := at_set_self _ (by simpa using hkl)
 have ao : ∀ x, x ≠ i → x ≠ k → at' ((m.set i (at' m k)).set k sl0) x = at' m x := fun x h1 h2 => by rw [at_set_ne _ (fun e => h2 e.symm), at_set_ne _ (fun e => h1 e.symm)]
 have hmi : hm ((m.set i (at' m k)).set k sl0) i = hm m k := by unfold hm; rw [ai, hlen]
 have hmo : ∀ x, x ≠ i → x ≠ k → hm ((m.set i (at' m k)).set k sl0) x = hm m x := fun x h1 h2 => by unfold hm; rw [ao x h1 h2, hlen]
 have hnk : ∀ x, (at' ((m.set i (at' m k)).set k sl0) x).u = true → x ≠ k := fun x hq e => by rw [e, ak] at hq; cases hq
 refine ⟨⟨?_, ?_, ?_⟩, by rw [hlen]; exact hn, ?_⟩
 ·intro j hj
  rw [hlen] at hj
  by_cases e1 : j = k
  ·subst e1; show slotB (at' _ j) = true; rw [ak]; rfl
  ·by_cases e2 : j = i
   ·subst e2; show slotB (at' _ j) = true; rw [ai]; exact h.gl.slots k hkl
   ·show slotB (at' _ j) = true; rw [ao j e2 e1]; exact h.gl.slots j hj
 ·intro x y hx hy hux huy ha hp
  have ex := hnk x hux
  have ey := hnk y huy
  rw [hlen] at hx hy
  by_cases e1 : x = i
  ·by_cases e2 : y = i
   ·rw [e1, e2]
   ·rw [e1, ai] at ha hp
    rw [ao y e2 ey] at huy ha hp
    exact absurd (h.gl.dist k y hkl hy hu huy ha hp).symm ey
  ·by_cases e2 : y = i
   ·rw [e2, ai] at ha hp
    rw [ao x e1 ex] at hux ha hp
    exact absurd (h.gl.dist x k hx hkl hux hu ha hp) ex
   ·rw [ao x e1 ex] at hux ha hp
    rw [ao y e2 ey] at huy ha hp
    exact h.gl.dist x y hx hy hux huy ha hp
 ·intro j x hj hx huj hd
  have ej := hnk j huj
  rw [hlen] at hj hx hd
  by_cases e1 : x = k
  ·exact .inr e1
  ·left
   by_cases e2 : x = i
   ·rw [e2, ai]; exact hu
   ·rw [ao x e2 e1]
    by_cases e3 : j = i
    ·rw [e3, hmi] at hd
     rcases h.gl.gap k x hkl hx hu (by omega) with hq | hq
     ·exact hq
     ·exact absurd hq e2
    ·rw [hmo j e3 ej] at hd
     rw [ao j e3 ej] at huj
     rcases h.gl.gap j x hj hx huj hd with hq | hq
     ·exact hq
     ·exact absurd hq e2
 ·intro j hj huj hd
  rw [hlen] at hj hd
  have := far_pos hkl hj (fun e => hnk j huj e.symm)
  omega

theorem WInv.done {m : List Sl} {i c k : Nat} (h : WInv m i c) (h16 : m.length ≤ 16) (hi : i < m.length) (hk : k = (i + 1 + c) % m.length) (hfree : (at' m k).u = false) : tableOkB m = true := by
 have hn : 0 < m.length := by omega
 have hkl : k < m.length := by rw [hk]; exact Nat.mod_lt _ hn
 refine ok_of_gapless (by omega) h16 h.gl.slots h.gl.dist ?_
 intro j x hj hx hu hd
 rcases h.gl.gap j x hj hx hu hd with hq | hq
 ·exact hq
 ·exfalso
  subst hq
  have hs : c < farN m.length x j := Nat.lt_of_not_le fun hle => h.seen j hj hu hle hd
  have hlt := far_lt hi hj
  have hfk : farN m.length x k = c + 1 := by rw [hk, Nat.add_assoc, Nat.add_comm 1 c]; exact far_of_add hi (by omega)
  have hjk : j ≠ k := fun e => by rw [e, hfree] at hu; cases hu
  have hlt2 : farN m.length x k < farN m.length x j := by
   rcases Nat.lt_or_ge (c + 1) (farN m.length x j) with h1 | h1
   ·omega
   ·exact absurd (far_inj hi hj hkl (by omega)) hjk
  have e1 := far_add (hm_lt hn j) hi hj hd
  have hxk : x ≠ k := fun e => by rw [e, far_self hkl] at hfk; omega
  have hk2 : farN m.length (hm m j) k < farN m.length (hm m j) j := by
   have := hm_lt hn j
   have a1 := farN_eq this hkl
   have a2 := farN_eq this hi
   have a3 := farN_eq this hj
   have a4 := farN_eq hi hkl
   have a5 := farN_eq hi hj
   (repeat' split at a1) <;> (repeat' split at a2) <;> (repeat' split at a3) <;> (repeat' split at a4) <;> (repeat' split at a5) <;> omega
  rcases h.gl.gap j k hj hkl hu hk2 with h1 | h1
  ·rw [h1] at hfree; cases hfree
  ·exact hxk h1.symm

theorem drop_keeps {n : Nat} {R : List Sl} : ∀ (g : Nat) (m : List Sl) (i c k : Nat), k = (i + 1 + c) % n → DropInv n R g m i k → WInv m i c → tableOkB R = true
 | g, m, i, c, k, hk, hD, hW => by
  have hlen := hD.len
  have hi := hD.hi
  have hkl := hD.hk
  have hf := hD.free
  cases hu : (m.getD k sl0).u with
  | false =>
   rw [← hD.done hu]
   exact hW.done (by have := hD.le; omega) (by omega) (by rw [hlen]; exact hk) hu
  | true =>
   cases hm' : moves n m i k with
   | true =>
    obtain ⟨hg, hN⟩ := hD.move hu hm'
    obtain ⟨g', rfl⟩ : ∃ g', g = g' + 1 := ⟨g - 1, by omega⟩
    have hmv := moves_iff.1 hm'
    exact drop_keeps g' _ k 0 _ (by rw [Nat.add_zero]) hN (hW.move (by omega) (by omega) hu hf (by rw [hlen]; unfold hm; rw [hlen]; exact hmv))
   | false =>
    obtain ⟨hg, hN⟩ := hD.stay hu hm'
    obtain ⟨g', rfl⟩ : ∃ g', g = g' + 1 := ⟨g - 1, by omega⟩
    have hmv : ¬ farN n i k ≤ farN n (homeN n (m.getD k sl0).a (m.getD k sl0).p) k := fun hq => by rw [moves_iff.2 hq] at hm'; cases hm'
    refine drop_keeps g' m i (c + 1) _ ?_ hN (hW.stay (by omega) (by rw [hlen]; exact hk) hu hf (by rw [hlen]; unfold hm; rw [hlen]; exact hmv))
    rw [hk, Nat.mod_add_mod]; congr 1
theorem dropAtL_ok {l : List Sl} {i : Nat} (h : tableOkB l = true) (hi : i < l.length) : tableOkB (dropAtL l i) = true := by
 obtain ⟨h1, h2, _⟩ := tableOkB_iff.1 h
 exact drop_keeps _ _ i 0 _ (by rw [Nat.add_zero]) (DropInv.start h2 hi (flowsOk_of h)) (WInv.start h hi)

end Go.Proofs.YtpjkcgaohoinaaaGreat

namespace Go.Proofs.YtpjkcgaohoinaaaGreat
open Go.ChangeShapes Go.WideShapes Go.ChangeAt Go.RowKit Go.Joins
set_option linter.unusedVariables false
set_option linter.unusedSimpArgs false

def dueB (s : Sl) (now : Int) : Bool := s.u && decide (s.t ≤ now)
def dueAt (l : List Sl) (now : Int) : Option Nat := (List.range l.length).find? (fun j => dueB (at' l j) now)
theorem dueAt_spec {l : List Sl} {now : Int} {k : Nat} (h : dueAt l now = some k) : k < l.length ∧ dueB (at' l k) now = true :=
 ⟨List.mem_range.1 (List.mem_of_find?_eq_some h), by have := List.find?_some h; simpa using this⟩
def cntW (m : List Sl) (j : Nat) : Nat := if (at' m j).u = true then 1 else 0
def cnt (m : List Sl) : Nat := sumTo m.length (cntW m)
theorem sumTo_le : ∀ (n : Nat) {f : Nat → Nat}, (∀ x, f x ≤ 1) → sumTo n f ≤ n
 | 0, _, _ => Nat.le_refl _
 | n + 1, f, h => by simp only [sumTo]; have := sumTo_le n h; have := h n; omega
theorem cnt_le (m : List Sl) : cnt m ≤ m.length := sumTo_le _ (fun x => by unfold cntW; split <;> omega)
theorem cnt_set {m : List Sl} {i : Nat} (hi : i < m.length) (s : Sl) : cnt (m.set i s) + cntW m i = cnt m + (if s.u = true then 1 else 0) := by
 unfold cnt
 rw [List.length_set]
 have h := sumTo_upd m.length (f := cntW (m.set i s)) (g := cntW m) hi (fun x hx => by unfold cntW; rw [at_set_ne s (fun e => hx e.symm)])
 rw [show cntW (m.set i s) i = if s.u = true then 1 else 0 by unfold cntW; rw [at_set_self s hi]] at h
 exact h
theorem cnt_drop {n : Nat} {R : List Sl} : ∀ (g : Nat) (m : List Sl) (i k : Nat), DropInv n R g m i k → cnt R = cnt m
 | g, m, i, k, hD => by
  have hlen := hD.len
  have hi := hD.hi
  have hkl := hD.hk
  cases hu : (m.getD k sl0).u with
  | false => rw [← hD.done hu]
  | true =>
   cases hm' : moves n m i k with
   | true =>
    obtain ⟨hg, hN⟩ := hD.move hu hm'
    obtain ⟨g', rfl⟩ : ∃ g', g = g' + 1 := ⟨g - 1, by omega⟩
    rw [cnt_drop g' _ _ _ hN]
    have hne : i ≠ k := fun e => by have h := hD.free; rw [e, hu] at h; cases h
    have e1 := cnt_set (m := m) (i := i) (by omega) (m.getD k sl0)
    have e2 := cnt_set (m := m.set i (m.getD k sl0)) (i := k) (by rw [List.length_set]; omega) sl0
    have c1 : cntW m i = 0 := by unfold cntW; rw [show (at' m i).u = false from hD.free]; rfl
    have c2 : cntW (m.set i (m.getD k sl0)) k = 1 := by unfold cntW; rw [at_set_ne _ hne, show (at' m k).u = true from hu]; rfl
    rw [hu, if_pos rfl] at e1
    rw [if_neg (by decide)] at e2
    omega
   | false =>
    obtain ⟨hg, hN⟩ := hD.stay hu hm'
    obtain ⟨g', rfl⟩ : ∃ g', g = g' + 1 := ⟨g - 1, by omega⟩
    exact cnt_drop g' _ _ _ hN
theorem cnt_dropAt {l : List Sl} {i : Nat} (h : tableOkB l = true) (hi : i < l.length) (hu : (at' l i).u = true) : cnt (dropAtL l i) + 1 = cnt l := by
 obtain ⟨h1, h2, _⟩ := tableOkB_iff.1 h
 rw [cnt_drop _ _ _ _ (DropInv.start h2 hi (flowsOk_of h))]
 have e := cnt_set (m := l) hi sl0
 have c1 : cntW l i = 1 := by unfold cntW; rw [hu]; rfl
 rw [if_neg (by decide)] at e
 omega
def expGo (now : Int) : Nat → List Sl → Nat → List Sl × Nat
 | 0, l, c => (l, c)
 | f + 1, l, c => match dueAt l now with
  | none => (l, c)
  | some i => expGo now f (dropAtL l i) (c + 1)
def expL (l : List Sl) (now : Int) : List Sl × Nat := expGo now (cnt l + 1) l 0
structure ExpInv (n : Nat) (now : Int) (R : List Sl × Nat) (g : Nat) (m : List Sl) (c : Nat) : Prop where
 ok : tableOkB m = true
 len : m.length = n
 ms : cnt m ≤ g
 go : expGo now (g + 1) m c = R
 bd : c + cnt m ≤ 16
theorem ExpInv.start {l : List Sl} {now : Int} (h : tableOkB l = true) : ExpInv l.length now (expL l now) (cnt l) l 0 :=
 ⟨h, rfl, Nat.le_refl _, rfl, by have := cnt_le l; have := (tableOkB_iff.1 h).2.1; omega⟩
theorem ExpInv.done {n g c : Nat} {now : Int} {R : List Sl × Nat} {m : List Sl} (h : ExpInv n now R g m c) (hd : dueAt m now = none) : R = (m, c) := by
 rw [← h.go]; unfold expGo; rw [hd]
theorem ExpInv.step {n g c i : Nat} {now : Int} {R : List Sl × Nat} {m : List Sl} (h : ExpInv n now R g m c) (hd : dueAt m now = some i) : 1 ≤ g ∧ i < n ∧ (at' m i).u = true ∧ c + 1 ≤ 16 ∧ ExpInv n now R (g - 1) (dropAtL m i) (c + 1) := by
 obtain ⟨h1, h2⟩ := dueAt_spec hd
 have hu : (at' m i).u = true := by unfold dueB at h2; exact ((Bool.and_eq_true _ _).mp h2).1
 have hc := cnt_dropAt h.ok h1 hu
 have hms := h.ms
 have hbd := h.bd
 have hg : 1 ≤ g := by omega
 refine ⟨hg, by rw [← h.len]; exact h1, hu, by omega, dropAtL_ok h.ok h1, by rw [dropAtL_length]; exact h.len, by omega, ?_, by omega⟩
 rw [← h.go, show g - 1 + 1 = g by omega]
 conv => rhs; unfold expGo
 rw [hd]
theorem way_at {m : List Sl} {i : Nat} (h : tableOkB m = true) (hi : i < m.length) (hu : (at' m i).u = true) : endL m (at' m i).a (at' m i).p = ((i : Int), true) := by
 have ht := ((Bool.and_eq_true _ _).mp ((tableOkB_iff.1 h).2.2 i hi)).2
 unfold wayB at ht
 rw [show (m.getD i sl0).u = true from hu] at ht
 simpa using ht
end Go.Proofs.YtpjkcgaohoinaaaGreat

