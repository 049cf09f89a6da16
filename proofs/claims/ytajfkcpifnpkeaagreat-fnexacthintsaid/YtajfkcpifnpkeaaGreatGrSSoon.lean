/- Soonest, on both sides. -/
import Derived.Test.YtajfkcpifnpkeaaGreatGrSTabI3
import Derived.Test.YtajfkcpifnpkeaaGreatGrInts
namespace Go.Proofs.YtajfkcpifnpkeaaGreat
open Go.ChangeShapes Go.WideShapes Go.ChangeAt Go.RowKit Go.Joins
set_option linter.unusedVariables false
set_option linter.unusedSimpArgs false

/-- The first one with the least Until among the first k that are used; nothing where none is. -/
def soonStep (q s : Sl) : Sl := if s.u = true ∧ (q.u = false ∨ s.t < q.t) then s else q
def soonTo (l : List Sl) (k : Nat) : Sl := (l.take k).foldl soonStep sl0
theorem soonTo_succ {l : List Sl} {k : Nat} (h : k < l.length) : soonTo l (k + 1) = soonStep (soonTo l k) (l.getD k sl0) := by
  unfold soonTo
  rw [takeL_succ layS l k h, List.foldl_append]; rfl
theorem soonStep_free {q s : Sl} (h : s.u = false) : soonStep q s = q := by unfold soonStep; rw [if_neg (by rw [h]; simp)]
theorem soonStep_first {q s : Sl} (h : s.u = true) (hq : q.u = false) : soonStep q s = s := by unfold soonStep; rw [if_pos ⟨h, .inl hq⟩]
theorem soonStep_less {q s : Sl} (h : s.u = true) (hq : s.t < q.t) : soonStep q s = s := by unfold soonStep; rw [if_pos ⟨h, .inr hq⟩]
theorem soonStep_more {q s : Sl} (hq : q.u = true) (h : ¬ s.t < q.t) : soonStep q s = q := by
  unfold soonStep
  rw [if_neg]
  rintro ⟨_, h1 | h1⟩
  · rw [hq] at h1; cases h1
  · exact h h1
def soonL (l : List Sl) : Sl := soonTo l l.length
theorem box_set1 (w : World) (k j : Nat) (cs : Array Value) (t : TypeId) (v : Value) (h : w.heap[k]? = some (.cells cs t (0, 0))) : (w.setCell ⟨k, j, none⟩ v).heap[k]? = some (.cells (cs.setIfInBounds j v) t (0, 0)) := by
  simp [World.setCell, Array.getElem?_modify, h]
theorem frozen_of {W : World} {B : Nat} {c : Array Value} {t : TypeId} (h : W.heap[B]? = some (.cells c t (0, 0))) (j : Nat) : W.frozen? ⟨B, j, none⟩ = false := by simp [World.frozen?, h]
abbrev slotCells (s : Sl) : Array Value := #[.bool s.u, .int .i64 s.a, .int .i64 s.p, .int .i64 s.v, .int .i64 s.t]
def set5 (w : World) (B : Nat) (s : Sl) : World := ((((w.setCell ⟨B, 0, none⟩ (.bool s.u)).setCell ⟨B, 1, none⟩ (.int .i64 s.a)).setCell ⟨B, 2, none⟩ (.int .i64 s.p)).setCell ⟨B, 3, none⟩ (.int .i64 s.v)).setCell ⟨B, 4, none⟩ (.int .i64 s.t)
theorem box_set5 {w : World} {B : Nat} {s q : Sl} {T : TypeId} (h : w.heap[B]? = some (.cells (slotCells q) T (0, 0))) : (set5 w B s).heap[B]? = some (.cells (slotCells s) T (0, 0)) := by
  have h0 := box_set1 w B 0 _ _ (.bool s.u) h
  have h1 := box_set1 _ B 1 _ _ (.int .i64 s.a) h0
  have h2 := box_set1 _ B 2 _ _ (.int .i64 s.p) h1
  have h3 := box_set1 _ B 3 _ _ (.int .i64 s.v) h2
  have h4 := box_set1 _ B 4 _ _ (.int .i64 s.t) h3
  exact h4
theorem below_set5 {w W : World} {n B : Nat} (h : Below n w W) (hB : n ≤ B) (s : Sl) : Below n w (set5 W B s) :=
  ((((h.setCell (p := ⟨B, 0, none⟩) hB _).setCell (p := ⟨B, 1, none⟩) hB _).setCell (p := ⟨B, 2, none⟩) hB _).setCell (p := ⟨B, 3, none⟩) hB _).setCell (p := ⟨B, 4, none⟩) hB _

set_option maxHeartbeats 4000000 in
theorem l5soonest_any (b off c : Nat) (l : List Sl) (w : World) (hbl : b < w.heap.size) (hc : ∀ i, i < l.length → ∀ j, j < layS.k → w.cell? ⟨b, off + i * layS.k + j, none⟩ = (layS.cs (l.getD i layS.d))[j]?) (hl : l.length ≤ 1048576) :
    Calls Tryz.prog 146 #[tab (.slice (some ⟨b, off, none⟩) l.length c)] w fun e w' => e = .returned (.tuple #[slot (soonL l), .bool (soonL l).u]) ∧ Below w.heap.size w w' := by
  have HC := hide hc
  clear hc
  obtain ⟨W0, hW0⟩ : ∃ W, ((w.alloc (.cells #[.slice (some ⟨b, off, none⟩) l.length c] 44)).alloc (.cells #[.bool false, .int .i64 0, .int .i64 0, .int .i64 0, .int .i64 0] 99)) = W := ⟨_, rfl⟩
  have hb_W0 : Below w.heap.size w W0 := by rw [← hW0]; exact (((Below.refl _ _).alloc (Nat.le_refl _) _).alloc (by simp <;> omega) _)
  have HB := hide hb_W0
  clear hb_W0
  have zct : w.heap.size < W0.heap.size := by rw [← hW0]; simp <;> omega
  have ct0 : W0.cell? ⟨w.heap.size, 0, none⟩ = some (.slice (some ⟨b, off, none⟩) l.length c) := by rw [← hW0]; simp [go_sem]
  have zcr : w.heap.size + 1 < W0.heap.size := by rw [← hW0]; simp
  have cr0 : W0.cell? ⟨w.heap.size + 1, 0, none⟩ = some (.bool false) := by rw [← hW0]; simp [go_sem]
  have cr1 : W0.cell? ⟨w.heap.size + 1, 1, none⟩ = some (.int .i64 0) := by rw [← hW0]; simp [go_sem]
  have cr2 : W0.cell? ⟨w.heap.size + 1, 2, none⟩ = some (.int .i64 0) := by rw [← hW0]; simp [go_sem]
  have cr3 : W0.cell? ⟨w.heap.size + 1, 3, none⟩ = some (.int .i64 0) := by rw [← hW0]; simp [go_sem]
  have cr4 : W0.cell? ⟨w.heap.size + 1, 4, none⟩ = some (.int .i64 0) := by rw [← hW0]; simp [go_sem]
  have fcr0 : W0.frozen? ⟨w.heap.size + 1, 0, none⟩ = false := by rw [← hW0]; simp [go_sem]
  have fcr1 : W0.frozen? ⟨w.heap.size + 1, 1, none⟩ = false := by rw [← hW0]; simp [go_sem]
  have fcr2 : W0.frozen? ⟨w.heap.size + 1, 2, none⟩ = false := by rw [← hW0]; simp [go_sem]
  have fcr3 : W0.frozen? ⟨w.heap.size + 1, 3, none⟩ = false := by rw [← hW0]; simp [go_sem]
  have fcr4 : W0.frozen? ⟨w.heap.size + 1, 4, none⟩ = false := by rw [← hW0]; simp [go_sem]
  obtain ⟨W1, hW1⟩ : ∃ W, W0.alloc (.cells #[.bool false, .int .i64 0, .int .i64 0, .int .i64 0, .int .i64 0] 99) = W := ⟨_, rfl⟩
  have zct0 := zct
  have zcr0 := zcr
  have b4 : Hid (W1.heap[W0.heap.size]? = some (.cells (slotCells sl0) 99 (0, 0))) := by rw [← hW1]; exact World.alloc_heap_new W0 _
  have hb_W1 : Below W0.heap.size W0 W1 := by rw [← hW1]; exact (Below.refl _ _).alloc (Nat.le_refl _) _
  replace ct0 : W1.cell? ⟨w.heap.size, 0, none⟩ = some (.slice (some ⟨b, off, none⟩) l.length c) := (hb_W1.cell (p := ⟨w.heap.size, 0, none⟩) zct).trans ct0
  replace zct : w.heap.size < W1.heap.size := Nat.lt_of_lt_of_le zct hb_W1.size
  replace cr0 : W1.cell? ⟨w.heap.size + 1, 0, none⟩ = some (.bool false) := (hb_W1.cell (p := ⟨w.heap.size + 1, 0, none⟩) zcr).trans cr0
  replace cr1 : W1.cell? ⟨w.heap.size + 1, 1, none⟩ = some (.int .i64 0) := (hb_W1.cell (p := ⟨w.heap.size + 1, 1, none⟩) zcr).trans cr1
  replace cr2 : W1.cell? ⟨w.heap.size + 1, 2, none⟩ = some (.int .i64 0) := (hb_W1.cell (p := ⟨w.heap.size + 1, 2, none⟩) zcr).trans cr2
  replace cr3 : W1.cell? ⟨w.heap.size + 1, 3, none⟩ = some (.int .i64 0) := (hb_W1.cell (p := ⟨w.heap.size + 1, 3, none⟩) zcr).trans cr3
  replace cr4 : W1.cell? ⟨w.heap.size + 1, 4, none⟩ = some (.int .i64 0) := (hb_W1.cell (p := ⟨w.heap.size + 1, 4, none⟩) zcr).trans cr4
  replace fcr0 : W1.frozen? ⟨w.heap.size + 1, 0, none⟩ = false := (hb_W1.frozen (p := ⟨w.heap.size + 1, 0, none⟩) zcr).trans fcr0
  replace fcr1 : W1.frozen? ⟨w.heap.size + 1, 1, none⟩ = false := (hb_W1.frozen (p := ⟨w.heap.size + 1, 1, none⟩) zcr).trans fcr1
  replace fcr2 : W1.frozen? ⟨w.heap.size + 1, 2, none⟩ = false := (hb_W1.frozen (p := ⟨w.heap.size + 1, 2, none⟩) zcr).trans fcr2
  replace fcr3 : W1.frozen? ⟨w.heap.size + 1, 3, none⟩ = false := (hb_W1.frozen (p := ⟨w.heap.size + 1, 3, none⟩) zcr).trans fcr3
  replace fcr4 : W1.frozen? ⟨w.heap.size + 1, 4, none⟩ = false := (hb_W1.frozen (p := ⟨w.heap.size + 1, 4, none⟩) zcr).trans fcr4
  replace zcr : w.heap.size + 1 < W1.heap.size := Nat.lt_of_lt_of_le zcr hb_W1.size
  replace HB := hide (HB.out.trans (hb_W1.mono HB.out.size))
  clear hb_W1
  have hz4 : W0.heap.size < W1.heap.size := by rw [← hW1]; simp
  have HBW := HB
  go_enter Tryz.func146, Tryz.ntmps146
  go_wp2
  go_loopw [5] (fun i wr => ∃ k : Nat, k ≤ l.length ∧ i = .int .i64 k ∧ Hid (wr.heap[W0.heap.size]? = some (.cells (slotCells (soonTo l k)) 99 (0, 0))) ∧ Hid (Below (W0.heap.size) W1 wr))
    (fun i _ => l.length - (intOf i).toNat)
  case atStart => exact ⟨0, Nat.zero_le _, rfl, b4, Below.refl _ _⟩
  case round =>
  obtain ⟨k, hk, rfl, hq, HBr⟩ := hrel
  have hszr : W1.heap.size ≤ wr.heap.size := HBr.out.size
  obtain ⟨q, hqq⟩ : ∃ q, soonTo l k = q := ⟨_, rfl⟩
  rw [hqq] at hq
  replace ct0 : wr.cell? ⟨w.heap.size, 0, none⟩ = some (.slice (some ⟨b, off, none⟩) l.length c) := (HBr.out.cell (p := ⟨w.heap.size, 0, none⟩) zct0).trans ct0
  replace zct : w.heap.size < wr.heap.size := by omega
  replace cr0 : wr.cell? ⟨w.heap.size + 1, 0, none⟩ = some (.bool false) := (HBr.out.cell (p := ⟨w.heap.size + 1, 0, none⟩) zcr0).trans cr0
  replace cr1 : wr.cell? ⟨w.heap.size + 1, 1, none⟩ = some (.int .i64 0) := (HBr.out.cell (p := ⟨w.heap.size + 1, 1, none⟩) zcr0).trans cr1
  replace cr2 : wr.cell? ⟨w.heap.size + 1, 2, none⟩ = some (.int .i64 0) := (HBr.out.cell (p := ⟨w.heap.size + 1, 2, none⟩) zcr0).trans cr2
  replace cr3 : wr.cell? ⟨w.heap.size + 1, 3, none⟩ = some (.int .i64 0) := (HBr.out.cell (p := ⟨w.heap.size + 1, 3, none⟩) zcr0).trans cr3
  replace cr4 : wr.cell? ⟨w.heap.size + 1, 4, none⟩ = some (.int .i64 0) := (HBr.out.cell (p := ⟨w.heap.size + 1, 4, none⟩) zcr0).trans cr4
  replace fcr0 : wr.frozen? ⟨w.heap.size + 1, 0, none⟩ = false := (HBr.out.frozen (p := ⟨w.heap.size + 1, 0, none⟩) zcr0).trans fcr0
  replace fcr1 : wr.frozen? ⟨w.heap.size + 1, 1, none⟩ = false := (HBr.out.frozen (p := ⟨w.heap.size + 1, 1, none⟩) zcr0).trans fcr1
  replace fcr2 : wr.frozen? ⟨w.heap.size + 1, 2, none⟩ = false := (HBr.out.frozen (p := ⟨w.heap.size + 1, 2, none⟩) zcr0).trans fcr2
  replace fcr3 : wr.frozen? ⟨w.heap.size + 1, 3, none⟩ = false := (HBr.out.frozen (p := ⟨w.heap.size + 1, 3, none⟩) zcr0).trans fcr3
  replace fcr4 : wr.frozen? ⟨w.heap.size + 1, 4, none⟩ = false := (HBr.out.frozen (p := ⟨w.heap.size + 1, 4, none⟩) zcr0).trans fcr4
  replace zcr : w.heap.size + 1 < wr.heap.size := by omega
  have zq : W0.heap.size < wr.heap.size := by omega
  have hw0 : w.heap.size ≤ W0.heap.size := by omega
  have HB2 := hide (HBW.out.trans (HBr.out.mono hw0))
  have q0 : wr.cell? ⟨W0.heap.size, 0, none⟩ = some (.bool q.u) := block_cell1 hq.out 0 _ rfl
  have q1 : wr.cell? ⟨W0.heap.size, 1, none⟩ = some (.int .i64 q.a) := block_cell1 hq.out 1 _ rfl
  have q2 : wr.cell? ⟨W0.heap.size, 2, none⟩ = some (.int .i64 q.p) := block_cell1 hq.out 2 _ rfl
  have q3 : wr.cell? ⟨W0.heap.size, 3, none⟩ = some (.int .i64 q.v) := block_cell1 hq.out 3 _ rfl
  have q4 : wr.cell? ⟨W0.heap.size, 4, none⟩ = some (.int .i64 q.t) := block_cell1 hq.out 4 _ rfl
  have fq0 := frozen_of hq.out 0
  have fq1 := frozen_of hq.out 1
  have fq2 := frozen_of hq.out 2
  have fq3 := frozen_of hq.out 3
  have fq4 := frozen_of hq.out 4
  by_cases hlt : k < l.length
  · skip
    have hcx := RdL.slot (C := w.heap.size) HC.out k hlt
    have HSu := hide (soonTo_succ hlt)
    rw [hqq] at HSu
    obtain ⟨s, hxy⟩ : ∃ s, l.getD k sl0 = s := ⟨_, rfl⟩
    rw [hxy] at hcx HSu
    have e0 := (HB2.out.cell (p := ⟨b, off + k * 5, none⟩) hbl).trans hcx.1
    have e1 := (HB2.out.cell (p := ⟨b, off + k * 5 + 1, none⟩) hbl).trans hcx.2.1
    have e2 := (HB2.out.cell (p := ⟨b, off + k * 5 + 2, none⟩) hbl).trans hcx.2.2.1
    have e3 := (HB2.out.cell (p := ⟨b, off + k * 5 + 3, none⟩) hbl).trans hcx.2.2.2.1
    have e4 := (HB2.out.cell (p := ⟨b, off + k * 5 + 4, none⟩) hbl).trans hcx.2.2.2.2
    have zb : b < wr.heap.size := Nat.lt_of_lt_of_le hbl HB2.out.size
    have hk' : (k : Int) < (l.length : Int) := by omega
    clear hcx hxy hqq
    have G0 := Grown.cell ct0 zct
    have Ge0 := Grown.cell (b := b) (off := off + k * 5) e0 zb
    have Gq0 := Grown.cell q0 zq
    have Gf0 : ∀ p : Grown wr, p.v.frozen? ⟨W0.heap.size, 0, none⟩ = false := fun p => (p.b.frozen (p := ⟨W0.heap.size, 0, none⟩) zq).trans fq0
    have Ge1 := Grown.cell (b := b) (off := off + k * 5 + 1) e1 zb
    have Gq1 := Grown.cell q1 zq
    have Gf1 : ∀ p : Grown wr, p.v.frozen? ⟨W0.heap.size, 1, none⟩ = false := fun p => (p.b.frozen (p := ⟨W0.heap.size, 1, none⟩) zq).trans fq1
    have Ge2 := Grown.cell (b := b) (off := off + k * 5 + 2) e2 zb
    have Gq2 := Grown.cell q2 zq
    have Gf2 : ∀ p : Grown wr, p.v.frozen? ⟨W0.heap.size, 2, none⟩ = false := fun p => (p.b.frozen (p := ⟨W0.heap.size, 2, none⟩) zq).trans fq2
    have Ge3 := Grown.cell (b := b) (off := off + k * 5 + 3) e3 zb
    have Gq3 := Grown.cell q3 zq
    have Gf3 : ∀ p : Grown wr, p.v.frozen? ⟨W0.heap.size, 3, none⟩ = false := fun p => (p.b.frozen (p := ⟨W0.heap.size, 3, none⟩) zq).trans fq3
    have Ge4 := Grown.cell (b := b) (off := off + k * 5 + 4) e4 zb
    have Gq4 := Grown.cell q4 zq
    have Gf4 : ∀ p : Grown wr, p.v.frozen? ⟨W0.heap.size, 4, none⟩ = false := fun p => (p.b.frozen (p := ⟨W0.heap.size, 4, none⟩) zq).trans fq4
    have HQ := hq
    clear hq fq0 q0 e0 fq1 q1 e1 fq2 q2 e2 fq3 q3 e3 fq4 q4 e4 cr0 fcr0 cr1 fcr1 cr2 fcr2 cr3 fcr3 cr4 fcr4
    obtain ⟨su, sa, sp, sv, st⟩ := s
    obtain ⟨qu, qa, qp, qv, qt⟩ := q
    simp only at Ge0 Ge1 Ge2 Ge3 Ge4 Gq0 Gq1 Gq2 Gq3 Gq4
    cases su with
    | false =>
      have HN := hide (HSu.out.trans (soonStep_free rfl))
      clear HSu
      go_wp2
      (refine wp_region_grown (by kernel_rfl) (by kernel_rfl) ?_; intro hne9; (repeat (go_big_quiet_step ((fail)))); (with_reducible refine wpQuiet_nil ?_); intro _ hw9; obtain ⟨pq, hw8⟩ := hw9; subst hw8)
      go_wp2
      go_roundw
      case rel => exact ⟨k + 1, hlt, by go_num, (by unfold Hid; rw [HN.out]; exact (pq.b.block _ zq).trans HQ.out), (HBr.out.trans (pq.b.mono (Nat.le_of_lt zq)))⟩
      case measure => simp [intOf]; omega
    | true =>
      cases qu with
      | false =>
        have HN := hide (HSu.out.trans (soonStep_first rfl rfl))
        clear HSu
        go_wp2
        (refine wp_region_grown (by kernel_rfl) (by kernel_rfl) ?_; intro hne9; (repeat (go_big_quiet_step ((fail)))); (with_reducible refine wpQuiet_nil ?_); intro _ hw9; obtain ⟨pq, hw8⟩ := hw9; subst hw8)
        go_wp2
        go_roundw
        case rel => exact ⟨k + 1, hlt, by go_num, (by unfold Hid; rw [HN.out]; exact box_set5 (s := ⟨true, sa, sp, sv, st⟩) ((pq.b.block _ zq).trans HQ.out)), below_set5 (s := ⟨true, sa, sp, sv, st⟩) (HBr.out.trans (pq.b.mono (Nat.le_of_lt zq))) (Nat.le_refl _)⟩
        case measure => simp [intOf]; omega
      | true =>
        by_cases hlq : st < qt
        · have HN := hide (HSu.out.trans (soonStep_less rfl hlq))
          clear HSu
          go_wp2
          (refine wp_region_grown (by kernel_rfl) (by kernel_rfl) ?_; intro hne9; (repeat (go_big_quiet_step ((fail)))); (with_reducible refine wpQuiet_nil ?_); intro _ hw9; obtain ⟨pq, hw8⟩ := hw9; subst hw8)
          go_wp2
          go_roundw
          case rel => exact ⟨k + 1, hlt, by go_num, (by unfold Hid; rw [HN.out]; exact box_set5 (s := ⟨true, sa, sp, sv, st⟩) ((pq.b.block _ zq).trans HQ.out)), below_set5 (s := ⟨true, sa, sp, sv, st⟩) (HBr.out.trans (pq.b.mono (Nat.le_of_lt zq))) (Nat.le_refl _)⟩
          case measure => simp [intOf]; omega
        · have hdq : decide (st < qt) = false := decide_eq_false hlq
          have HN := hide (HSu.out.trans (soonStep_more rfl hlq))
          clear HSu
          go_wp2
          (refine wp_region_grown (by kernel_rfl) (by kernel_rfl) ?_; intro hne9; (repeat (go_big_quiet_step ((fail)))); (with_reducible refine wpQuiet_nil ?_); intro _ hw9; obtain ⟨pq, hw8⟩ := hw9; subst hw8)
          go_wp2
          go_roundw
          case rel => exact ⟨k + 1, hlt, by go_num, (by unfold Hid; rw [HN.out]; exact (pq.b.block _ zq).trans HQ.out), (HBr.out.trans (pq.b.mono (Nat.le_of_lt zq)))⟩
          case measure => simp [intOf]; omega
  · skip
    have e : k = l.length := by omega
    subst e
    have HE := hide (show soonL l = q from hqq)
    have HQ := hq
    clear hq hqq
    go_wp2
    go_region
    go_wp2
    refine bodyPost_ret (v := .tuple #[slot q, .bool q.u]) (by simp [results, Tryz.results146, go_sem, cr0, cr1, cr2, cr3, cr4]) rfl ⟨by rw [HE.out], ?_⟩
    exact below_set5 (s := q) (Below.drew HB2.out) (show w.heap.size ≤ w.heap.size + 1 by omega)

end Go.Proofs.YtajfkcpifnpkeaaGreat
