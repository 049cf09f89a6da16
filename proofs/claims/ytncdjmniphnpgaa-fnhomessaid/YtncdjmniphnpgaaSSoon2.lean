/- Soonest, the model's and the program's. -/
import Derived.Test.YtncdjmniphnpgaaSSoon
namespace Go.Proofs.Ytncdjmniphnpgaa
open Go.ChangeShapes Go.WideShapes Go.ChangeAt Go.RowKit Go.Joins
set_option linter.unusedVariables false
set_option linter.unusedSimpArgs false

def soonM (l : List Sl) : Sl := if tableOkB l = true then soonL l else sl0
set_option maxHeartbeats 2000000 in
theorem specSoonest_any (o : Option Addr) (c : Nat) (l : List Sl) (w : World) (hR : RdS w.heap.size w o l) (hl : l.length ≤ 1048576) :
    Calls Try.prog 51 #[tab (.slice o l.length c)] w fun e w' => e = .returned (.tuple #[slot (soonM l), .bool (soonM l).u]) ∧ Below w.heap.size w w' := by
  obtain ⟨W0, hW0⟩ : ∃ W, ((w.alloc (.cells #[.slice o l.length c] 25)).alloc (.cells #[.bool false, .int .i64 0, .int .i64 0, .int .i64 0, .int .i64 0] 35)) = W := ⟨_, rfl⟩
  have hb_W0 : Below w.heap.size w W0 := by rw [← hW0]; exact (((Below.refl _ _).alloc (Nat.le_refl _) _).alloc (by simp <;> omega) _)
  have HB := hide hb_W0
  clear hb_W0
  have zct : w.heap.size < W0.heap.size := by rw [← hW0]; simp <;> omega
  have ct0 : W0.cell? ⟨w.heap.size, 0, none⟩ = some (.slice o l.length c) := by rw [← hW0]; simp [go_sem]
  have zcr : w.heap.size + 1 < W0.heap.size := by rw [← hW0]; simp
  have cr0 : W0.cell? ⟨w.heap.size + 1, 0, none⟩ = some (.bool false) := by rw [← hW0]; simp [go_sem]
  have cr1 : W0.cell? ⟨w.heap.size + 1, 1, none⟩ = some (.int .i64 0) := by rw [← hW0]; simp [go_sem]
  have cr2 : W0.cell? ⟨w.heap.size + 1, 2, none⟩ = some (.int .i64 0) := by rw [← hW0]; simp [go_sem]
  have cr3 : W0.cell? ⟨w.heap.size + 1, 3, none⟩ = some (.int .i64 0) := by rw [← hW0]; simp [go_sem]
  have cr4 : W0.cell? ⟨w.heap.size + 1, 4, none⟩ = some (.int .i64 0) := by rw [← hW0]; simp [go_sem]
  have fcr0 : W0.frozen? ⟨w.heap.size + 1, 0, none⟩ = false := by rw [← hW0]; simp [go_sem]
  have fcr1 : W0.frozen? ⟨w.heap.size + 1, 1, none⟩ = false := by rw [← hW0]; simp [go_sem]
  have fcr2 : W0.frozen? ⟨w.heap.size + 1, 2, none⟩ = false := by rw [← hW0]; simp [go_sem]
  have fcr3 : W0.frozen? ⟨w.heap.size + 1, 3, none⟩ = false := by rw [← hW0]; simp [go_sem]
  have fcr4 : W0.frozen? ⟨w.heap.size + 1, 4, none⟩ = false := by rw [← hW0]; simp [go_sem]
  have hok := specTableOk_any o c l W0 ((hR.kept HB.out (Nat.le_refl _)).le HB.out.size) hl
  cases hT : tableOkB l with
  | false =>
    have HM := hide (show soonM l = sl0 by unfold soonM; rw [hT]; rfl)
    rw [hT] at hok
    go_enter Try.func51, Try.ntmps51
    go_wp2_with fail
    refine (hok).mono ?_
    rintro e v1 ⟨rfl, hb⟩
    replace ct0 : v1.cell? ⟨w.heap.size, 0, none⟩ = some (.slice o l.length c) := (hb.cell (p := ⟨w.heap.size, 0, none⟩) zct).trans ct0
    replace zct : w.heap.size < v1.heap.size := Nat.lt_of_lt_of_le zct hb.size
    replace cr0 : v1.cell? ⟨w.heap.size + 1, 0, none⟩ = some (.bool false) := (hb.cell (p := ⟨w.heap.size + 1, 0, none⟩) zcr).trans cr0
    replace cr1 : v1.cell? ⟨w.heap.size + 1, 1, none⟩ = some (.int .i64 0) := (hb.cell (p := ⟨w.heap.size + 1, 1, none⟩) zcr).trans cr1
    replace cr2 : v1.cell? ⟨w.heap.size + 1, 2, none⟩ = some (.int .i64 0) := (hb.cell (p := ⟨w.heap.size + 1, 2, none⟩) zcr).trans cr2
    replace cr3 : v1.cell? ⟨w.heap.size + 1, 3, none⟩ = some (.int .i64 0) := (hb.cell (p := ⟨w.heap.size + 1, 3, none⟩) zcr).trans cr3
    replace cr4 : v1.cell? ⟨w.heap.size + 1, 4, none⟩ = some (.int .i64 0) := (hb.cell (p := ⟨w.heap.size + 1, 4, none⟩) zcr).trans cr4
    replace fcr0 : v1.frozen? ⟨w.heap.size + 1, 0, none⟩ = false := (hb.frozen (p := ⟨w.heap.size + 1, 0, none⟩) zcr).trans fcr0
    replace fcr1 : v1.frozen? ⟨w.heap.size + 1, 1, none⟩ = false := (hb.frozen (p := ⟨w.heap.size + 1, 1, none⟩) zcr).trans fcr1
    replace fcr2 : v1.frozen? ⟨w.heap.size + 1, 2, none⟩ = false := (hb.frozen (p := ⟨w.heap.size + 1, 2, none⟩) zcr).trans fcr2
    replace fcr3 : v1.frozen? ⟨w.heap.size + 1, 3, none⟩ = false := (hb.frozen (p := ⟨w.heap.size + 1, 3, none⟩) zcr).trans fcr3
    replace fcr4 : v1.frozen? ⟨w.heap.size + 1, 4, none⟩ = false := (hb.frozen (p := ⟨w.heap.size + 1, 4, none⟩) zcr).trans fcr4
    replace zcr : w.heap.size + 1 < v1.heap.size := Nat.lt_of_lt_of_le zcr hb.size
    replace HB := hide (HB.out.trans (hb.mono HB.out.size))
    clear hb
    clear hok hT
    go_wp2
    refine bodyPost_ret (v := .tuple #[slot sl0, .bool false]) (by simp [results, Try.results51, go_sem, cr0, cr1, cr2, cr3, cr4]) rfl ⟨by rw [HM.out], below_set5 (s := sl0) HB.out (by omega)⟩
  | true =>
    have HM := hide (show soonM l = soonL l by unfold soonM; rw [hT]; rfl)
    rw [hT] at hok
    have hn := (tableOkB_iff.1 hT).1
    clear hT
    rcases hR with hR | ⟨b, off, rfl, hbl, hcell⟩
    · subst hR; simp at hn
    have HC := hide hcell
    clear hcell
    go_enter Try.func51, Try.ntmps51
    go_wp2_with fail
    refine (hok).mono ?_
    rintro e v1 ⟨rfl, hb⟩
    replace ct0 : v1.cell? ⟨w.heap.size, 0, none⟩ = some (.slice (some ⟨b, off, none⟩) l.length c) := (hb.cell (p := ⟨w.heap.size, 0, none⟩) zct).trans ct0
    replace zct : w.heap.size < v1.heap.size := Nat.lt_of_lt_of_le zct hb.size
    replace cr0 : v1.cell? ⟨w.heap.size + 1, 0, none⟩ = some (.bool false) := (hb.cell (p := ⟨w.heap.size + 1, 0, none⟩) zcr).trans cr0
    replace cr1 : v1.cell? ⟨w.heap.size + 1, 1, none⟩ = some (.int .i64 0) := (hb.cell (p := ⟨w.heap.size + 1, 1, none⟩) zcr).trans cr1
    replace cr2 : v1.cell? ⟨w.heap.size + 1, 2, none⟩ = some (.int .i64 0) := (hb.cell (p := ⟨w.heap.size + 1, 2, none⟩) zcr).trans cr2
    replace cr3 : v1.cell? ⟨w.heap.size + 1, 3, none⟩ = some (.int .i64 0) := (hb.cell (p := ⟨w.heap.size + 1, 3, none⟩) zcr).trans cr3
    replace cr4 : v1.cell? ⟨w.heap.size + 1, 4, none⟩ = some (.int .i64 0) := (hb.cell (p := ⟨w.heap.size + 1, 4, none⟩) zcr).trans cr4
    replace fcr0 : v1.frozen? ⟨w.heap.size + 1, 0, none⟩ = false := (hb.frozen (p := ⟨w.heap.size + 1, 0, none⟩) zcr).trans fcr0
    replace fcr1 : v1.frozen? ⟨w.heap.size + 1, 1, none⟩ = false := (hb.frozen (p := ⟨w.heap.size + 1, 1, none⟩) zcr).trans fcr1
    replace fcr2 : v1.frozen? ⟨w.heap.size + 1, 2, none⟩ = false := (hb.frozen (p := ⟨w.heap.size + 1, 2, none⟩) zcr).trans fcr2
    replace fcr3 : v1.frozen? ⟨w.heap.size + 1, 3, none⟩ = false := (hb.frozen (p := ⟨w.heap.size + 1, 3, none⟩) zcr).trans fcr3
    replace fcr4 : v1.frozen? ⟨w.heap.size + 1, 4, none⟩ = false := (hb.frozen (p := ⟨w.heap.size + 1, 4, none⟩) zcr).trans fcr4
    replace zcr : w.heap.size + 1 < v1.heap.size := Nat.lt_of_lt_of_le zcr hb.size
    replace HB := hide (HB.out.trans (hb.mono HB.out.size))
    clear hb
    go_wp2_with fail
    refine (l5soonest_any b off c l v1 (Nat.lt_of_lt_of_le hbl HB.out.size) (fun i hi j hj => (HB.out.cell (p := ⟨b, off + i * layS.k + j, none⟩) hbl).trans (HC.out i hi j hj)) hl).mono ?_
    rintro e v2 ⟨rfl, hb⟩
    replace ct0 : v2.cell? ⟨w.heap.size, 0, none⟩ = some (.slice (some ⟨b, off, none⟩) l.length c) := (hb.cell (p := ⟨w.heap.size, 0, none⟩) zct).trans ct0
    replace zct : w.heap.size < v2.heap.size := Nat.lt_of_lt_of_le zct hb.size
    replace cr0 : v2.cell? ⟨w.heap.size + 1, 0, none⟩ = some (.bool false) := (hb.cell (p := ⟨w.heap.size + 1, 0, none⟩) zcr).trans cr0
    replace cr1 : v2.cell? ⟨w.heap.size + 1, 1, none⟩ = some (.int .i64 0) := (hb.cell (p := ⟨w.heap.size + 1, 1, none⟩) zcr).trans cr1
    replace cr2 : v2.cell? ⟨w.heap.size + 1, 2, none⟩ = some (.int .i64 0) := (hb.cell (p := ⟨w.heap.size + 1, 2, none⟩) zcr).trans cr2
    replace cr3 : v2.cell? ⟨w.heap.size + 1, 3, none⟩ = some (.int .i64 0) := (hb.cell (p := ⟨w.heap.size + 1, 3, none⟩) zcr).trans cr3
    replace cr4 : v2.cell? ⟨w.heap.size + 1, 4, none⟩ = some (.int .i64 0) := (hb.cell (p := ⟨w.heap.size + 1, 4, none⟩) zcr).trans cr4
    replace fcr0 : v2.frozen? ⟨w.heap.size + 1, 0, none⟩ = false := (hb.frozen (p := ⟨w.heap.size + 1, 0, none⟩) zcr).trans fcr0
    replace fcr1 : v2.frozen? ⟨w.heap.size + 1, 1, none⟩ = false := (hb.frozen (p := ⟨w.heap.size + 1, 1, none⟩) zcr).trans fcr1
    replace fcr2 : v2.frozen? ⟨w.heap.size + 1, 2, none⟩ = false := (hb.frozen (p := ⟨w.heap.size + 1, 2, none⟩) zcr).trans fcr2
    replace fcr3 : v2.frozen? ⟨w.heap.size + 1, 3, none⟩ = false := (hb.frozen (p := ⟨w.heap.size + 1, 3, none⟩) zcr).trans fcr3
    replace fcr4 : v2.frozen? ⟨w.heap.size + 1, 4, none⟩ = false := (hb.frozen (p := ⟨w.heap.size + 1, 4, none⟩) zcr).trans fcr4
    replace zcr : w.heap.size + 1 < v2.heap.size := Nat.lt_of_lt_of_le zcr hb.size
    replace HB := hide (HB.out.trans (hb.mono HB.out.size))
    clear hb
    clear hok
    obtain ⟨q, hq⟩ : ∃ q, soonL l = q := ⟨_, rfl⟩
    have HQ := hide hq
    simp only [hq]
    clear hq
    go_wp2
    refine bodyPost_ret (v := .tuple #[slot q, .bool q.u]) (by simp [results, Try.results51, go_sem, cr0, cr1, cr2, cr3, cr4]) rfl ⟨by rw [HM.out, HQ.out], below_set5 (s := q) HB.out (by omega)⟩

set_option maxHeartbeats 4000000 in
theorem soonestOf_any (b off c : Nat) (l : List Sl) (w : World) (hbl : b < w.heap.size) (hc : ∀ i, i < l.length → ∀ j, j < layS.k → w.cell? ⟨b, off + i * layS.k + j, none⟩ = (layS.cs (l.getD i layS.d))[j]?) (hl : l.length ≤ 1048576) :
    Calls Try.prog 72 #[tab (.slice (some ⟨b, off, none⟩) l.length c)] w fun e w' => e = .returned (.tuple #[slot (soonL l), .bool (soonL l).u]) ∧ Below w.heap.size w w' := by
  have HC := hide hc
  clear hc
  obtain ⟨W0, hW0⟩ : ∃ W, ((w.alloc (.cells #[.slice (some ⟨b, off, none⟩) l.length c] 78)).alloc (.cells #[.bool false, .int .i64 0, .int .i64 0, .int .i64 0, .int .i64 0] 87)) = W := ⟨_, rfl⟩
  have hb_W0 : Below w.heap.size w W0 := by rw [← hW0]; exact (((Below.refl _ _).alloc (Nat.le_refl _) _).alloc (by simp <;> omega) _)
  have HB := hide hb_W0
  clear hb_W0
  have zct : w.heap.size < W0.heap.size := by rw [← hW0]; simp <;> omega
  have ct0 : W0.cell? ⟨w.heap.size, 0, none⟩ = some (.slice (some ⟨b, off, none⟩) l.length c) := by rw [← hW0]; simp [go_sem]
  have zcr : w.heap.size + 1 < W0.heap.size := by rw [← hW0]; simp
  have cr0 : W0.cell? ⟨w.heap.size + 1, 0, none⟩ = some (.bool false) := by rw [← hW0]; simp [go_sem]
  have cr1 : W0.cell? ⟨w.heap.size + 1, 1, none⟩ = some (.int .i64 0) := by rw [← hW0]; simp [go_sem]
  have cr2 : W0.cell? ⟨w.heap.size + 1, 2, none⟩ = some (.int .i64 0) := by rw [← hW0]; simp [go_sem]
  have cr3 : W0.cell? ⟨w.heap.size + 1, 3, none⟩ = some (.int .i64 0) := by rw [← hW0]; simp [go_sem]
  have cr4 : W0.cell? ⟨w.heap.size + 1, 4, none⟩ = some (.int .i64 0) := by rw [← hW0]; simp [go_sem]
  have fcr0 : W0.frozen? ⟨w.heap.size + 1, 0, none⟩ = false := by rw [← hW0]; simp [go_sem]
  have fcr1 : W0.frozen? ⟨w.heap.size + 1, 1, none⟩ = false := by rw [← hW0]; simp [go_sem]
  have fcr2 : W0.frozen? ⟨w.heap.size + 1, 2, none⟩ = false := by rw [← hW0]; simp [go_sem]
  have fcr3 : W0.frozen? ⟨w.heap.size + 1, 3, none⟩ = false := by rw [← hW0]; simp [go_sem]
  have fcr4 : W0.frozen? ⟨w.heap.size + 1, 4, none⟩ = false := by rw [← hW0]; simp [go_sem]
  obtain ⟨W1, hW1⟩ : ∃ W, W0.alloc (.cells #[.bool false, .int .i64 0, .int .i64 0, .int .i64 0, .int .i64 0] 87) = W := ⟨_, rfl⟩
  have zct0 := zct
  have zcr0 := zcr
  have b4 : Hid (W1.heap[W0.heap.size]? = some (.cells (slotCells sl0) 87 (0, 0))) := by rw [← hW1]; exact World.alloc_heap_new W0 _
  have hb_W1 : Below W0.heap.size W0 W1 := by rw [← hW1]; exact (Below.refl _ _).alloc (Nat.le_refl _) _
  replace ct0 : W1.cell? ⟨w.heap.size, 0, none⟩ = some (.slice (some ⟨b, off, none⟩) l.length c) := (hb_W1.cell (p := ⟨w.heap.size, 0, none⟩) zct).trans ct0
  replace zct : w.heap.size < W1.heap.size := Nat.lt_of_lt_of_le zct hb_W1.size
  replace cr0 : W1.cell? ⟨w.heap.size + 1, 0, none⟩ = some (.bool false) := (hb_W1.cell (p := ⟨w.heap.size + 1, 0, none⟩) zcr).trans cr0
  replace cr1 : W1.cell? ⟨w.heap.size + 1, 1, none⟩ = some (.int .i64 0) := (hb_W1.cell (p := ⟨w.heap.size + 1, 1, none⟩) zcr).trans cr1
  replace cr2 : W1.cell? ⟨w.heap.size + 1, 2, none⟩ = some (.int .i64 0) := (hb_W1.cell (p := ⟨w.heap.size + 1, 2, none⟩) zcr).trans cr2
  replace cr3 : W1.cell? ⟨w.heap.size + 1, 3, none⟩ = some (.int .i64 0) := (hb_W1.cell (p := ⟨w.heap.size + 1, 3, none⟩) zcr).trans cr3
  replace cr4 : W1.cell? ⟨w.heap.size + 1, 4, none⟩ = some (.int .i64 0) := (hb_W1.cell (p := ⟨w.heap.size + 1, 4, none⟩) zcr).trans cr4
  replace fcr0 : W1.frozen? ⟨w.heap.size + 1, 0, none⟩ = false := (hb_W1.frozen (p := ⟨w.heap.size + 1, 0, none⟩) zcr).trans fcr0
  replace fcr1 : W1.frozen? ⟨w.heap.size + 1, 1, none⟩ = false := (hb_W1.frozen (p := ⟨w.heap.size + 1, 1, none⟩) zcr).trans fcr1
  replace fcr2 : W1.frozen? ⟨w.heap.size + 1, 2, none⟩ = false := (hb_W1.frozen (p := ⟨w.heap.size + 1, 2, none⟩) zcr).trans fcr2
  replace fcr3 : W1.frozen? ⟨w.heap.size + 1, 3, none⟩ = false := (hb_W1.frozen (p := ⟨w.heap.size + 1, 3, none⟩) zcr).trans fcr3
  replace fcr4 : W1.frozen? ⟨w.heap.size + 1, 4, none⟩ = false := (hb_W1.frozen (p := ⟨w.heap.size + 1, 4, none⟩) zcr).trans fcr4
  replace zcr : w.heap.size + 1 < W1.heap.size := Nat.lt_of_lt_of_le zcr hb_W1.size
  replace HB := hide (HB.out.trans (hb_W1.mono HB.out.size))
  clear hb_W1
  have hz4 : W0.heap.size < W1.heap.size := by rw [← hW1]; simp
  have HBW := HB
  go_enter Try.func72, Try.ntmps72
  go_wp2
  go_loopw [10] (fun i wr => ∃ k : Nat, k ≤ l.length ∧ i = .int .i64 k ∧ Hid (wr.heap[W0.heap.size]? = some (.cells (slotCells (soonTo l k)) 87 (0, 0))) ∧ Hid (Below W0.heap.size W1 wr))
    (fun i _ => l.length - (intOf i).toNat)
  case atStart => exact ⟨0, Nat.zero_le _, rfl, b4, Below.refl _ _⟩
  case round =>
  obtain ⟨k, hk, rfl, hq, HBr⟩ := hrel
  have hszr : W1.heap.size ≤ wr.heap.size := HBr.out.size
  obtain ⟨q, hqq⟩ : ∃ q, soonTo l k = q := ⟨_, rfl⟩
  rw [hqq] at hq
  replace ct0 : wr.cell? ⟨w.heap.size, 0, none⟩ = some (.slice (some ⟨b, off, none⟩) l.length c) := (HBr.out.cell (p := ⟨w.heap.size, 0, none⟩) zct0).trans ct0
  replace zct : w.heap.size < wr.heap.size := by omega
  replace cr0 : wr.cell? ⟨w.heap.size + 1, 0, none⟩ = some (.bool false) := (HBr.out.cell (p := ⟨w.heap.size + 1, 0, none⟩) zcr0).trans cr0
  replace cr1 : wr.cell? ⟨w.heap.size + 1, 1, none⟩ = some (.int .i64 0) := (HBr.out.cell (p := ⟨w.heap.size + 1, 1, none⟩) zcr0).trans cr1
  replace cr2 : wr.cell? ⟨w.heap.size + 1, 2, none⟩ = some (.int .i64 0) := (HBr.out.cell (p := ⟨w.heap.size + 1, 2, none⟩) zcr0).trans cr2
  replace cr3 : wr.cell? ⟨w.heap.size + 1, 3, none⟩ = some (.int .i64 0) := (HBr.out.cell (p := ⟨w.heap.size + 1, 3, none⟩) zcr0).trans cr3
  replace cr4 : wr.cell? ⟨w.heap.size + 1, 4, none⟩ = some (.int .i64 0) := (HBr.out.cell (p := ⟨w.heap.size + 1, 4, none⟩) zcr0).trans cr4
  replace fcr0 : wr.frozen? ⟨w.heap.size + 1, 0, none⟩ = false := (HBr.out.frozen (p := ⟨w.heap.size + 1, 0, none⟩) zcr0).trans fcr0
  replace fcr1 : wr.frozen? ⟨w.heap.size + 1, 1, none⟩ = false := (HBr.out.frozen (p := ⟨w.heap.size + 1, 1, none⟩) zcr0).trans fcr1
  replace fcr2 : wr.frozen? ⟨w.heap.size + 1, 2, none⟩ = false := (HBr.out.frozen (p := ⟨w.heap.size + 1, 2, none⟩) zcr0).trans fcr2
  replace fcr3 : wr.frozen? ⟨w.heap.size + 1, 3, none⟩ = false := (HBr.out.frozen (p := ⟨w.heap.size + 1, 3, none⟩) zcr0).trans fcr3
  replace fcr4 : wr.frozen? ⟨w.heap.size + 1, 4, none⟩ = false := (HBr.out.frozen (p := ⟨w.heap.size + 1, 4, none⟩) zcr0).trans fcr4
  replace zcr : w.heap.size + 1 < wr.heap.size := by omega
  have zq : W0.heap.size < wr.heap.size := by omega
  have hw0 : w.heap.size ≤ W0.heap.size := by omega
  have HB2 := hide (HBW.out.trans (HBr.out.mono hw0))
  by_cases hlt : k < l.length
  · skip
    have hcx := RdL.slot (C := w.heap.size) HC.out k hlt
    have HSu := hide (soonTo_succ hlt)
    rw [hqq] at HSu
    obtain ⟨s, hxy⟩ : ∃ s, l.getD k sl0 = s := ⟨_, rfl⟩
    rw [hxy] at hcx HSu
    have e0 := (HB2.out.cell (p := ⟨b, off + k * 5, none⟩) hbl).trans hcx.1
    have e1 := (HB2.out.cell (p := ⟨b, off + k * 5 + 1, none⟩) hbl).trans hcx.2.1
    have e2 := (HB2.out.cell (p := ⟨b, off + k * 5 + 2, none⟩) hbl).trans hcx.2.2.1
    have e3 := (HB2.out.cell (p := ⟨b, off + k * 5 + 3, none⟩) hbl).trans hcx.2.2.2.1
    have e4 := (HB2.out.cell (p := ⟨b, off + k * 5 + 4, none⟩) hbl).trans hcx.2.2.2.2
    have hk' : (k : Int) < (l.length : Int) := by omega
    clear hcx hxy hqq
    obtain ⟨W2, hW2⟩ : ∃ W, wr.alloc (.cells (slotCells s) 87) = W := ⟨_, rfl⟩
    have hb2 : Below wr.heap.size wr W2 := by rw [← hW2]; exact (Below.refl _ _).alloc (Nat.le_refl _) _
    have HQ : Hid (W2.heap[W0.heap.size]? = some (.cells (slotCells q) 87 (0, 0))) := (hb2.block _ zq).trans hq.out
    have HBr2 := hide (HBr.out.trans (hb2.mono (Nat.le_of_lt zq)))
    have hs2 : W2.heap[wr.heap.size]? = some (.cells (slotCells s) 87 (0, 0)) := by rw [← hW2]; exact World.alloc_heap_new wr _
    have s0 : W2.cell? ⟨wr.heap.size, 0, none⟩ = some (.bool s.u) := block_cell1 hs2 0 _ rfl
    have s1 : W2.cell? ⟨wr.heap.size, 1, none⟩ = some (.int .i64 s.a) := block_cell1 hs2 1 _ rfl
    have s2 : W2.cell? ⟨wr.heap.size, 2, none⟩ = some (.int .i64 s.p) := block_cell1 hs2 2 _ rfl
    have s3 : W2.cell? ⟨wr.heap.size, 3, none⟩ = some (.int .i64 s.v) := block_cell1 hs2 3 _ rfl
    have s4 : W2.cell? ⟨wr.heap.size, 4, none⟩ = some (.int .i64 s.t) := block_cell1 hs2 4 _ rfl
    have q0 : W2.cell? ⟨W0.heap.size, 0, none⟩ = some (.bool q.u) := block_cell1 HQ.out 0 _ rfl
    have q1 : W2.cell? ⟨W0.heap.size, 1, none⟩ = some (.int .i64 q.a) := block_cell1 HQ.out 1 _ rfl
    have q2 : W2.cell? ⟨W0.heap.size, 2, none⟩ = some (.int .i64 q.p) := block_cell1 HQ.out 2 _ rfl
    have q3 : W2.cell? ⟨W0.heap.size, 3, none⟩ = some (.int .i64 q.v) := block_cell1 HQ.out 3 _ rfl
    have q4 : W2.cell? ⟨W0.heap.size, 4, none⟩ = some (.int .i64 q.t) := block_cell1 HQ.out 4 _ rfl
    have fq0 := frozen_of HQ.out 0
    have fq1 := frozen_of HQ.out 1
    have fq2 := frozen_of HQ.out 2
    have fq3 := frozen_of HQ.out 3
    have fq4 := frozen_of HQ.out 4
    clear hs2 hb2 hq cr0 fcr0 cr1 fcr1 cr2 fcr2 cr3 fcr3 cr4 fcr4 ct0
    obtain ⟨su, sa, sp, sv, st⟩ := s
    obtain ⟨qu, qa, qp, qv, qt⟩ := q
    simp only at e0 e1 e2 e3 e4 q0 q1 q2 q3 q4 s0 s1 s2 s3 s4 hW2
    cases su with
    | false =>
      have HN := hide (HSu.out.trans (soonStep_free rfl))
      clear HSu
      go_wp2
      go_roundw
      case rel => exact ⟨k + 1, hlt, by go_num, (by unfold Hid; rw [HN.out]; exact HQ.out), HBr2⟩
      case measure => simp [intOf]; omega
    | true =>
      cases qu with
      | false =>
        have HN := hide (HSu.out.trans (soonStep_first rfl rfl))
        clear HSu
        go_wp2
        go_roundw
        case rel => exact ⟨k + 1, hlt, by go_num, (by unfold Hid; rw [HN.out]; exact box_set5 (s := ⟨true, sa, sp, sv, st⟩) HQ.out), below_set5 (s := ⟨true, sa, sp, sv, st⟩) HBr2.out (Nat.le_refl _)⟩
        case measure => simp [intOf]; omega
      | true =>
        by_cases hlq : st < qt
        · have HN := hide (HSu.out.trans (soonStep_less rfl hlq))
          clear HSu
          go_wp2
          go_roundw
          case rel => exact ⟨k + 1, hlt, by go_num, (by unfold Hid; rw [HN.out]; exact box_set5 (s := ⟨true, sa, sp, sv, st⟩) HQ.out), below_set5 (s := ⟨true, sa, sp, sv, st⟩) HBr2.out (Nat.le_refl _)⟩
          case measure => simp [intOf]; omega
        · have hdq : decide (st < qt) = false := decide_eq_false hlq
          have HN := hide (HSu.out.trans (soonStep_more rfl hlq))
          clear HSu
          go_wp2
          go_roundw
          case rel => exact ⟨k + 1, hlt, by go_num, (by unfold Hid; rw [HN.out]; exact HQ.out), HBr2⟩
          case measure => simp [intOf]; omega
  · skip
    have e : k = l.length := by omega
    subst e
    have HE := hide (show soonL l = q from hqq)
    have q0 : wr.cell? ⟨W0.heap.size, 0, none⟩ = some (.bool q.u) := block_cell1 hq.out 0 _ rfl
    have q1 : wr.cell? ⟨W0.heap.size, 1, none⟩ = some (.int .i64 q.a) := block_cell1 hq.out 1 _ rfl
    have q2 : wr.cell? ⟨W0.heap.size, 2, none⟩ = some (.int .i64 q.p) := block_cell1 hq.out 2 _ rfl
    have q3 : wr.cell? ⟨W0.heap.size, 3, none⟩ = some (.int .i64 q.v) := block_cell1 hq.out 3 _ rfl
    have q4 : wr.cell? ⟨W0.heap.size, 4, none⟩ = some (.int .i64 q.t) := block_cell1 hq.out 4 _ rfl
    have fq0 := frozen_of hq.out 0
    have fq1 := frozen_of hq.out 1
    have fq2 := frozen_of hq.out 2
    have fq3 := frozen_of hq.out 3
    have fq4 := frozen_of hq.out 4
    clear hq hqq
    go_wp2
    go_region
    go_wp2
    refine bodyPost_ret (v := .tuple #[slot q, .bool q.u]) (by simp [results, Try.results72, go_sem, cr0, cr1, cr2, cr3, cr4]) rfl ⟨by rw [HE.out], ?_⟩
    exact below_set5 (s := q) (Below.drew HB2.out) (show w.heap.size ≤ w.heap.size + 1 by omega)

set_option maxHeartbeats 2000000 in
theorem implSoonest_any (o : Option Addr) (c : Nat) (l : List Sl) (w : World) (hR : RdS w.heap.size w o l) (hl : l.length ≤ 1048576) :
    Calls Try.prog 31 #[tab (.slice o l.length c)] w fun e w' => e = .returned (.tuple #[slot (soonM l), .bool (soonM l).u]) ∧ Below w.heap.size w w' := by
  obtain ⟨W0, hW0⟩ : ∃ W, ((w.alloc (.cells #[.slice o l.length c] 25)).alloc (.cells #[.bool false, .int .i64 0, .int .i64 0, .int .i64 0, .int .i64 0] 35)) = W := ⟨_, rfl⟩
  have hb_W0 : Below w.heap.size w W0 := by rw [← hW0]; exact (((Below.refl _ _).alloc (Nat.le_refl _) _).alloc (by simp <;> omega) _)
  have HB := hide hb_W0
  clear hb_W0
  have zct : w.heap.size < W0.heap.size := by rw [← hW0]; simp <;> omega
  have ct0 : W0.cell? ⟨w.heap.size, 0, none⟩ = some (.slice o l.length c) := by rw [← hW0]; simp [go_sem]
  have zcr : w.heap.size + 1 < W0.heap.size := by rw [← hW0]; simp
  have cr0 : W0.cell? ⟨w.heap.size + 1, 0, none⟩ = some (.bool false) := by rw [← hW0]; simp [go_sem]
  have cr1 : W0.cell? ⟨w.heap.size + 1, 1, none⟩ = some (.int .i64 0) := by rw [← hW0]; simp [go_sem]
  have cr2 : W0.cell? ⟨w.heap.size + 1, 2, none⟩ = some (.int .i64 0) := by rw [← hW0]; simp [go_sem]
  have cr3 : W0.cell? ⟨w.heap.size + 1, 3, none⟩ = some (.int .i64 0) := by rw [← hW0]; simp [go_sem]
  have cr4 : W0.cell? ⟨w.heap.size + 1, 4, none⟩ = some (.int .i64 0) := by rw [← hW0]; simp [go_sem]
  have fcr0 : W0.frozen? ⟨w.heap.size + 1, 0, none⟩ = false := by rw [← hW0]; simp [go_sem]
  have fcr1 : W0.frozen? ⟨w.heap.size + 1, 1, none⟩ = false := by rw [← hW0]; simp [go_sem]
  have fcr2 : W0.frozen? ⟨w.heap.size + 1, 2, none⟩ = false := by rw [← hW0]; simp [go_sem]
  have fcr3 : W0.frozen? ⟨w.heap.size + 1, 3, none⟩ = false := by rw [← hW0]; simp [go_sem]
  have fcr4 : W0.frozen? ⟨w.heap.size + 1, 4, none⟩ = false := by rw [← hW0]; simp [go_sem]
  have hc := tableFrom_any o c l W0 ((hR.kept HB.out (Nat.le_refl _)).le HB.out.size) hl
  cases hT : tableOkB l with
  | false =>
    have HM := hide (show soonM l = sl0 by unfold soonM; rw [hT]; rfl)
    rw [hT] at hc
    go_enter Try.func31, Try.ntmps31
    go_wp2_with fail
    refine (hc).mono ?_
    rintro e v1 ⟨o', n', c', rfl, hv, hb⟩
    replace ct0 : v1.cell? ⟨w.heap.size, 0, none⟩ = some (.slice o l.length c) := (hb.cell (p := ⟨w.heap.size, 0, none⟩) zct).trans ct0
    replace zct : w.heap.size < v1.heap.size := Nat.lt_of_lt_of_le zct hb.size
    replace cr0 : v1.cell? ⟨w.heap.size + 1, 0, none⟩ = some (.bool false) := (hb.cell (p := ⟨w.heap.size + 1, 0, none⟩) zcr).trans cr0
    replace cr1 : v1.cell? ⟨w.heap.size + 1, 1, none⟩ = some (.int .i64 0) := (hb.cell (p := ⟨w.heap.size + 1, 1, none⟩) zcr).trans cr1
    replace cr2 : v1.cell? ⟨w.heap.size + 1, 2, none⟩ = some (.int .i64 0) := (hb.cell (p := ⟨w.heap.size + 1, 2, none⟩) zcr).trans cr2
    replace cr3 : v1.cell? ⟨w.heap.size + 1, 3, none⟩ = some (.int .i64 0) := (hb.cell (p := ⟨w.heap.size + 1, 3, none⟩) zcr).trans cr3
    replace cr4 : v1.cell? ⟨w.heap.size + 1, 4, none⟩ = some (.int .i64 0) := (hb.cell (p := ⟨w.heap.size + 1, 4, none⟩) zcr).trans cr4
    replace fcr0 : v1.frozen? ⟨w.heap.size + 1, 0, none⟩ = false := (hb.frozen (p := ⟨w.heap.size + 1, 0, none⟩) zcr).trans fcr0
    replace fcr1 : v1.frozen? ⟨w.heap.size + 1, 1, none⟩ = false := (hb.frozen (p := ⟨w.heap.size + 1, 1, none⟩) zcr).trans fcr1
    replace fcr2 : v1.frozen? ⟨w.heap.size + 1, 2, none⟩ = false := (hb.frozen (p := ⟨w.heap.size + 1, 2, none⟩) zcr).trans fcr2
    replace fcr3 : v1.frozen? ⟨w.heap.size + 1, 3, none⟩ = false := (hb.frozen (p := ⟨w.heap.size + 1, 3, none⟩) zcr).trans fcr3
    replace fcr4 : v1.frozen? ⟨w.heap.size + 1, 4, none⟩ = false := (hb.frozen (p := ⟨w.heap.size + 1, 4, none⟩) zcr).trans fcr4
    replace zcr : w.heap.size + 1 < v1.heap.size := Nat.lt_of_lt_of_le zcr hb.size
    replace HB := hide (HB.out.trans (hb.mono HB.out.size))
    clear hb
    obtain ⟨W2, hW2⟩ : ∃ W, (v1.alloc (.cells #[.slice o' n' c'] 78)) = W := ⟨_, rfl⟩
    have hb_W2 : Below v1.heap.size v1 W2 := by rw [← hW2]; exact ((Below.refl _ _).alloc (Nat.le_refl _) _)
    replace ct0 : W2.cell? ⟨w.heap.size, 0, none⟩ = some (.slice o l.length c) := (hb_W2.cell (p := ⟨w.heap.size, 0, none⟩) zct).trans ct0
    replace zct : w.heap.size < W2.heap.size := Nat.lt_of_lt_of_le zct hb_W2.size
    replace cr0 : W2.cell? ⟨w.heap.size + 1, 0, none⟩ = some (.bool false) := (hb_W2.cell (p := ⟨w.heap.size + 1, 0, none⟩) zcr).trans cr0
    replace cr1 : W2.cell? ⟨w.heap.size + 1, 1, none⟩ = some (.int .i64 0) := (hb_W2.cell (p := ⟨w.heap.size + 1, 1, none⟩) zcr).trans cr1
    replace cr2 : W2.cell? ⟨w.heap.size + 1, 2, none⟩ = some (.int .i64 0) := (hb_W2.cell (p := ⟨w.heap.size + 1, 2, none⟩) zcr).trans cr2
    replace cr3 : W2.cell? ⟨w.heap.size + 1, 3, none⟩ = some (.int .i64 0) := (hb_W2.cell (p := ⟨w.heap.size + 1, 3, none⟩) zcr).trans cr3
    replace cr4 : W2.cell? ⟨w.heap.size + 1, 4, none⟩ = some (.int .i64 0) := (hb_W2.cell (p := ⟨w.heap.size + 1, 4, none⟩) zcr).trans cr4
    replace fcr0 : W2.frozen? ⟨w.heap.size + 1, 0, none⟩ = false := (hb_W2.frozen (p := ⟨w.heap.size + 1, 0, none⟩) zcr).trans fcr0
    replace fcr1 : W2.frozen? ⟨w.heap.size + 1, 1, none⟩ = false := (hb_W2.frozen (p := ⟨w.heap.size + 1, 1, none⟩) zcr).trans fcr1
    replace fcr2 : W2.frozen? ⟨w.heap.size + 1, 2, none⟩ = false := (hb_W2.frozen (p := ⟨w.heap.size + 1, 2, none⟩) zcr).trans fcr2
    replace fcr3 : W2.frozen? ⟨w.heap.size + 1, 3, none⟩ = false := (hb_W2.frozen (p := ⟨w.heap.size + 1, 3, none⟩) zcr).trans fcr3
    replace fcr4 : W2.frozen? ⟨w.heap.size + 1, 4, none⟩ = false := (hb_W2.frozen (p := ⟨w.heap.size + 1, 4, none⟩) zcr).trans fcr4
    replace zcr : w.heap.size + 1 < W2.heap.size := Nat.lt_of_lt_of_le zcr hb_W2.size
    replace HB := hide (HB.out.trans (hb_W2.mono HB.out.size))
    clear hb_W2
    have zck : v1.heap.size < W2.heap.size := by rw [← hW2]; simp
    have ck0 : W2.cell? ⟨v1.heap.size, 0, none⟩ = some (.slice o' n' c') := by rw [← hW2]; simp [go_sem]
    clear hc hv hT
    go_wp2
    refine bodyPost_ret (v := .tuple #[slot sl0, .bool false]) (by simp [results, Try.results31, go_sem, cr0, cr1, cr2, cr3, cr4]) rfl ⟨by rw [HM.out], below_set5 (s := sl0) HB.out (by omega)⟩
  | true =>
    have HM := hide (show soonM l = soonL l by unfold soonM; rw [hT]; rfl)
    rw [hT] at hc
    go_enter Try.func31, Try.ntmps31
    go_wp2_with fail
    refine (hc).mono ?_
    rintro e v1 ⟨o', n', c', rfl, hv, hb⟩
    obtain ⟨g, rfl, rfl, rfl, hown⟩ := hv (by simp)
    have HO := hide hown
    clear hown hv
    replace ct0 : v1.cell? ⟨w.heap.size, 0, none⟩ = some (.slice o l.length c) := (hb.cell (p := ⟨w.heap.size, 0, none⟩) zct).trans ct0
    replace zct : w.heap.size < v1.heap.size := Nat.lt_of_lt_of_le zct hb.size
    replace cr0 : v1.cell? ⟨w.heap.size + 1, 0, none⟩ = some (.bool false) := (hb.cell (p := ⟨w.heap.size + 1, 0, none⟩) zcr).trans cr0
    replace cr1 : v1.cell? ⟨w.heap.size + 1, 1, none⟩ = some (.int .i64 0) := (hb.cell (p := ⟨w.heap.size + 1, 1, none⟩) zcr).trans cr1
    replace cr2 : v1.cell? ⟨w.heap.size + 1, 2, none⟩ = some (.int .i64 0) := (hb.cell (p := ⟨w.heap.size + 1, 2, none⟩) zcr).trans cr2
    replace cr3 : v1.cell? ⟨w.heap.size + 1, 3, none⟩ = some (.int .i64 0) := (hb.cell (p := ⟨w.heap.size + 1, 3, none⟩) zcr).trans cr3
    replace cr4 : v1.cell? ⟨w.heap.size + 1, 4, none⟩ = some (.int .i64 0) := (hb.cell (p := ⟨w.heap.size + 1, 4, none⟩) zcr).trans cr4
    replace fcr0 : v1.frozen? ⟨w.heap.size + 1, 0, none⟩ = false := (hb.frozen (p := ⟨w.heap.size + 1, 0, none⟩) zcr).trans fcr0
    replace fcr1 : v1.frozen? ⟨w.heap.size + 1, 1, none⟩ = false := (hb.frozen (p := ⟨w.heap.size + 1, 1, none⟩) zcr).trans fcr1
    replace fcr2 : v1.frozen? ⟨w.heap.size + 1, 2, none⟩ = false := (hb.frozen (p := ⟨w.heap.size + 1, 2, none⟩) zcr).trans fcr2
    replace fcr3 : v1.frozen? ⟨w.heap.size + 1, 3, none⟩ = false := (hb.frozen (p := ⟨w.heap.size + 1, 3, none⟩) zcr).trans fcr3
    replace fcr4 : v1.frozen? ⟨w.heap.size + 1, 4, none⟩ = false := (hb.frozen (p := ⟨w.heap.size + 1, 4, none⟩) zcr).trans fcr4
    replace zcr : w.heap.size + 1 < v1.heap.size := Nat.lt_of_lt_of_le zcr hb.size
    replace HB := hide (HB.out.trans (hb.mono HB.out.size))
    clear hb
    obtain ⟨W2, hW2⟩ : ∃ W, (v1.alloc (.cells #[.slice (some ⟨g, 0, none⟩) l.length l.length] 78)) = W := ⟨_, rfl⟩
    have hb_W2 : Below v1.heap.size v1 W2 := by rw [← hW2]; exact ((Below.refl _ _).alloc (Nat.le_refl _) _)
    replace ct0 : W2.cell? ⟨w.heap.size, 0, none⟩ = some (.slice o l.length c) := (hb_W2.cell (p := ⟨w.heap.size, 0, none⟩) zct).trans ct0
    replace zct : w.heap.size < W2.heap.size := Nat.lt_of_lt_of_le zct hb_W2.size
    replace cr0 : W2.cell? ⟨w.heap.size + 1, 0, none⟩ = some (.bool false) := (hb_W2.cell (p := ⟨w.heap.size + 1, 0, none⟩) zcr).trans cr0
    replace cr1 : W2.cell? ⟨w.heap.size + 1, 1, none⟩ = some (.int .i64 0) := (hb_W2.cell (p := ⟨w.heap.size + 1, 1, none⟩) zcr).trans cr1
    replace cr2 : W2.cell? ⟨w.heap.size + 1, 2, none⟩ = some (.int .i64 0) := (hb_W2.cell (p := ⟨w.heap.size + 1, 2, none⟩) zcr).trans cr2
    replace cr3 : W2.cell? ⟨w.heap.size + 1, 3, none⟩ = some (.int .i64 0) := (hb_W2.cell (p := ⟨w.heap.size + 1, 3, none⟩) zcr).trans cr3
    replace cr4 : W2.cell? ⟨w.heap.size + 1, 4, none⟩ = some (.int .i64 0) := (hb_W2.cell (p := ⟨w.heap.size + 1, 4, none⟩) zcr).trans cr4
    replace fcr0 : W2.frozen? ⟨w.heap.size + 1, 0, none⟩ = false := (hb_W2.frozen (p := ⟨w.heap.size + 1, 0, none⟩) zcr).trans fcr0
    replace fcr1 : W2.frozen? ⟨w.heap.size + 1, 1, none⟩ = false := (hb_W2.frozen (p := ⟨w.heap.size + 1, 1, none⟩) zcr).trans fcr1
    replace fcr2 : W2.frozen? ⟨w.heap.size + 1, 2, none⟩ = false := (hb_W2.frozen (p := ⟨w.heap.size + 1, 2, none⟩) zcr).trans fcr2
    replace fcr3 : W2.frozen? ⟨w.heap.size + 1, 3, none⟩ = false := (hb_W2.frozen (p := ⟨w.heap.size + 1, 3, none⟩) zcr).trans fcr3
    replace fcr4 : W2.frozen? ⟨w.heap.size + 1, 4, none⟩ = false := (hb_W2.frozen (p := ⟨w.heap.size + 1, 4, none⟩) zcr).trans fcr4
    replace zcr : w.heap.size + 1 < W2.heap.size := Nat.lt_of_lt_of_le zcr hb_W2.size
    replace HO := hide (own_kept HO.out hb_W2)
    replace HB := hide (HB.out.trans (hb_W2.mono HB.out.size))
    clear hb_W2
    have zck : v1.heap.size < W2.heap.size := by rw [← hW2]; simp
    have ck0 : W2.cell? ⟨v1.heap.size, 0, none⟩ = some (.slice (some ⟨g, 0, none⟩) l.length l.length) := by rw [← hW2]; simp [go_sem]
    go_wp2_with fail
    refine (soonestOf_any g 0 l.length l W2 (HO.out.lt g rfl).2 (rd_of_own HO.out rfl) hl).mono ?_
    rintro e v2 ⟨rfl, hb⟩
    replace ct0 : v2.cell? ⟨w.heap.size, 0, none⟩ = some (.slice o l.length c) := (hb.cell (p := ⟨w.heap.size, 0, none⟩) zct).trans ct0
    replace zct : w.heap.size < v2.heap.size := Nat.lt_of_lt_of_le zct hb.size
    replace cr0 : v2.cell? ⟨w.heap.size + 1, 0, none⟩ = some (.bool false) := (hb.cell (p := ⟨w.heap.size + 1, 0, none⟩) zcr).trans cr0
    replace cr1 : v2.cell? ⟨w.heap.size + 1, 1, none⟩ = some (.int .i64 0) := (hb.cell (p := ⟨w.heap.size + 1, 1, none⟩) zcr).trans cr1
    replace cr2 : v2.cell? ⟨w.heap.size + 1, 2, none⟩ = some (.int .i64 0) := (hb.cell (p := ⟨w.heap.size + 1, 2, none⟩) zcr).trans cr2
    replace cr3 : v2.cell? ⟨w.heap.size + 1, 3, none⟩ = some (.int .i64 0) := (hb.cell (p := ⟨w.heap.size + 1, 3, none⟩) zcr).trans cr3
    replace cr4 : v2.cell? ⟨w.heap.size + 1, 4, none⟩ = some (.int .i64 0) := (hb.cell (p := ⟨w.heap.size + 1, 4, none⟩) zcr).trans cr4
    replace fcr0 : v2.frozen? ⟨w.heap.size + 1, 0, none⟩ = false := (hb.frozen (p := ⟨w.heap.size + 1, 0, none⟩) zcr).trans fcr0
    replace fcr1 : v2.frozen? ⟨w.heap.size + 1, 1, none⟩ = false := (hb.frozen (p := ⟨w.heap.size + 1, 1, none⟩) zcr).trans fcr1
    replace fcr2 : v2.frozen? ⟨w.heap.size + 1, 2, none⟩ = false := (hb.frozen (p := ⟨w.heap.size + 1, 2, none⟩) zcr).trans fcr2
    replace fcr3 : v2.frozen? ⟨w.heap.size + 1, 3, none⟩ = false := (hb.frozen (p := ⟨w.heap.size + 1, 3, none⟩) zcr).trans fcr3
    replace fcr4 : v2.frozen? ⟨w.heap.size + 1, 4, none⟩ = false := (hb.frozen (p := ⟨w.heap.size + 1, 4, none⟩) zcr).trans fcr4
    replace zcr : w.heap.size + 1 < v2.heap.size := Nat.lt_of_lt_of_le zcr hb.size
    replace ck0 : v2.cell? ⟨v1.heap.size, 0, none⟩ = some (.slice (some ⟨g, 0, none⟩) l.length l.length) := (hb.cell (p := ⟨v1.heap.size, 0, none⟩) zck).trans ck0
    replace zck : v1.heap.size < v2.heap.size := Nat.lt_of_lt_of_le zck hb.size
    replace HO := hide (own_kept HO.out hb)
    replace HB := hide (HB.out.trans (hb.mono HB.out.size))
    clear hb
    clear hc hT
    obtain ⟨q, hq⟩ : ∃ q, soonL l = q := ⟨_, rfl⟩
    have HQ := hide hq
    simp only [hq]
    clear hq
    obtain ⟨W3, hW3⟩ : ∃ W, (v2.alloc (.cells #[.bool q.u, .int .i64 q.a, .int .i64 q.p, .int .i64 q.v, .int .i64 q.t] 87)) = W := ⟨_, rfl⟩
    have hb_W3 : Below v2.heap.size v2 W3 := by rw [← hW3]; exact ((Below.refl _ _).alloc (Nat.le_refl _) _)
    replace ct0 : W3.cell? ⟨w.heap.size, 0, none⟩ = some (.slice o l.length c) := (hb_W3.cell (p := ⟨w.heap.size, 0, none⟩) zct).trans ct0
    replace zct : w.heap.size < W3.heap.size := Nat.lt_of_lt_of_le zct hb_W3.size
    replace cr0 : W3.cell? ⟨w.heap.size + 1, 0, none⟩ = some (.bool false) := (hb_W3.cell (p := ⟨w.heap.size + 1, 0, none⟩) zcr).trans cr0
    replace cr1 : W3.cell? ⟨w.heap.size + 1, 1, none⟩ = some (.int .i64 0) := (hb_W3.cell (p := ⟨w.heap.size + 1, 1, none⟩) zcr).trans cr1
    replace cr2 : W3.cell? ⟨w.heap.size + 1, 2, none⟩ = some (.int .i64 0) := (hb_W3.cell (p := ⟨w.heap.size + 1, 2, none⟩) zcr).trans cr2
    replace cr3 : W3.cell? ⟨w.heap.size + 1, 3, none⟩ = some (.int .i64 0) := (hb_W3.cell (p := ⟨w.heap.size + 1, 3, none⟩) zcr).trans cr3
    replace cr4 : W3.cell? ⟨w.heap.size + 1, 4, none⟩ = some (.int .i64 0) := (hb_W3.cell (p := ⟨w.heap.size + 1, 4, none⟩) zcr).trans cr4
    replace fcr0 : W3.frozen? ⟨w.heap.size + 1, 0, none⟩ = false := (hb_W3.frozen (p := ⟨w.heap.size + 1, 0, none⟩) zcr).trans fcr0
    replace fcr1 : W3.frozen? ⟨w.heap.size + 1, 1, none⟩ = false := (hb_W3.frozen (p := ⟨w.heap.size + 1, 1, none⟩) zcr).trans fcr1
    replace fcr2 : W3.frozen? ⟨w.heap.size + 1, 2, none⟩ = false := (hb_W3.frozen (p := ⟨w.heap.size + 1, 2, none⟩) zcr).trans fcr2
    replace fcr3 : W3.frozen? ⟨w.heap.size + 1, 3, none⟩ = false := (hb_W3.frozen (p := ⟨w.heap.size + 1, 3, none⟩) zcr).trans fcr3
    replace fcr4 : W3.frozen? ⟨w.heap.size + 1, 4, none⟩ = false := (hb_W3.frozen (p := ⟨w.heap.size + 1, 4, none⟩) zcr).trans fcr4
    replace zcr : w.heap.size + 1 < W3.heap.size := Nat.lt_of_lt_of_le zcr hb_W3.size
    replace ck0 : W3.cell? ⟨v1.heap.size, 0, none⟩ = some (.slice (some ⟨g, 0, none⟩) l.length l.length) := (hb_W3.cell (p := ⟨v1.heap.size, 0, none⟩) zck).trans ck0
    replace zck : v1.heap.size < W3.heap.size := Nat.lt_of_lt_of_le zck hb_W3.size
    replace HO := hide (own_kept HO.out hb_W3)
    replace HB := hide (HB.out.trans (hb_W3.mono HB.out.size))
    clear hb_W3
    have zcq : v2.heap.size < W3.heap.size := by rw [← hW3]; simp
    have cq0 : W3.cell? ⟨v2.heap.size, 0, none⟩ = some (.bool q.u) := by rw [← hW3]; simp [go_sem]
    have cq1 : W3.cell? ⟨v2.heap.size, 1, none⟩ = some (.int .i64 q.a) := by rw [← hW3]; simp [go_sem]
    have cq2 : W3.cell? ⟨v2.heap.size, 2, none⟩ = some (.int .i64 q.p) := by rw [← hW3]; simp [go_sem]
    have cq3 : W3.cell? ⟨v2.heap.size, 3, none⟩ = some (.int .i64 q.v) := by rw [← hW3]; simp [go_sem]
    have cq4 : W3.cell? ⟨v2.heap.size, 4, none⟩ = some (.int .i64 q.t) := by rw [← hW3]; simp [go_sem]
    go_wp2_with fail
    refine (slotOf_any q W3).mono ?_
    rintro e v3 ⟨rfl, hb⟩
    replace ct0 : v3.cell? ⟨w.heap.size, 0, none⟩ = some (.slice o l.length c) := (hb.cell (p := ⟨w.heap.size, 0, none⟩) zct).trans ct0
    replace zct : w.heap.size < v3.heap.size := Nat.lt_of_lt_of_le zct hb.size
    replace cr0 : v3.cell? ⟨w.heap.size + 1, 0, none⟩ = some (.bool false) := (hb.cell (p := ⟨w.heap.size + 1, 0, none⟩) zcr).trans cr0
    replace cr1 : v3.cell? ⟨w.heap.size + 1, 1, none⟩ = some (.int .i64 0) := (hb.cell (p := ⟨w.heap.size + 1, 1, none⟩) zcr).trans cr1
    replace cr2 : v3.cell? ⟨w.heap.size + 1, 2, none⟩ = some (.int .i64 0) := (hb.cell (p := ⟨w.heap.size + 1, 2, none⟩) zcr).trans cr2
    replace cr3 : v3.cell? ⟨w.heap.size + 1, 3, none⟩ = some (.int .i64 0) := (hb.cell (p := ⟨w.heap.size + 1, 3, none⟩) zcr).trans cr3
    replace cr4 : v3.cell? ⟨w.heap.size + 1, 4, none⟩ = some (.int .i64 0) := (hb.cell (p := ⟨w.heap.size + 1, 4, none⟩) zcr).trans cr4
    replace fcr0 : v3.frozen? ⟨w.heap.size + 1, 0, none⟩ = false := (hb.frozen (p := ⟨w.heap.size + 1, 0, none⟩) zcr).trans fcr0
    replace fcr1 : v3.frozen? ⟨w.heap.size + 1, 1, none⟩ = false := (hb.frozen (p := ⟨w.heap.size + 1, 1, none⟩) zcr).trans fcr1
    replace fcr2 : v3.frozen? ⟨w.heap.size + 1, 2, none⟩ = false := (hb.frozen (p := ⟨w.heap.size + 1, 2, none⟩) zcr).trans fcr2
    replace fcr3 : v3.frozen? ⟨w.heap.size + 1, 3, none⟩ = false := (hb.frozen (p := ⟨w.heap.size + 1, 3, none⟩) zcr).trans fcr3
    replace fcr4 : v3.frozen? ⟨w.heap.size + 1, 4, none⟩ = false := (hb.frozen (p := ⟨w.heap.size + 1, 4, none⟩) zcr).trans fcr4
    replace zcr : w.heap.size + 1 < v3.heap.size := Nat.lt_of_lt_of_le zcr hb.size
    replace ck0 : v3.cell? ⟨v1.heap.size, 0, none⟩ = some (.slice (some ⟨g, 0, none⟩) l.length l.length) := (hb.cell (p := ⟨v1.heap.size, 0, none⟩) zck).trans ck0
    replace zck : v1.heap.size < v3.heap.size := Nat.lt_of_lt_of_le zck hb.size
    replace cq0 : v3.cell? ⟨v2.heap.size, 0, none⟩ = some (.bool q.u) := (hb.cell (p := ⟨v2.heap.size, 0, none⟩) zcq).trans cq0
    replace cq1 : v3.cell? ⟨v2.heap.size, 1, none⟩ = some (.int .i64 q.a) := (hb.cell (p := ⟨v2.heap.size, 1, none⟩) zcq).trans cq1
    replace cq2 : v3.cell? ⟨v2.heap.size, 2, none⟩ = some (.int .i64 q.p) := (hb.cell (p := ⟨v2.heap.size, 2, none⟩) zcq).trans cq2
    replace cq3 : v3.cell? ⟨v2.heap.size, 3, none⟩ = some (.int .i64 q.v) := (hb.cell (p := ⟨v2.heap.size, 3, none⟩) zcq).trans cq3
    replace cq4 : v3.cell? ⟨v2.heap.size, 4, none⟩ = some (.int .i64 q.t) := (hb.cell (p := ⟨v2.heap.size, 4, none⟩) zcq).trans cq4
    replace zcq : v2.heap.size < v3.heap.size := Nat.lt_of_lt_of_le zcq hb.size
    replace HO := hide (own_kept HO.out hb)
    replace HB := hide (HB.out.trans (hb.mono HB.out.size))
    clear hb
    go_wp2
    refine bodyPost_ret (v := .tuple #[slot q, .bool q.u]) (by simp [results, Try.results31, go_sem, cr0, cr1, cr2, cr3, cr4]) rfl ⟨by rw [HM.out, HQ.out], below_set5 (s := q) HB.out (by omega)⟩

theorem specSoonest_sh (v : Value) (m : List Sl) (w : World) (hR : RdT w.heap.size w v m) (hf : m.length ≤ 1048576) :
    Calls Try.prog 51 #[v] w fun e w' => e = .returned (.tuple #[slot (soonM m), .bool (soonM m).u]) ∧ Below w.heap.size w w' := by
  obtain ⟨vl, rfl, o, c, rfl, r⟩ := hR
  exact specSoonest_any o c m w r hf
theorem implSoonest_sh (v : Value) (m : List Sl) (w : World) (hR : RdT w.heap.size w v m) (hf : m.length ≤ 1048576) :
    Calls Try.prog 31 #[v] w fun e w' => e = .returned (.tuple #[slot (soonM m), .bool (soonM m).u]) ∧ Below w.heap.size w w' := by
  obtain ⟨vl, rfl, o, c, rfl, r⟩ := hR
  exact implSoonest_any o c m w r hf

end Go.Proofs.Ytncdjmniphnpgaa
