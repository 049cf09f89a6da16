/- Get, on both sides. -/
import Derived.Test.YtncdjmniphnpgaaSPlain
namespace Go.Proofs.Ytncdjmniphnpgaa
open Go.ChangeShapes Go.WideShapes Go.ChangeAt Go.RowKit Go.Joins
set_option linter.unusedVariables false
set_option linter.unusedSimpArgs false

theorem getL_no {l : List Sl} {a p : Int} (h : (endL l a p).2 = false) : getL l a p = sl0 := by unfold getL; rw [h]; rfl
theorem getL_yes {l : List Sl} {a p : Int} {k : Nat} (h : endL l a p = ((k : Int), true)) : getL l a p = l.getD k sl0 := by unfold getL; rw [h]; simp

set_option maxHeartbeats 2000000 in
theorem l5get_any (b off c : Nat) (l : List Sl) (a p : Int) (w : World) (hn : 0 < l.length) (hl : l.length ≤ 1048576) (hf : flowOkB a p = true) (hbl : b < w.heap.size) (hc : ∀ i, i < l.length → ∀ j, j < layS.k → w.cell? ⟨b, off + i * layS.k + j, none⟩ = (layS.cs (l.getD i layS.d))[j]?) :
    Calls Try.prog 85 #[tab (.slice (some ⟨b, off, none⟩) l.length c), flow a p] w fun e w' => e = .returned (.tuple #[slot (getL l a p), .bool (endL l a p).2]) ∧ Below w.heap.size w w' := by
  have HC := hide hc
  clear hc
  obtain ⟨W0, hW0⟩ : ∃ W, (((w.alloc (.cells #[.slice (some ⟨b, off, none⟩) l.length c] 25)).alloc (.cells #[.int .i64 a, .int .i64 p] 27)).alloc (.cells #[.bool false, .int .i64 0, .int .i64 0, .int .i64 0, .int .i64 0] 35)) = W := ⟨_, rfl⟩
  have hb_W0 : Below w.heap.size w W0 := by rw [← hW0]; exact ((((Below.refl _ _).alloc (Nat.le_refl _) _).alloc (by simp <;> omega) _).alloc (by simp <;> omega) _)
  have HB := hide hb_W0
  clear hb_W0
  have zct : w.heap.size < W0.heap.size := by rw [← hW0]; simp <;> omega
  have ct0 : W0.cell? ⟨w.heap.size, 0, none⟩ = some (.slice (some ⟨b, off, none⟩) l.length c) := by rw [← hW0]; simp [go_sem]
  have zcf : w.heap.size + 1 < W0.heap.size := by rw [← hW0]; simp <;> omega
  have cf0 : W0.cell? ⟨w.heap.size + 1, 0, none⟩ = some (.int .i64 a) := by rw [← hW0]; simp [go_sem]
  have cf1 : W0.cell? ⟨w.heap.size + 1, 1, none⟩ = some (.int .i64 p) := by rw [← hW0]; simp [go_sem]
  have zcr : w.heap.size + 1 + 1 < W0.heap.size := by rw [← hW0]; simp
  have cr0 : W0.cell? ⟨w.heap.size + 1 + 1, 0, none⟩ = some (.bool false) := by rw [← hW0]; simp [go_sem]
  have cr1 : W0.cell? ⟨w.heap.size + 1 + 1, 1, none⟩ = some (.int .i64 0) := by rw [← hW0]; simp [go_sem]
  have cr2 : W0.cell? ⟨w.heap.size + 1 + 1, 2, none⟩ = some (.int .i64 0) := by rw [← hW0]; simp [go_sem]
  have cr3 : W0.cell? ⟨w.heap.size + 1 + 1, 3, none⟩ = some (.int .i64 0) := by rw [← hW0]; simp [go_sem]
  have cr4 : W0.cell? ⟨w.heap.size + 1 + 1, 4, none⟩ = some (.int .i64 0) := by rw [← hW0]; simp [go_sem]
  have fcr0 : W0.frozen? ⟨w.heap.size + 1 + 1, 0, none⟩ = false := by rw [← hW0]; simp [go_sem]
  have fcr1 : W0.frozen? ⟨w.heap.size + 1 + 1, 1, none⟩ = false := by rw [← hW0]; simp [go_sem]
  have fcr2 : W0.frozen? ⟨w.heap.size + 1 + 1, 2, none⟩ = false := by rw [← hW0]; simp [go_sem]
  have fcr3 : W0.frozen? ⟨w.heap.size + 1 + 1, 3, none⟩ = false := by rw [← hW0]; simp [go_sem]
  have fcr4 : W0.frozen? ⟨w.heap.size + 1 + 1, 4, none⟩ = false := by rw [← hW0]; simp [go_sem]
  have hat := l5at_any (some ⟨b, off, none⟩) c l a p W0 (.inr ⟨b, off, rfl, Nat.lt_of_lt_of_le hbl HB.out.size, (fun i hi j hj => (HB.out.cell (p := ⟨b, off + i * layS.k + j, none⟩) hbl).trans (HC.out i hi j hj))⟩) hn hl hf
  rcases endL_cases l hn a p with hE | ⟨k, hk, ⟨hE, _⟩ | ⟨hE, _⟩⟩
  · skip
    have HM := hide (getL_no (l := l) (a := a) (p := p) (by rw [hE]))
    have HE := hide hE
    rw [hE] at hat
    clear hE
    go_enter Try.func85, Try.ntmps85
    go_wp2_with fail
    refine (hat).mono ?_
    rintro e v1 ⟨rfl, hb⟩
    replace ct0 : v1.cell? ⟨w.heap.size, 0, none⟩ = some (.slice (some ⟨b, off, none⟩) l.length c) := (hb.cell (p := ⟨w.heap.size, 0, none⟩) zct).trans ct0
    replace zct : w.heap.size < v1.heap.size := Nat.lt_of_lt_of_le zct hb.size
    replace cf0 : v1.cell? ⟨w.heap.size + 1, 0, none⟩ = some (.int .i64 a) := (hb.cell (p := ⟨w.heap.size + 1, 0, none⟩) zcf).trans cf0
    replace cf1 : v1.cell? ⟨w.heap.size + 1, 1, none⟩ = some (.int .i64 p) := (hb.cell (p := ⟨w.heap.size + 1, 1, none⟩) zcf).trans cf1
    replace zcf : w.heap.size + 1 < v1.heap.size := Nat.lt_of_lt_of_le zcf hb.size
    replace cr0 : v1.cell? ⟨w.heap.size + 1 + 1, 0, none⟩ = some (.bool false) := (hb.cell (p := ⟨w.heap.size + 1 + 1, 0, none⟩) zcr).trans cr0
    replace cr1 : v1.cell? ⟨w.heap.size + 1 + 1, 1, none⟩ = some (.int .i64 0) := (hb.cell (p := ⟨w.heap.size + 1 + 1, 1, none⟩) zcr).trans cr1
    replace cr2 : v1.cell? ⟨w.heap.size + 1 + 1, 2, none⟩ = some (.int .i64 0) := (hb.cell (p := ⟨w.heap.size + 1 + 1, 2, none⟩) zcr).trans cr2
    replace cr3 : v1.cell? ⟨w.heap.size + 1 + 1, 3, none⟩ = some (.int .i64 0) := (hb.cell (p := ⟨w.heap.size + 1 + 1, 3, none⟩) zcr).trans cr3
    replace cr4 : v1.cell? ⟨w.heap.size + 1 + 1, 4, none⟩ = some (.int .i64 0) := (hb.cell (p := ⟨w.heap.size + 1 + 1, 4, none⟩) zcr).trans cr4
    replace fcr0 : v1.frozen? ⟨w.heap.size + 1 + 1, 0, none⟩ = false := (hb.frozen (p := ⟨w.heap.size + 1 + 1, 0, none⟩) zcr).trans fcr0
    replace fcr1 : v1.frozen? ⟨w.heap.size + 1 + 1, 1, none⟩ = false := (hb.frozen (p := ⟨w.heap.size + 1 + 1, 1, none⟩) zcr).trans fcr1
    replace fcr2 : v1.frozen? ⟨w.heap.size + 1 + 1, 2, none⟩ = false := (hb.frozen (p := ⟨w.heap.size + 1 + 1, 2, none⟩) zcr).trans fcr2
    replace fcr3 : v1.frozen? ⟨w.heap.size + 1 + 1, 3, none⟩ = false := (hb.frozen (p := ⟨w.heap.size + 1 + 1, 3, none⟩) zcr).trans fcr3
    replace fcr4 : v1.frozen? ⟨w.heap.size + 1 + 1, 4, none⟩ = false := (hb.frozen (p := ⟨w.heap.size + 1 + 1, 4, none⟩) zcr).trans fcr4
    replace zcr : w.heap.size + 1 + 1 < v1.heap.size := Nat.lt_of_lt_of_le zcr hb.size
    replace HB := hide (HB.out.trans (hb.mono HB.out.size))
    clear hb
    clear hat
    go_wp2
    refine bodyPost_ret (v := .tuple #[slot sl0, .bool false]) (by simp [results, Try.results85, go_sem, cr0, cr1, cr2, cr3, cr4]) rfl ⟨by rw [HM.out, HE.out], below_set5 (s := sl0) HB.out (by omega)⟩
  · skip
    have HM := hide (getL_no (l := l) (a := a) (p := p) (by rw [hE]))
    have HE := hide hE
    rw [hE] at hat
    clear hE
    go_enter Try.func85, Try.ntmps85
    go_wp2_with fail
    refine (hat).mono ?_
    rintro e v1 ⟨rfl, hb⟩
    replace ct0 : v1.cell? ⟨w.heap.size, 0, none⟩ = some (.slice (some ⟨b, off, none⟩) l.length c) := (hb.cell (p := ⟨w.heap.size, 0, none⟩) zct).trans ct0
    replace zct : w.heap.size < v1.heap.size := Nat.lt_of_lt_of_le zct hb.size
    replace cf0 : v1.cell? ⟨w.heap.size + 1, 0, none⟩ = some (.int .i64 a) := (hb.cell (p := ⟨w.heap.size + 1, 0, none⟩) zcf).trans cf0
    replace cf1 : v1.cell? ⟨w.heap.size + 1, 1, none⟩ = some (.int .i64 p) := (hb.cell (p := ⟨w.heap.size + 1, 1, none⟩) zcf).trans cf1
    replace zcf : w.heap.size + 1 < v1.heap.size := Nat.lt_of_lt_of_le zcf hb.size
    replace cr0 : v1.cell? ⟨w.heap.size + 1 + 1, 0, none⟩ = some (.bool false) := (hb.cell (p := ⟨w.heap.size + 1 + 1, 0, none⟩) zcr).trans cr0
    replace cr1 : v1.cell? ⟨w.heap.size + 1 + 1, 1, none⟩ = some (.int .i64 0) := (hb.cell (p := ⟨w.heap.size + 1 + 1, 1, none⟩) zcr).trans cr1
    replace cr2 : v1.cell? ⟨w.heap.size + 1 + 1, 2, none⟩ = some (.int .i64 0) := (hb.cell (p := ⟨w.heap.size + 1 + 1, 2, none⟩) zcr).trans cr2
    replace cr3 : v1.cell? ⟨w.heap.size + 1 + 1, 3, none⟩ = some (.int .i64 0) := (hb.cell (p := ⟨w.heap.size + 1 + 1, 3, none⟩) zcr).trans cr3
    replace cr4 : v1.cell? ⟨w.heap.size + 1 + 1, 4, none⟩ = some (.int .i64 0) := (hb.cell (p := ⟨w.heap.size + 1 + 1, 4, none⟩) zcr).trans cr4
    replace fcr0 : v1.frozen? ⟨w.heap.size + 1 + 1, 0, none⟩ = false := (hb.frozen (p := ⟨w.heap.size + 1 + 1, 0, none⟩) zcr).trans fcr0
    replace fcr1 : v1.frozen? ⟨w.heap.size + 1 + 1, 1, none⟩ = false := (hb.frozen (p := ⟨w.heap.size + 1 + 1, 1, none⟩) zcr).trans fcr1
    replace fcr2 : v1.frozen? ⟨w.heap.size + 1 + 1, 2, none⟩ = false := (hb.frozen (p := ⟨w.heap.size + 1 + 1, 2, none⟩) zcr).trans fcr2
    replace fcr3 : v1.frozen? ⟨w.heap.size + 1 + 1, 3, none⟩ = false := (hb.frozen (p := ⟨w.heap.size + 1 + 1, 3, none⟩) zcr).trans fcr3
    replace fcr4 : v1.frozen? ⟨w.heap.size + 1 + 1, 4, none⟩ = false := (hb.frozen (p := ⟨w.heap.size + 1 + 1, 4, none⟩) zcr).trans fcr4
    replace zcr : w.heap.size + 1 + 1 < v1.heap.size := Nat.lt_of_lt_of_le zcr hb.size
    replace HB := hide (HB.out.trans (hb.mono HB.out.size))
    clear hb
    clear hat
    go_wp2
    refine bodyPost_ret (v := .tuple #[slot sl0, .bool false]) (by simp [results, Try.results85, go_sem, cr0, cr1, cr2, cr3, cr4]) rfl ⟨by rw [HM.out, HE.out], below_set5 (s := sl0) HB.out (by omega)⟩
  · skip
    have HM := hide (getL_yes hE)
    have HE := hide hE
    rw [hE] at hat
    clear hE
    have hcx := RdL.slot (C := w.heap.size) HC.out k hk
    obtain ⟨s, hxy⟩ : ∃ s, l.getD k sl0 = s := ⟨_, rfl⟩
    rw [hxy] at hcx HM
    clear hxy
    have hk' : (k : Int) < (l.length : Int) := by omega
    go_enter Try.func85, Try.ntmps85
    go_wp2_with fail
    refine (hat).mono ?_
    rintro e v1 ⟨rfl, hb⟩
    replace ct0 : v1.cell? ⟨w.heap.size, 0, none⟩ = some (.slice (some ⟨b, off, none⟩) l.length c) := (hb.cell (p := ⟨w.heap.size, 0, none⟩) zct).trans ct0
    replace zct : w.heap.size < v1.heap.size := Nat.lt_of_lt_of_le zct hb.size
    replace cf0 : v1.cell? ⟨w.heap.size + 1, 0, none⟩ = some (.int .i64 a) := (hb.cell (p := ⟨w.heap.size + 1, 0, none⟩) zcf).trans cf0
    replace cf1 : v1.cell? ⟨w.heap.size + 1, 1, none⟩ = some (.int .i64 p) := (hb.cell (p := ⟨w.heap.size + 1, 1, none⟩) zcf).trans cf1
    replace zcf : w.heap.size + 1 < v1.heap.size := Nat.lt_of_lt_of_le zcf hb.size
    replace cr0 : v1.cell? ⟨w.heap.size + 1 + 1, 0, none⟩ = some (.bool false) := (hb.cell (p := ⟨w.heap.size + 1 + 1, 0, none⟩) zcr).trans cr0
    replace cr1 : v1.cell? ⟨w.heap.size + 1 + 1, 1, none⟩ = some (.int .i64 0) := (hb.cell (p := ⟨w.heap.size + 1 + 1, 1, none⟩) zcr).trans cr1
    replace cr2 : v1.cell? ⟨w.heap.size + 1 + 1, 2, none⟩ = some (.int .i64 0) := (hb.cell (p := ⟨w.heap.size + 1 + 1, 2, none⟩) zcr).trans cr2
    replace cr3 : v1.cell? ⟨w.heap.size + 1 + 1, 3, none⟩ = some (.int .i64 0) := (hb.cell (p := ⟨w.heap.size + 1 + 1, 3, none⟩) zcr).trans cr3
    replace cr4 : v1.cell? ⟨w.heap.size + 1 + 1, 4, none⟩ = some (.int .i64 0) := (hb.cell (p := ⟨w.heap.size + 1 + 1, 4, none⟩) zcr).trans cr4
    replace fcr0 : v1.frozen? ⟨w.heap.size + 1 + 1, 0, none⟩ = false := (hb.frozen (p := ⟨w.heap.size + 1 + 1, 0, none⟩) zcr).trans fcr0
    replace fcr1 : v1.frozen? ⟨w.heap.size + 1 + 1, 1, none⟩ = false := (hb.frozen (p := ⟨w.heap.size + 1 + 1, 1, none⟩) zcr).trans fcr1
    replace fcr2 : v1.frozen? ⟨w.heap.size + 1 + 1, 2, none⟩ = false := (hb.frozen (p := ⟨w.heap.size + 1 + 1, 2, none⟩) zcr).trans fcr2
    replace fcr3 : v1.frozen? ⟨w.heap.size + 1 + 1, 3, none⟩ = false := (hb.frozen (p := ⟨w.heap.size + 1 + 1, 3, none⟩) zcr).trans fcr3
    replace fcr4 : v1.frozen? ⟨w.heap.size + 1 + 1, 4, none⟩ = false := (hb.frozen (p := ⟨w.heap.size + 1 + 1, 4, none⟩) zcr).trans fcr4
    replace zcr : w.heap.size + 1 + 1 < v1.heap.size := Nat.lt_of_lt_of_le zcr hb.size
    replace HB := hide (HB.out.trans (hb.mono HB.out.size))
    clear hb
    have e0 := (HB.out.cell (p := ⟨b, off + k * 5, none⟩) hbl).trans hcx.1
    have e1 := (HB.out.cell (p := ⟨b, off + k * 5 + 1, none⟩) hbl).trans hcx.2.1
    have e2 := (HB.out.cell (p := ⟨b, off + k * 5 + 2, none⟩) hbl).trans hcx.2.2.1
    have e3 := (HB.out.cell (p := ⟨b, off + k * 5 + 3, none⟩) hbl).trans hcx.2.2.2.1
    have e4 := (HB.out.cell (p := ⟨b, off + k * 5 + 4, none⟩) hbl).trans hcx.2.2.2.2
    clear hat hcx
    go_wp2
    refine bodyPost_ret (v := .tuple #[slot s, .bool true]) (by simp [results, Try.results85, go_sem, cr0, cr1, cr2, cr3, cr4]) rfl ⟨by rw [HM.out, HE.out], below_set5 (s := s) HB.out (by omega)⟩

set_option maxHeartbeats 2000000 in
theorem get_any (b off c : Nat) (l : List Sl) (a p : Int) (w : World) (hn : 0 < l.length) (hl : l.length ≤ 1048576) (hf : flowOkB a p = true) (hbl : b < w.heap.size) (hc : ∀ i, i < l.length → ∀ j, j < layS.k → w.cell? ⟨b, off + i * layS.k + j, none⟩ = (layS.cs (l.getD i layS.d))[j]?) :
    Calls Try.prog 63 #[tab (.slice (some ⟨b, off, none⟩) l.length c), flow a p] w fun e w' => e = .returned (.tuple #[slot (getL l a p), .bool (endL l a p).2]) ∧ Below w.heap.size w w' := by
  have HC := hide hc
  clear hc
  obtain ⟨W0, hW0⟩ : ∃ W, (((w.alloc (.cells #[.slice (some ⟨b, off, none⟩) l.length c] 78)).alloc (.cells #[.int .i64 a, .int .i64 p] 27)).alloc (.cells #[.bool false, .int .i64 0, .int .i64 0, .int .i64 0, .int .i64 0] 87)) = W := ⟨_, rfl⟩
  have hb_W0 : Below w.heap.size w W0 := by rw [← hW0]; exact ((((Below.refl _ _).alloc (Nat.le_refl _) _).alloc (by simp <;> omega) _).alloc (by simp <;> omega) _)
  have HB := hide hb_W0
  clear hb_W0
  have zct : w.heap.size < W0.heap.size := by rw [← hW0]; simp <;> omega
  have ct0 : W0.cell? ⟨w.heap.size, 0, none⟩ = some (.slice (some ⟨b, off, none⟩) l.length c) := by rw [← hW0]; simp [go_sem]
  have zcf : w.heap.size + 1 < W0.heap.size := by rw [← hW0]; simp <;> omega
  have cf0 : W0.cell? ⟨w.heap.size + 1, 0, none⟩ = some (.int .i64 a) := by rw [← hW0]; simp [go_sem]
  have cf1 : W0.cell? ⟨w.heap.size + 1, 1, none⟩ = some (.int .i64 p) := by rw [← hW0]; simp [go_sem]
  have zcr : w.heap.size + 1 + 1 < W0.heap.size := by rw [← hW0]; simp
  have cr0 : W0.cell? ⟨w.heap.size + 1 + 1, 0, none⟩ = some (.bool false) := by rw [← hW0]; simp [go_sem]
  have cr1 : W0.cell? ⟨w.heap.size + 1 + 1, 1, none⟩ = some (.int .i64 0) := by rw [← hW0]; simp [go_sem]
  have cr2 : W0.cell? ⟨w.heap.size + 1 + 1, 2, none⟩ = some (.int .i64 0) := by rw [← hW0]; simp [go_sem]
  have cr3 : W0.cell? ⟨w.heap.size + 1 + 1, 3, none⟩ = some (.int .i64 0) := by rw [← hW0]; simp [go_sem]
  have cr4 : W0.cell? ⟨w.heap.size + 1 + 1, 4, none⟩ = some (.int .i64 0) := by rw [← hW0]; simp [go_sem]
  have fcr0 : W0.frozen? ⟨w.heap.size + 1 + 1, 0, none⟩ = false := by rw [← hW0]; simp [go_sem]
  have fcr1 : W0.frozen? ⟨w.heap.size + 1 + 1, 1, none⟩ = false := by rw [← hW0]; simp [go_sem]
  have fcr2 : W0.frozen? ⟨w.heap.size + 1 + 1, 2, none⟩ = false := by rw [← hW0]; simp [go_sem]
  have fcr3 : W0.frozen? ⟨w.heap.size + 1 + 1, 3, none⟩ = false := by rw [← hW0]; simp [go_sem]
  have fcr4 : W0.frozen? ⟨w.heap.size + 1 + 1, 4, none⟩ = false := by rw [← hW0]; simp [go_sem]
  have hat := endOfWay_any b off c l a p W0 hn hl hf (Nat.lt_of_lt_of_le hbl HB.out.size) (fun i hi j hj => (HB.out.cell (p := ⟨b, off + i * layS.k + j, none⟩) hbl).trans (HC.out i hi j hj))
  rcases endL_cases l hn a p with hE | ⟨k, hk, ⟨hE, _⟩ | ⟨hE, _⟩⟩
  · skip
    have HM := hide (getL_no (l := l) (a := a) (p := p) (by rw [hE]))
    have HE := hide hE
    rw [hE] at hat
    clear hE
    go_enter Try.func63, Try.ntmps63
    go_wp2_with fail
    refine (hat).mono ?_
    rintro e v1 ⟨rfl, hb⟩
    replace ct0 : v1.cell? ⟨w.heap.size, 0, none⟩ = some (.slice (some ⟨b, off, none⟩) l.length c) := (hb.cell (p := ⟨w.heap.size, 0, none⟩) zct).trans ct0
    replace zct : w.heap.size < v1.heap.size := Nat.lt_of_lt_of_le zct hb.size
    replace cf0 : v1.cell? ⟨w.heap.size + 1, 0, none⟩ = some (.int .i64 a) := (hb.cell (p := ⟨w.heap.size + 1, 0, none⟩) zcf).trans cf0
    replace cf1 : v1.cell? ⟨w.heap.size + 1, 1, none⟩ = some (.int .i64 p) := (hb.cell (p := ⟨w.heap.size + 1, 1, none⟩) zcf).trans cf1
    replace zcf : w.heap.size + 1 < v1.heap.size := Nat.lt_of_lt_of_le zcf hb.size
    replace cr0 : v1.cell? ⟨w.heap.size + 1 + 1, 0, none⟩ = some (.bool false) := (hb.cell (p := ⟨w.heap.size + 1 + 1, 0, none⟩) zcr).trans cr0
    replace cr1 : v1.cell? ⟨w.heap.size + 1 + 1, 1, none⟩ = some (.int .i64 0) := (hb.cell (p := ⟨w.heap.size + 1 + 1, 1, none⟩) zcr).trans cr1
    replace cr2 : v1.cell? ⟨w.heap.size + 1 + 1, 2, none⟩ = some (.int .i64 0) := (hb.cell (p := ⟨w.heap.size + 1 + 1, 2, none⟩) zcr).trans cr2
    replace cr3 : v1.cell? ⟨w.heap.size + 1 + 1, 3, none⟩ = some (.int .i64 0) := (hb.cell (p := ⟨w.heap.size + 1 + 1, 3, none⟩) zcr).trans cr3
    replace cr4 : v1.cell? ⟨w.heap.size + 1 + 1, 4, none⟩ = some (.int .i64 0) := (hb.cell (p := ⟨w.heap.size + 1 + 1, 4, none⟩) zcr).trans cr4
    replace fcr0 : v1.frozen? ⟨w.heap.size + 1 + 1, 0, none⟩ = false := (hb.frozen (p := ⟨w.heap.size + 1 + 1, 0, none⟩) zcr).trans fcr0
    replace fcr1 : v1.frozen? ⟨w.heap.size + 1 + 1, 1, none⟩ = false := (hb.frozen (p := ⟨w.heap.size + 1 + 1, 1, none⟩) zcr).trans fcr1
    replace fcr2 : v1.frozen? ⟨w.heap.size + 1 + 1, 2, none⟩ = false := (hb.frozen (p := ⟨w.heap.size + 1 + 1, 2, none⟩) zcr).trans fcr2
    replace fcr3 : v1.frozen? ⟨w.heap.size + 1 + 1, 3, none⟩ = false := (hb.frozen (p := ⟨w.heap.size + 1 + 1, 3, none⟩) zcr).trans fcr3
    replace fcr4 : v1.frozen? ⟨w.heap.size + 1 + 1, 4, none⟩ = false := (hb.frozen (p := ⟨w.heap.size + 1 + 1, 4, none⟩) zcr).trans fcr4
    replace zcr : w.heap.size + 1 + 1 < v1.heap.size := Nat.lt_of_lt_of_le zcr hb.size
    replace HB := hide (HB.out.trans (hb.mono HB.out.size))
    clear hb
    clear hat
    go_wp2
    refine bodyPost_ret (v := .tuple #[slot sl0, .bool false]) (by simp [results, Try.results63, go_sem, cr0, cr1, cr2, cr3, cr4]) rfl ⟨by rw [HM.out, HE.out], below_set5 (s := sl0) HB.out (by omega)⟩
  · skip
    have HM := hide (getL_no (l := l) (a := a) (p := p) (by rw [hE]))
    have HE := hide hE
    rw [hE] at hat
    clear hE
    go_enter Try.func63, Try.ntmps63
    go_wp2_with fail
    refine (hat).mono ?_
    rintro e v1 ⟨rfl, hb⟩
    replace ct0 : v1.cell? ⟨w.heap.size, 0, none⟩ = some (.slice (some ⟨b, off, none⟩) l.length c) := (hb.cell (p := ⟨w.heap.size, 0, none⟩) zct).trans ct0
    replace zct : w.heap.size < v1.heap.size := Nat.lt_of_lt_of_le zct hb.size
    replace cf0 : v1.cell? ⟨w.heap.size + 1, 0, none⟩ = some (.int .i64 a) := (hb.cell (p := ⟨w.heap.size + 1, 0, none⟩) zcf).trans cf0
    replace cf1 : v1.cell? ⟨w.heap.size + 1, 1, none⟩ = some (.int .i64 p) := (hb.cell (p := ⟨w.heap.size + 1, 1, none⟩) zcf).trans cf1
    replace zcf : w.heap.size + 1 < v1.heap.size := Nat.lt_of_lt_of_le zcf hb.size
    replace cr0 : v1.cell? ⟨w.heap.size + 1 + 1, 0, none⟩ = some (.bool false) := (hb.cell (p := ⟨w.heap.size + 1 + 1, 0, none⟩) zcr).trans cr0
    replace cr1 : v1.cell? ⟨w.heap.size + 1 + 1, 1, none⟩ = some (.int .i64 0) := (hb.cell (p := ⟨w.heap.size + 1 + 1, 1, none⟩) zcr).trans cr1
    replace cr2 : v1.cell? ⟨w.heap.size + 1 + 1, 2, none⟩ = some (.int .i64 0) := (hb.cell (p := ⟨w.heap.size + 1 + 1, 2, none⟩) zcr).trans cr2
    replace cr3 : v1.cell? ⟨w.heap.size + 1 + 1, 3, none⟩ = some (.int .i64 0) := (hb.cell (p := ⟨w.heap.size + 1 + 1, 3, none⟩) zcr).trans cr3
    replace cr4 : v1.cell? ⟨w.heap.size + 1 + 1, 4, none⟩ = some (.int .i64 0) := (hb.cell (p := ⟨w.heap.size + 1 + 1, 4, none⟩) zcr).trans cr4
    replace fcr0 : v1.frozen? ⟨w.heap.size + 1 + 1, 0, none⟩ = false := (hb.frozen (p := ⟨w.heap.size + 1 + 1, 0, none⟩) zcr).trans fcr0
    replace fcr1 : v1.frozen? ⟨w.heap.size + 1 + 1, 1, none⟩ = false := (hb.frozen (p := ⟨w.heap.size + 1 + 1, 1, none⟩) zcr).trans fcr1
    replace fcr2 : v1.frozen? ⟨w.heap.size + 1 + 1, 2, none⟩ = false := (hb.frozen (p := ⟨w.heap.size + 1 + 1, 2, none⟩) zcr).trans fcr2
    replace fcr3 : v1.frozen? ⟨w.heap.size + 1 + 1, 3, none⟩ = false := (hb.frozen (p := ⟨w.heap.size + 1 + 1, 3, none⟩) zcr).trans fcr3
    replace fcr4 : v1.frozen? ⟨w.heap.size + 1 + 1, 4, none⟩ = false := (hb.frozen (p := ⟨w.heap.size + 1 + 1, 4, none⟩) zcr).trans fcr4
    replace zcr : w.heap.size + 1 + 1 < v1.heap.size := Nat.lt_of_lt_of_le zcr hb.size
    replace HB := hide (HB.out.trans (hb.mono HB.out.size))
    clear hb
    clear hat
    go_wp2
    refine bodyPost_ret (v := .tuple #[slot sl0, .bool false]) (by simp [results, Try.results63, go_sem, cr0, cr1, cr2, cr3, cr4]) rfl ⟨by rw [HM.out, HE.out], below_set5 (s := sl0) HB.out (by omega)⟩
  · skip
    have HM := hide (getL_yes hE)
    have HE := hide hE
    rw [hE] at hat
    clear hE
    have hcx := RdL.slot (C := w.heap.size) HC.out k hk
    obtain ⟨s, hxy⟩ : ∃ s, l.getD k sl0 = s := ⟨_, rfl⟩
    rw [hxy] at hcx HM
    clear hxy
    have hk' : (k : Int) < (l.length : Int) := by omega
    go_enter Try.func63, Try.ntmps63
    go_wp2_with fail
    refine (hat).mono ?_
    rintro e v1 ⟨rfl, hb⟩
    replace ct0 : v1.cell? ⟨w.heap.size, 0, none⟩ = some (.slice (some ⟨b, off, none⟩) l.length c) := (hb.cell (p := ⟨w.heap.size, 0, none⟩) zct).trans ct0
    replace zct : w.heap.size < v1.heap.size := Nat.lt_of_lt_of_le zct hb.size
    replace cf0 : v1.cell? ⟨w.heap.size + 1, 0, none⟩ = some (.int .i64 a) := (hb.cell (p := ⟨w.heap.size + 1, 0, none⟩) zcf).trans cf0
    replace cf1 : v1.cell? ⟨w.heap.size + 1, 1, none⟩ = some (.int .i64 p) := (hb.cell (p := ⟨w.heap.size + 1, 1, none⟩) zcf).trans cf1
    replace zcf : w.heap.size + 1 < v1.heap.size := Nat.lt_of_lt_of_le zcf hb.size
    replace cr0 : v1.cell? ⟨w.heap.size + 1 + 1, 0, none⟩ = some (.bool false) := (hb.cell (p := ⟨w.heap.size + 1 + 1, 0, none⟩) zcr).trans cr0
    replace cr1 : v1.cell? ⟨w.heap.size + 1 + 1, 1, none⟩ = some (.int .i64 0) := (hb.cell (p := ⟨w.heap.size + 1 + 1, 1, none⟩) zcr).trans cr1
    replace cr2 : v1.cell? ⟨w.heap.size + 1 + 1, 2, none⟩ = some (.int .i64 0) := (hb.cell (p := ⟨w.heap.size + 1 + 1, 2, none⟩) zcr).trans cr2
    replace cr3 : v1.cell? ⟨w.heap.size + 1 + 1, 3, none⟩ = some (.int .i64 0) := (hb.cell (p := ⟨w.heap.size + 1 + 1, 3, none⟩) zcr).trans cr3
    replace cr4 : v1.cell? ⟨w.heap.size + 1 + 1, 4, none⟩ = some (.int .i64 0) := (hb.cell (p := ⟨w.heap.size + 1 + 1, 4, none⟩) zcr).trans cr4
    replace fcr0 : v1.frozen? ⟨w.heap.size + 1 + 1, 0, none⟩ = false := (hb.frozen (p := ⟨w.heap.size + 1 + 1, 0, none⟩) zcr).trans fcr0
    replace fcr1 : v1.frozen? ⟨w.heap.size + 1 + 1, 1, none⟩ = false := (hb.frozen (p := ⟨w.heap.size + 1 + 1, 1, none⟩) zcr).trans fcr1
    replace fcr2 : v1.frozen? ⟨w.heap.size + 1 + 1, 2, none⟩ = false := (hb.frozen (p := ⟨w.heap.size + 1 + 1, 2, none⟩) zcr).trans fcr2
    replace fcr3 : v1.frozen? ⟨w.heap.size + 1 + 1, 3, none⟩ = false := (hb.frozen (p := ⟨w.heap.size + 1 + 1, 3, none⟩) zcr).trans fcr3
    replace fcr4 : v1.frozen? ⟨w.heap.size + 1 + 1, 4, none⟩ = false := (hb.frozen (p := ⟨w.heap.size + 1 + 1, 4, none⟩) zcr).trans fcr4
    replace zcr : w.heap.size + 1 + 1 < v1.heap.size := Nat.lt_of_lt_of_le zcr hb.size
    replace HB := hide (HB.out.trans (hb.mono HB.out.size))
    clear hb
    have e0 := (HB.out.cell (p := ⟨b, off + k * 5, none⟩) hbl).trans hcx.1
    have e1 := (HB.out.cell (p := ⟨b, off + k * 5 + 1, none⟩) hbl).trans hcx.2.1
    have e2 := (HB.out.cell (p := ⟨b, off + k * 5 + 2, none⟩) hbl).trans hcx.2.2.1
    have e3 := (HB.out.cell (p := ⟨b, off + k * 5 + 3, none⟩) hbl).trans hcx.2.2.2.1
    have e4 := (HB.out.cell (p := ⟨b, off + k * 5 + 4, none⟩) hbl).trans hcx.2.2.2.2
    clear hat hcx
    go_wp2
    refine bodyPost_ret (v := .tuple #[slot s, .bool true]) (by simp [results, Try.results63, go_sem, cr0, cr1, cr2, cr3, cr4]) rfl ⟨by rw [HM.out, HE.out], below_set5 (s := s) HB.out (by omega)⟩

def getM (l : List Sl) (a p : Int) : Sl := if (tableOkB l && flowOkB a p) = true then getL l a p else sl0
def gotB (l : List Sl) (a p : Int) : Bool := if (tableOkB l && flowOkB a p) = true then (endL l a p).2 else false
set_option maxHeartbeats 2000000 in
theorem specGet_any (o : Option Addr) (c : Nat) (l : List Sl) (a p : Int) (w : World) (hR : RdS w.heap.size w o l) (hl : l.length ≤ 1048576) :
    Calls Try.prog 45 #[tab (.slice o l.length c), flow a p] w fun e w' => e = .returned (.tuple #[slot (getM l a p), .bool (gotB l a p)]) ∧ Below w.heap.size w w' := by
  obtain ⟨W0, hW0⟩ : ∃ W, (((w.alloc (.cells #[.slice o l.length c] 25)).alloc (.cells #[.int .i64 a, .int .i64 p] 27)).alloc (.cells #[.bool false, .int .i64 0, .int .i64 0, .int .i64 0, .int .i64 0] 35)) = W := ⟨_, rfl⟩
  have hb_W0 : Below w.heap.size w W0 := by rw [← hW0]; exact ((((Below.refl _ _).alloc (Nat.le_refl _) _).alloc (by simp <;> omega) _).alloc (by simp <;> omega) _)
  have HB := hide hb_W0
  clear hb_W0
  have zct : w.heap.size < W0.heap.size := by rw [← hW0]; simp <;> omega
  have ct0 : W0.cell? ⟨w.heap.size, 0, none⟩ = some (.slice o l.length c) := by rw [← hW0]; simp [go_sem]
  have zcf : w.heap.size + 1 < W0.heap.size := by rw [← hW0]; simp <;> omega
  have cf0 : W0.cell? ⟨w.heap.size + 1, 0, none⟩ = some (.int .i64 a) := by rw [← hW0]; simp [go_sem]
  have cf1 : W0.cell? ⟨w.heap.size + 1, 1, none⟩ = some (.int .i64 p) := by rw [← hW0]; simp [go_sem]
  have zcr : w.heap.size + 1 + 1 < W0.heap.size := by rw [← hW0]; simp
  have cr0 : W0.cell? ⟨w.heap.size + 1 + 1, 0, none⟩ = some (.bool false) := by rw [← hW0]; simp [go_sem]
  have cr1 : W0.cell? ⟨w.heap.size + 1 + 1, 1, none⟩ = some (.int .i64 0) := by rw [← hW0]; simp [go_sem]
  have cr2 : W0.cell? ⟨w.heap.size + 1 + 1, 2, none⟩ = some (.int .i64 0) := by rw [← hW0]; simp [go_sem]
  have cr3 : W0.cell? ⟨w.heap.size + 1 + 1, 3, none⟩ = some (.int .i64 0) := by rw [← hW0]; simp [go_sem]
  have cr4 : W0.cell? ⟨w.heap.size + 1 + 1, 4, none⟩ = some (.int .i64 0) := by rw [← hW0]; simp [go_sem]
  have fcr0 : W0.frozen? ⟨w.heap.size + 1 + 1, 0, none⟩ = false := by rw [← hW0]; simp [go_sem]
  have fcr1 : W0.frozen? ⟨w.heap.size + 1 + 1, 1, none⟩ = false := by rw [← hW0]; simp [go_sem]
  have fcr2 : W0.frozen? ⟨w.heap.size + 1 + 1, 2, none⟩ = false := by rw [← hW0]; simp [go_sem]
  have fcr3 : W0.frozen? ⟨w.heap.size + 1 + 1, 3, none⟩ = false := by rw [← hW0]; simp [go_sem]
  have fcr4 : W0.frozen? ⟨w.heap.size + 1 + 1, 4, none⟩ = false := by rw [← hW0]; simp [go_sem]
  have hok := specTableOk_any o c l W0 ((hR.kept HB.out (Nat.le_refl _)).le HB.out.size) hl
  cases hT : tableOkB l with
  | false =>
    have HM := hide (show getM l a p = sl0 by unfold getM; rw [hT]; rfl)
    have HG := hide (show gotB l a p = false by unfold gotB; rw [hT]; rfl)
    rw [hT] at hok
    go_enter Try.func45, Try.ntmps45
    go_wp2_with fail
    refine (hok).mono ?_
    rintro e v1 ⟨rfl, hb⟩
    replace ct0 : v1.cell? ⟨w.heap.size, 0, none⟩ = some (.slice o l.length c) := (hb.cell (p := ⟨w.heap.size, 0, none⟩) zct).trans ct0
    replace zct : w.heap.size < v1.heap.size := Nat.lt_of_lt_of_le zct hb.size
    replace cf0 : v1.cell? ⟨w.heap.size + 1, 0, none⟩ = some (.int .i64 a) := (hb.cell (p := ⟨w.heap.size + 1, 0, none⟩) zcf).trans cf0
    replace cf1 : v1.cell? ⟨w.heap.size + 1, 1, none⟩ = some (.int .i64 p) := (hb.cell (p := ⟨w.heap.size + 1, 1, none⟩) zcf).trans cf1
    replace zcf : w.heap.size + 1 < v1.heap.size := Nat.lt_of_lt_of_le zcf hb.size
    replace cr0 : v1.cell? ⟨w.heap.size + 1 + 1, 0, none⟩ = some (.bool false) := (hb.cell (p := ⟨w.heap.size + 1 + 1, 0, none⟩) zcr).trans cr0
    replace cr1 : v1.cell? ⟨w.heap.size + 1 + 1, 1, none⟩ = some (.int .i64 0) := (hb.cell (p := ⟨w.heap.size + 1 + 1, 1, none⟩) zcr).trans cr1
    replace cr2 : v1.cell? ⟨w.heap.size + 1 + 1, 2, none⟩ = some (.int .i64 0) := (hb.cell (p := ⟨w.heap.size + 1 + 1, 2, none⟩) zcr).trans cr2
    replace cr3 : v1.cell? ⟨w.heap.size + 1 + 1, 3, none⟩ = some (.int .i64 0) := (hb.cell (p := ⟨w.heap.size + 1 + 1, 3, none⟩) zcr).trans cr3
    replace cr4 : v1.cell? ⟨w.heap.size + 1 + 1, 4, none⟩ = some (.int .i64 0) := (hb.cell (p := ⟨w.heap.size + 1 + 1, 4, none⟩) zcr).trans cr4
    replace fcr0 : v1.frozen? ⟨w.heap.size + 1 + 1, 0, none⟩ = false := (hb.frozen (p := ⟨w.heap.size + 1 + 1, 0, none⟩) zcr).trans fcr0
    replace fcr1 : v1.frozen? ⟨w.heap.size + 1 + 1, 1, none⟩ = false := (hb.frozen (p := ⟨w.heap.size + 1 + 1, 1, none⟩) zcr).trans fcr1
    replace fcr2 : v1.frozen? ⟨w.heap.size + 1 + 1, 2, none⟩ = false := (hb.frozen (p := ⟨w.heap.size + 1 + 1, 2, none⟩) zcr).trans fcr2
    replace fcr3 : v1.frozen? ⟨w.heap.size + 1 + 1, 3, none⟩ = false := (hb.frozen (p := ⟨w.heap.size + 1 + 1, 3, none⟩) zcr).trans fcr3
    replace fcr4 : v1.frozen? ⟨w.heap.size + 1 + 1, 4, none⟩ = false := (hb.frozen (p := ⟨w.heap.size + 1 + 1, 4, none⟩) zcr).trans fcr4
    replace zcr : w.heap.size + 1 + 1 < v1.heap.size := Nat.lt_of_lt_of_le zcr hb.size
    replace HB := hide (HB.out.trans (hb.mono HB.out.size))
    clear hb
    clear hok hT
    go_wp2
    refine bodyPost_ret (v := .tuple #[slot sl0, .bool false]) (by simp [results, Try.results45, go_sem, cr0, cr1, cr2, cr3, cr4]) rfl ⟨by rw [HM.out, HG.out], below_set5 (s := sl0) HB.out (by omega)⟩
  | true =>
    rw [hT] at hok
    have hn := (tableOkB_iff.1 hT).1
    cases hF : flowOkB a p with
    | false =>
      have HM := hide (show getM l a p = sl0 by unfold getM; rw [hT, hF]; rfl)
      have HG := hide (show gotB l a p = false by unfold gotB; rw [hT, hF]; rfl)
      go_enter Try.func45, Try.ntmps45
      go_wp2_with fail
      refine (hok).mono ?_
      rintro e v1 ⟨rfl, hb⟩
      replace ct0 : v1.cell? ⟨w.heap.size, 0, none⟩ = some (.slice o l.length c) := (hb.cell (p := ⟨w.heap.size, 0, none⟩) zct).trans ct0
      replace zct : w.heap.size < v1.heap.size := Nat.lt_of_lt_of_le zct hb.size
      replace cf0 : v1.cell? ⟨w.heap.size + 1, 0, none⟩ = some (.int .i64 a) := (hb.cell (p := ⟨w.heap.size + 1, 0, none⟩) zcf).trans cf0
      replace cf1 : v1.cell? ⟨w.heap.size + 1, 1, none⟩ = some (.int .i64 p) := (hb.cell (p := ⟨w.heap.size + 1, 1, none⟩) zcf).trans cf1
      replace zcf : w.heap.size + 1 < v1.heap.size := Nat.lt_of_lt_of_le zcf hb.size
      replace cr0 : v1.cell? ⟨w.heap.size + 1 + 1, 0, none⟩ = some (.bool false) := (hb.cell (p := ⟨w.heap.size + 1 + 1, 0, none⟩) zcr).trans cr0
      replace cr1 : v1.cell? ⟨w.heap.size + 1 + 1, 1, none⟩ = some (.int .i64 0) := (hb.cell (p := ⟨w.heap.size + 1 + 1, 1, none⟩) zcr).trans cr1
      replace cr2 : v1.cell? ⟨w.heap.size + 1 + 1, 2, none⟩ = some (.int .i64 0) := (hb.cell (p := ⟨w.heap.size + 1 + 1, 2, none⟩) zcr).trans cr2
      replace cr3 : v1.cell? ⟨w.heap.size + 1 + 1, 3, none⟩ = some (.int .i64 0) := (hb.cell (p := ⟨w.heap.size + 1 + 1, 3, none⟩) zcr).trans cr3
      replace cr4 : v1.cell? ⟨w.heap.size + 1 + 1, 4, none⟩ = some (.int .i64 0) := (hb.cell (p := ⟨w.heap.size + 1 + 1, 4, none⟩) zcr).trans cr4
      replace fcr0 : v1.frozen? ⟨w.heap.size + 1 + 1, 0, none⟩ = false := (hb.frozen (p := ⟨w.heap.size + 1 + 1, 0, none⟩) zcr).trans fcr0
      replace fcr1 : v1.frozen? ⟨w.heap.size + 1 + 1, 1, none⟩ = false := (hb.frozen (p := ⟨w.heap.size + 1 + 1, 1, none⟩) zcr).trans fcr1
      replace fcr2 : v1.frozen? ⟨w.heap.size + 1 + 1, 2, none⟩ = false := (hb.frozen (p := ⟨w.heap.size + 1 + 1, 2, none⟩) zcr).trans fcr2
      replace fcr3 : v1.frozen? ⟨w.heap.size + 1 + 1, 3, none⟩ = false := (hb.frozen (p := ⟨w.heap.size + 1 + 1, 3, none⟩) zcr).trans fcr3
      replace fcr4 : v1.frozen? ⟨w.heap.size + 1 + 1, 4, none⟩ = false := (hb.frozen (p := ⟨w.heap.size + 1 + 1, 4, none⟩) zcr).trans fcr4
      replace zcr : w.heap.size + 1 + 1 < v1.heap.size := Nat.lt_of_lt_of_le zcr hb.size
      replace HB := hide (HB.out.trans (hb.mono HB.out.size))
      clear hb
      have hfl := specFlowOk_any a p v1
      rw [hF] at hfl
      go_wp2_with fail
      refine (hfl).mono ?_
      rintro e v2 ⟨rfl, hb⟩
      replace ct0 : v2.cell? ⟨w.heap.size, 0, none⟩ = some (.slice o l.length c) := (hb.cell (p := ⟨w.heap.size, 0, none⟩) zct).trans ct0
      replace zct : w.heap.size < v2.heap.size := Nat.lt_of_lt_of_le zct hb.size
      replace cf0 : v2.cell? ⟨w.heap.size + 1, 0, none⟩ = some (.int .i64 a) := (hb.cell (p := ⟨w.heap.size + 1, 0, none⟩) zcf).trans cf0
      replace cf1 : v2.cell? ⟨w.heap.size + 1, 1, none⟩ = some (.int .i64 p) := (hb.cell (p := ⟨w.heap.size + 1, 1, none⟩) zcf).trans cf1
      replace zcf : w.heap.size + 1 < v2.heap.size := Nat.lt_of_lt_of_le zcf hb.size
      replace cr0 : v2.cell? ⟨w.heap.size + 1 + 1, 0, none⟩ = some (.bool false) := (hb.cell (p := ⟨w.heap.size + 1 + 1, 0, none⟩) zcr).trans cr0
      replace cr1 : v2.cell? ⟨w.heap.size + 1 + 1, 1, none⟩ = some (.int .i64 0) := (hb.cell (p := ⟨w.heap.size + 1 + 1, 1, none⟩) zcr).trans cr1
      replace cr2 : v2.cell? ⟨w.heap.size + 1 + 1, 2, none⟩ = some (.int .i64 0) := (hb.cell (p := ⟨w.heap.size + 1 + 1, 2, none⟩) zcr).trans cr2
      replace cr3 : v2.cell? ⟨w.heap.size + 1 + 1, 3, none⟩ = some (.int .i64 0) := (hb.cell (p := ⟨w.heap.size + 1 + 1, 3, none⟩) zcr).trans cr3
      replace cr4 : v2.cell? ⟨w.heap.size + 1 + 1, 4, none⟩ = some (.int .i64 0) := (hb.cell (p := ⟨w.heap.size + 1 + 1, 4, none⟩) zcr).trans cr4
      replace fcr0 : v2.frozen? ⟨w.heap.size + 1 + 1, 0, none⟩ = false := (hb.frozen (p := ⟨w.heap.size + 1 + 1, 0, none⟩) zcr).trans fcr0
      replace fcr1 : v2.frozen? ⟨w.heap.size + 1 + 1, 1, none⟩ = false := (hb.frozen (p := ⟨w.heap.size + 1 + 1, 1, none⟩) zcr).trans fcr1
      replace fcr2 : v2.frozen? ⟨w.heap.size + 1 + 1, 2, none⟩ = false := (hb.frozen (p := ⟨w.heap.size + 1 + 1, 2, none⟩) zcr).trans fcr2
      replace fcr3 : v2.frozen? ⟨w.heap.size + 1 + 1, 3, none⟩ = false := (hb.frozen (p := ⟨w.heap.size + 1 + 1, 3, none⟩) zcr).trans fcr3
      replace fcr4 : v2.frozen? ⟨w.heap.size + 1 + 1, 4, none⟩ = false := (hb.frozen (p := ⟨w.heap.size + 1 + 1, 4, none⟩) zcr).trans fcr4
      replace zcr : w.heap.size + 1 + 1 < v2.heap.size := Nat.lt_of_lt_of_le zcr hb.size
      replace HB := hide (HB.out.trans (hb.mono HB.out.size))
      clear hb
      clear hok hfl hT hF
      go_wp2
      refine bodyPost_ret (v := .tuple #[slot sl0, .bool false]) (by simp [results, Try.results45, go_sem, cr0, cr1, cr2, cr3, cr4]) rfl ⟨by rw [HM.out, HG.out], below_set5 (s := sl0) HB.out (by omega)⟩
    | true =>
      have HM := hide (show getM l a p = getL l a p by unfold getM; rw [hT, hF]; rfl)
      have HG := hide (show gotB l a p = (endL l a p).2 by unfold gotB; rw [hT, hF]; rfl)
      rcases hR with hR | ⟨b, off, rfl, hbl, hcell⟩
      · subst hR; simp at hn
      have HC := hide hcell
      clear hcell
      go_enter Try.func45, Try.ntmps45
      go_wp2_with fail
      refine (hok).mono ?_
      rintro e v1 ⟨rfl, hb⟩
      replace ct0 : v1.cell? ⟨w.heap.size, 0, none⟩ = some (.slice (some ⟨b, off, none⟩) l.length c) := (hb.cell (p := ⟨w.heap.size, 0, none⟩) zct).trans ct0
      replace zct : w.heap.size < v1.heap.size := Nat.lt_of_lt_of_le zct hb.size
      replace cf0 : v1.cell? ⟨w.heap.size + 1, 0, none⟩ = some (.int .i64 a) := (hb.cell (p := ⟨w.heap.size + 1, 0, none⟩) zcf).trans cf0
      replace cf1 : v1.cell? ⟨w.heap.size + 1, 1, none⟩ = some (.int .i64 p) := (hb.cell (p := ⟨w.heap.size + 1, 1, none⟩) zcf).trans cf1
      replace zcf : w.heap.size + 1 < v1.heap.size := Nat.lt_of_lt_of_le zcf hb.size
      replace cr0 : v1.cell? ⟨w.heap.size + 1 + 1, 0, none⟩ = some (.bool false) := (hb.cell (p := ⟨w.heap.size + 1 + 1, 0, none⟩) zcr).trans cr0
      replace cr1 : v1.cell? ⟨w.heap.size + 1 + 1, 1, none⟩ = some (.int .i64 0) := (hb.cell (p := ⟨w.heap.size + 1 + 1, 1, none⟩) zcr).trans cr1
      replace cr2 : v1.cell? ⟨w.heap.size + 1 + 1, 2, none⟩ = some (.int .i64 0) := (hb.cell (p := ⟨w.heap.size + 1 + 1, 2, none⟩) zcr).trans cr2
      replace cr3 : v1.cell? ⟨w.heap.size + 1 + 1, 3, none⟩ = some (.int .i64 0) := (hb.cell (p := ⟨w.heap.size + 1 + 1, 3, none⟩) zcr).trans cr3
      replace cr4 : v1.cell? ⟨w.heap.size + 1 + 1, 4, none⟩ = some (.int .i64 0) := (hb.cell (p := ⟨w.heap.size + 1 + 1, 4, none⟩) zcr).trans cr4
      replace fcr0 : v1.frozen? ⟨w.heap.size + 1 + 1, 0, none⟩ = false := (hb.frozen (p := ⟨w.heap.size + 1 + 1, 0, none⟩) zcr).trans fcr0
      replace fcr1 : v1.frozen? ⟨w.heap.size + 1 + 1, 1, none⟩ = false := (hb.frozen (p := ⟨w.heap.size + 1 + 1, 1, none⟩) zcr).trans fcr1
      replace fcr2 : v1.frozen? ⟨w.heap.size + 1 + 1, 2, none⟩ = false := (hb.frozen (p := ⟨w.heap.size + 1 + 1, 2, none⟩) zcr).trans fcr2
      replace fcr3 : v1.frozen? ⟨w.heap.size + 1 + 1, 3, none⟩ = false := (hb.frozen (p := ⟨w.heap.size + 1 + 1, 3, none⟩) zcr).trans fcr3
      replace fcr4 : v1.frozen? ⟨w.heap.size + 1 + 1, 4, none⟩ = false := (hb.frozen (p := ⟨w.heap.size + 1 + 1, 4, none⟩) zcr).trans fcr4
      replace zcr : w.heap.size + 1 + 1 < v1.heap.size := Nat.lt_of_lt_of_le zcr hb.size
      replace HB := hide (HB.out.trans (hb.mono HB.out.size))
      clear hb
      have hfl := specFlowOk_any a p v1
      rw [hF] at hfl
      go_wp2_with fail
      refine (hfl).mono ?_
      rintro e v2 ⟨rfl, hb⟩
      replace ct0 : v2.cell? ⟨w.heap.size, 0, none⟩ = some (.slice (some ⟨b, off, none⟩) l.length c) := (hb.cell (p := ⟨w.heap.size, 0, none⟩) zct).trans ct0
      replace zct : w.heap.size < v2.heap.size := Nat.lt_of_lt_of_le zct hb.size
      replace cf0 : v2.cell? ⟨w.heap.size + 1, 0, none⟩ = some (.int .i64 a) := (hb.cell (p := ⟨w.heap.size + 1, 0, none⟩) zcf).trans cf0
      replace cf1 : v2.cell? ⟨w.heap.size + 1, 1, none⟩ = some (.int .i64 p) := (hb.cell (p := ⟨w.heap.size + 1, 1, none⟩) zcf).trans cf1
      replace zcf : w.heap.size + 1 < v2.heap.size := Nat.lt_of_lt_of_le zcf hb.size
      replace cr0 : v2.cell? ⟨w.heap.size + 1 + 1, 0, none⟩ = some (.bool false) := (hb.cell (p := ⟨w.heap.size + 1 + 1, 0, none⟩) zcr).trans cr0
      replace cr1 : v2.cell? ⟨w.heap.size + 1 + 1, 1, none⟩ = some (.int .i64 0) := (hb.cell (p := ⟨w.heap.size + 1 + 1, 1, none⟩) zcr).trans cr1
      replace cr2 : v2.cell? ⟨w.heap.size + 1 + 1, 2, none⟩ = some (.int .i64 0) := (hb.cell (p := ⟨w.heap.size + 1 + 1, 2, none⟩) zcr).trans cr2
      replace cr3 : v2.cell? ⟨w.heap.size + 1 + 1, 3, none⟩ = some (.int .i64 0) := (hb.cell (p := ⟨w.heap.size + 1 + 1, 3, none⟩) zcr).trans cr3
      replace cr4 : v2.cell? ⟨w.heap.size + 1 + 1, 4, none⟩ = some (.int .i64 0) := (hb.cell (p := ⟨w.heap.size + 1 + 1, 4, none⟩) zcr).trans cr4
      replace fcr0 : v2.frozen? ⟨w.heap.size + 1 + 1, 0, none⟩ = false := (hb.frozen (p := ⟨w.heap.size + 1 + 1, 0, none⟩) zcr).trans fcr0
      replace fcr1 : v2.frozen? ⟨w.heap.size + 1 + 1, 1, none⟩ = false := (hb.frozen (p := ⟨w.heap.size + 1 + 1, 1, none⟩) zcr).trans fcr1
      replace fcr2 : v2.frozen? ⟨w.heap.size + 1 + 1, 2, none⟩ = false := (hb.frozen (p := ⟨w.heap.size + 1 + 1, 2, none⟩) zcr).trans fcr2
      replace fcr3 : v2.frozen? ⟨w.heap.size + 1 + 1, 3, none⟩ = false := (hb.frozen (p := ⟨w.heap.size + 1 + 1, 3, none⟩) zcr).trans fcr3
      replace fcr4 : v2.frozen? ⟨w.heap.size + 1 + 1, 4, none⟩ = false := (hb.frozen (p := ⟨w.heap.size + 1 + 1, 4, none⟩) zcr).trans fcr4
      replace zcr : w.heap.size + 1 + 1 < v2.heap.size := Nat.lt_of_lt_of_le zcr hb.size
      replace HB := hide (HB.out.trans (hb.mono HB.out.size))
      clear hb
      go_wp2_with fail
      refine (l5get_any b off c l a p v2 (by omega) hl hF (Nat.lt_of_lt_of_le hbl HB.out.size) (fun i hi j hj => (HB.out.cell (p := ⟨b, off + i * layS.k + j, none⟩) hbl).trans (HC.out i hi j hj))).mono ?_
      rintro e v3 ⟨rfl, hb⟩
      replace ct0 : v3.cell? ⟨w.heap.size, 0, none⟩ = some (.slice (some ⟨b, off, none⟩) l.length c) := (hb.cell (p := ⟨w.heap.size, 0, none⟩) zct).trans ct0
      replace zct : w.heap.size < v3.heap.size := Nat.lt_of_lt_of_le zct hb.size
      replace cf0 : v3.cell? ⟨w.heap.size + 1, 0, none⟩ = some (.int .i64 a) := (hb.cell (p := ⟨w.heap.size + 1, 0, none⟩) zcf).trans cf0
      replace cf1 : v3.cell? ⟨w.heap.size + 1, 1, none⟩ = some (.int .i64 p) := (hb.cell (p := ⟨w.heap.size + 1, 1, none⟩) zcf).trans cf1
      replace zcf : w.heap.size + 1 < v3.heap.size := Nat.lt_of_lt_of_le zcf hb.size
      replace cr0 : v3.cell? ⟨w.heap.size + 1 + 1, 0, none⟩ = some (.bool false) := (hb.cell (p := ⟨w.heap.size + 1 + 1, 0, none⟩) zcr).trans cr0
      replace cr1 : v3.cell? ⟨w.heap.size + 1 + 1, 1, none⟩ = some (.int .i64 0) := (hb.cell (p := ⟨w.heap.size + 1 + 1, 1, none⟩) zcr).trans cr1
      replace cr2 : v3.cell? ⟨w.heap.size + 1 + 1, 2, none⟩ = some (.int .i64 0) := (hb.cell (p := ⟨w.heap.size + 1 + 1, 2, none⟩) zcr).trans cr2
      replace cr3 : v3.cell? ⟨w.heap.size + 1 + 1, 3, none⟩ = some (.int .i64 0) := (hb.cell (p := ⟨w.heap.size + 1 + 1, 3, none⟩) zcr).trans cr3
      replace cr4 : v3.cell? ⟨w.heap.size + 1 + 1, 4, none⟩ = some (.int .i64 0) := (hb.cell (p := ⟨w.heap.size + 1 + 1, 4, none⟩) zcr).trans cr4
      replace fcr0 : v3.frozen? ⟨w.heap.size + 1 + 1, 0, none⟩ = false := (hb.frozen (p := ⟨w.heap.size + 1 + 1, 0, none⟩) zcr).trans fcr0
      replace fcr1 : v3.frozen? ⟨w.heap.size + 1 + 1, 1, none⟩ = false := (hb.frozen (p := ⟨w.heap.size + 1 + 1, 1, none⟩) zcr).trans fcr1
      replace fcr2 : v3.frozen? ⟨w.heap.size + 1 + 1, 2, none⟩ = false := (hb.frozen (p := ⟨w.heap.size + 1 + 1, 2, none⟩) zcr).trans fcr2
      replace fcr3 : v3.frozen? ⟨w.heap.size + 1 + 1, 3, none⟩ = false := (hb.frozen (p := ⟨w.heap.size + 1 + 1, 3, none⟩) zcr).trans fcr3
      replace fcr4 : v3.frozen? ⟨w.heap.size + 1 + 1, 4, none⟩ = false := (hb.frozen (p := ⟨w.heap.size + 1 + 1, 4, none⟩) zcr).trans fcr4
      replace zcr : w.heap.size + 1 + 1 < v3.heap.size := Nat.lt_of_lt_of_le zcr hb.size
      replace HB := hide (HB.out.trans (hb.mono HB.out.size))
      clear hb
      clear hok hfl hT hF
      obtain ⟨q, hq⟩ : ∃ q, getL l a p = q := ⟨_, rfl⟩
      obtain ⟨f, hf⟩ : ∃ f, (endL l a p).2 = f := ⟨_, rfl⟩
      rw [hq] at HM
      rw [hf] at HG
      simp only [hq, hf]
      clear hq hf
      go_wp2
      refine bodyPost_ret (v := .tuple #[slot q, .bool f]) (by simp [results, Try.results45, go_sem, cr0, cr1, cr2, cr3, cr4]) rfl ⟨by rw [HM.out, HG.out], below_set5 (s := q) HB.out (by omega)⟩

set_option maxHeartbeats 2000000 in
theorem implGet_any (o : Option Addr) (c : Nat) (l : List Sl) (a p : Int) (w : World) (hR : RdS w.heap.size w o l) (hl : l.length ≤ 1048576) :
    Calls Try.prog 21 #[tab (.slice o l.length c), flow a p] w fun e w' => e = .returned (.tuple #[slot (getM l a p), .bool (gotB l a p)]) ∧ Below w.heap.size w w' := by
  obtain ⟨W0, hW0⟩ : ∃ W, (((w.alloc (.cells #[.slice o l.length c] 25)).alloc (.cells #[.int .i64 a, .int .i64 p] 27)).alloc (.cells #[.bool false, .int .i64 0, .int .i64 0, .int .i64 0, .int .i64 0] 35)) = W := ⟨_, rfl⟩
  have hb_W0 : Below w.heap.size w W0 := by rw [← hW0]; exact ((((Below.refl _ _).alloc (Nat.le_refl _) _).alloc (by simp <;> omega) _).alloc (by simp <;> omega) _)
  have HB := hide hb_W0
  clear hb_W0
  have zct : w.heap.size < W0.heap.size := by rw [← hW0]; simp <;> omega
  have ct0 : W0.cell? ⟨w.heap.size, 0, none⟩ = some (.slice o l.length c) := by rw [← hW0]; simp [go_sem]
  have zcf : w.heap.size + 1 < W0.heap.size := by rw [← hW0]; simp <;> omega
  have cf0 : W0.cell? ⟨w.heap.size + 1, 0, none⟩ = some (.int .i64 a) := by rw [← hW0]; simp [go_sem]
  have cf1 : W0.cell? ⟨w.heap.size + 1, 1, none⟩ = some (.int .i64 p) := by rw [← hW0]; simp [go_sem]
  have zcr : w.heap.size + 1 + 1 < W0.heap.size := by rw [← hW0]; simp
  have cr0 : W0.cell? ⟨w.heap.size + 1 + 1, 0, none⟩ = some (.bool false) := by rw [← hW0]; simp [go_sem]
  have cr1 : W0.cell? ⟨w.heap.size + 1 + 1, 1, none⟩ = some (.int .i64 0) := by rw [← hW0]; simp [go_sem]
  have cr2 : W0.cell? ⟨w.heap.size + 1 + 1, 2, none⟩ = some (.int .i64 0) := by rw [← hW0]; simp [go_sem]
  have cr3 : W0.cell? ⟨w.heap.size + 1 + 1, 3, none⟩ = some (.int .i64 0) := by rw [← hW0]; simp [go_sem]
  have cr4 : W0.cell? ⟨w.heap.size + 1 + 1, 4, none⟩ = some (.int .i64 0) := by rw [← hW0]; simp [go_sem]
  have fcr0 : W0.frozen? ⟨w.heap.size + 1 + 1, 0, none⟩ = false := by rw [← hW0]; simp [go_sem]
  have fcr1 : W0.frozen? ⟨w.heap.size + 1 + 1, 1, none⟩ = false := by rw [← hW0]; simp [go_sem]
  have fcr2 : W0.frozen? ⟨w.heap.size + 1 + 1, 2, none⟩ = false := by rw [← hW0]; simp [go_sem]
  have fcr3 : W0.frozen? ⟨w.heap.size + 1 + 1, 3, none⟩ = false := by rw [← hW0]; simp [go_sem]
  have fcr4 : W0.frozen? ⟨w.heap.size + 1 + 1, 4, none⟩ = false := by rw [← hW0]; simp [go_sem]
  have hc := tableFor_any o c l a p W0 ((hR.kept HB.out (Nat.le_refl _)).le HB.out.size) hl
  cases hT : (tableOkB l && flowOkB a p) with
  | false =>
    have HM := hide (show getM l a p = sl0 by unfold getM; rw [hT]; rfl)
    have HG := hide (show gotB l a p = false by unfold gotB; rw [hT]; rfl)
    rw [hT] at hc
    go_enter Try.func21, Try.ntmps21
    go_wp2_with fail
    refine (hc).mono ?_
    rintro e v1 ⟨o', n', c', rfl, hv, hb⟩
    replace ct0 : v1.cell? ⟨w.heap.size, 0, none⟩ = some (.slice o l.length c) := (hb.cell (p := ⟨w.heap.size, 0, none⟩) zct).trans ct0
    replace zct : w.heap.size < v1.heap.size := Nat.lt_of_lt_of_le zct hb.size
    replace cf0 : v1.cell? ⟨w.heap.size + 1, 0, none⟩ = some (.int .i64 a) := (hb.cell (p := ⟨w.heap.size + 1, 0, none⟩) zcf).trans cf0
    replace cf1 : v1.cell? ⟨w.heap.size + 1, 1, none⟩ = some (.int .i64 p) := (hb.cell (p := ⟨w.heap.size + 1, 1, none⟩) zcf).trans cf1
    replace zcf : w.heap.size + 1 < v1.heap.size := Nat.lt_of_lt_of_le zcf hb.size
    replace cr0 : v1.cell? ⟨w.heap.size + 1 + 1, 0, none⟩ = some (.bool false) := (hb.cell (p := ⟨w.heap.size + 1 + 1, 0, none⟩) zcr).trans cr0
    replace cr1 : v1.cell? ⟨w.heap.size + 1 + 1, 1, none⟩ = some (.int .i64 0) := (hb.cell (p := ⟨w.heap.size + 1 + 1, 1, none⟩) zcr).trans cr1
    replace cr2 : v1.cell? ⟨w.heap.size + 1 + 1, 2, none⟩ = some (.int .i64 0) := (hb.cell (p := ⟨w.heap.size + 1 + 1, 2, none⟩) zcr).trans cr2
    replace cr3 : v1.cell? ⟨w.heap.size + 1 + 1, 3, none⟩ = some (.int .i64 0) := (hb.cell (p := ⟨w.heap.size + 1 + 1, 3, none⟩) zcr).trans cr3
    replace cr4 : v1.cell? ⟨w.heap.size + 1 + 1, 4, none⟩ = some (.int .i64 0) := (hb.cell (p := ⟨w.heap.size + 1 + 1, 4, none⟩) zcr).trans cr4
    replace fcr0 : v1.frozen? ⟨w.heap.size + 1 + 1, 0, none⟩ = false := (hb.frozen (p := ⟨w.heap.size + 1 + 1, 0, none⟩) zcr).trans fcr0
    replace fcr1 : v1.frozen? ⟨w.heap.size + 1 + 1, 1, none⟩ = false := (hb.frozen (p := ⟨w.heap.size + 1 + 1, 1, none⟩) zcr).trans fcr1
    replace fcr2 : v1.frozen? ⟨w.heap.size + 1 + 1, 2, none⟩ = false := (hb.frozen (p := ⟨w.heap.size + 1 + 1, 2, none⟩) zcr).trans fcr2
    replace fcr3 : v1.frozen? ⟨w.heap.size + 1 + 1, 3, none⟩ = false := (hb.frozen (p := ⟨w.heap.size + 1 + 1, 3, none⟩) zcr).trans fcr3
    replace fcr4 : v1.frozen? ⟨w.heap.size + 1 + 1, 4, none⟩ = false := (hb.frozen (p := ⟨w.heap.size + 1 + 1, 4, none⟩) zcr).trans fcr4
    replace zcr : w.heap.size + 1 + 1 < v1.heap.size := Nat.lt_of_lt_of_le zcr hb.size
    replace HB := hide (HB.out.trans (hb.mono HB.out.size))
    clear hb
    obtain ⟨W2, hW2⟩ : ∃ W, (v1.alloc (.cells #[.slice o' n' c'] 78)) = W := ⟨_, rfl⟩
    have hb_W2 : Below v1.heap.size v1 W2 := by rw [← hW2]; exact ((Below.refl _ _).alloc (Nat.le_refl _) _)
    replace ct0 : W2.cell? ⟨w.heap.size, 0, none⟩ = some (.slice o l.length c) := (hb_W2.cell (p := ⟨w.heap.size, 0, none⟩) zct).trans ct0
    replace zct : w.heap.size < W2.heap.size := Nat.lt_of_lt_of_le zct hb_W2.size
    replace cf0 : W2.cell? ⟨w.heap.size + 1, 0, none⟩ = some (.int .i64 a) := (hb_W2.cell (p := ⟨w.heap.size + 1, 0, none⟩) zcf).trans cf0
    replace cf1 : W2.cell? ⟨w.heap.size + 1, 1, none⟩ = some (.int .i64 p) := (hb_W2.cell (p := ⟨w.heap.size + 1, 1, none⟩) zcf).trans cf1
    replace zcf : w.heap.size + 1 < W2.heap.size := Nat.lt_of_lt_of_le zcf hb_W2.size
    replace cr0 : W2.cell? ⟨w.heap.size + 1 + 1, 0, none⟩ = some (.bool false) := (hb_W2.cell (p := ⟨w.heap.size + 1 + 1, 0, none⟩) zcr).trans cr0
    replace cr1 : W2.cell? ⟨w.heap.size + 1 + 1, 1, none⟩ = some (.int .i64 0) := (hb_W2.cell (p := ⟨w.heap.size + 1 + 1, 1, none⟩) zcr).trans cr1
    replace cr2 : W2.cell? ⟨w.heap.size + 1 + 1, 2, none⟩ = some (.int .i64 0) := (hb_W2.cell (p := ⟨w.heap.size + 1 + 1, 2, none⟩) zcr).trans cr2
    replace cr3 : W2.cell? ⟨w.heap.size + 1 + 1, 3, none⟩ = some (.int .i64 0) := (hb_W2.cell (p := ⟨w.heap.size + 1 + 1, 3, none⟩) zcr).trans cr3
    replace cr4 : W2.cell? ⟨w.heap.size + 1 + 1, 4, none⟩ = some (.int .i64 0) := (hb_W2.cell (p := ⟨w.heap.size + 1 + 1, 4, none⟩) zcr).trans cr4
    replace fcr0 : W2.frozen? ⟨w.heap.size + 1 + 1, 0, none⟩ = false := (hb_W2.frozen (p := ⟨w.heap.size + 1 + 1, 0, none⟩) zcr).trans fcr0
    replace fcr1 : W2.frozen? ⟨w.heap.size + 1 + 1, 1, none⟩ = false := (hb_W2.frozen (p := ⟨w.heap.size + 1 + 1, 1, none⟩) zcr).trans fcr1
    replace fcr2 : W2.frozen? ⟨w.heap.size + 1 + 1, 2, none⟩ = false := (hb_W2.frozen (p := ⟨w.heap.size + 1 + 1, 2, none⟩) zcr).trans fcr2
    replace fcr3 : W2.frozen? ⟨w.heap.size + 1 + 1, 3, none⟩ = false := (hb_W2.frozen (p := ⟨w.heap.size + 1 + 1, 3, none⟩) zcr).trans fcr3
    replace fcr4 : W2.frozen? ⟨w.heap.size + 1 + 1, 4, none⟩ = false := (hb_W2.frozen (p := ⟨w.heap.size + 1 + 1, 4, none⟩) zcr).trans fcr4
    replace zcr : w.heap.size + 1 + 1 < W2.heap.size := Nat.lt_of_lt_of_le zcr hb_W2.size
    replace HB := hide (HB.out.trans (hb_W2.mono HB.out.size))
    clear hb_W2
    have zck : v1.heap.size < W2.heap.size := by rw [← hW2]; simp
    have ck0 : W2.cell? ⟨v1.heap.size, 0, none⟩ = some (.slice o' n' c') := by rw [← hW2]; simp [go_sem]
    clear hc hv hT
    go_wp2
    refine bodyPost_ret (v := .tuple #[slot sl0, .bool false]) (by simp [results, Try.results21, go_sem, cr0, cr1, cr2, cr3, cr4]) rfl ⟨by rw [HM.out, HG.out], below_set5 (s := sl0) HB.out (by omega)⟩
  | true =>
    have HM := hide (show getM l a p = getL l a p by unfold getM; rw [hT]; rfl)
    have HG := hide (show gotB l a p = (endL l a p).2 by unfold gotB; rw [hT]; rfl)
    rw [hT] at hc
    obtain ⟨hT1, hT2⟩ := (Bool.and_eq_true _ _).mp hT
    have hn := (tableOkB_iff.1 hT1).1
    clear hT hT1
    go_enter Try.func21, Try.ntmps21
    go_wp2_with fail
    refine (hc).mono ?_
    rintro e v1 ⟨o', n', c', rfl, hv, hb⟩
    obtain ⟨g, rfl, rfl, rfl, hown⟩ := hv (by simp)
    have HO := hide hown
    clear hown hv
    replace ct0 : v1.cell? ⟨w.heap.size, 0, none⟩ = some (.slice o l.length c) := (hb.cell (p := ⟨w.heap.size, 0, none⟩) zct).trans ct0
    replace zct : w.heap.size < v1.heap.size := Nat.lt_of_lt_of_le zct hb.size
    replace cf0 : v1.cell? ⟨w.heap.size + 1, 0, none⟩ = some (.int .i64 a) := (hb.cell (p := ⟨w.heap.size + 1, 0, none⟩) zcf).trans cf0
    replace cf1 : v1.cell? ⟨w.heap.size + 1, 1, none⟩ = some (.int .i64 p) := (hb.cell (p := ⟨w.heap.size + 1, 1, none⟩) zcf).trans cf1
    replace zcf : w.heap.size + 1 < v1.heap.size := Nat.lt_of_lt_of_le zcf hb.size
    replace cr0 : v1.cell? ⟨w.heap.size + 1 + 1, 0, none⟩ = some (.bool false) := (hb.cell (p := ⟨w.heap.size + 1 + 1, 0, none⟩) zcr).trans cr0
    replace cr1 : v1.cell? ⟨w.heap.size + 1 + 1, 1, none⟩ = some (.int .i64 0) := (hb.cell (p := ⟨w.heap.size + 1 + 1, 1, none⟩) zcr).trans cr1
    replace cr2 : v1.cell? ⟨w.heap.size + 1 + 1, 2, none⟩ = some (.int .i64 0) := (hb.cell (p := ⟨w.heap.size + 1 + 1, 2, none⟩) zcr).trans cr2
    replace cr3 : v1.cell? ⟨w.heap.size + 1 + 1, 3, none⟩ = some (.int .i64 0) := (hb.cell (p := ⟨w.heap.size + 1 + 1, 3, none⟩) zcr).trans cr3
    replace cr4 : v1.cell? ⟨w.heap.size + 1 + 1, 4, none⟩ = some (.int .i64 0) := (hb.cell (p := ⟨w.heap.size + 1 + 1, 4, none⟩) zcr).trans cr4
    replace fcr0 : v1.frozen? ⟨w.heap.size + 1 + 1, 0, none⟩ = false := (hb.frozen (p := ⟨w.heap.size + 1 + 1, 0, none⟩) zcr).trans fcr0
    replace fcr1 : v1.frozen? ⟨w.heap.size + 1 + 1, 1, none⟩ = false := (hb.frozen (p := ⟨w.heap.size + 1 + 1, 1, none⟩) zcr).trans fcr1
    replace fcr2 : v1.frozen? ⟨w.heap.size + 1 + 1, 2, none⟩ = false := (hb.frozen (p := ⟨w.heap.size + 1 + 1, 2, none⟩) zcr).trans fcr2
    replace fcr3 : v1.frozen? ⟨w.heap.size + 1 + 1, 3, none⟩ = false := (hb.frozen (p := ⟨w.heap.size + 1 + 1, 3, none⟩) zcr).trans fcr3
    replace fcr4 : v1.frozen? ⟨w.heap.size + 1 + 1, 4, none⟩ = false := (hb.frozen (p := ⟨w.heap.size + 1 + 1, 4, none⟩) zcr).trans fcr4
    replace zcr : w.heap.size + 1 + 1 < v1.heap.size := Nat.lt_of_lt_of_le zcr hb.size
    replace HB := hide (HB.out.trans (hb.mono HB.out.size))
    clear hb
    obtain ⟨W2, hW2⟩ : ∃ W, (v1.alloc (.cells #[.slice (some ⟨g, 0, none⟩) l.length l.length] 78)) = W := ⟨_, rfl⟩
    have hb_W2 : Below v1.heap.size v1 W2 := by rw [← hW2]; exact ((Below.refl _ _).alloc (Nat.le_refl _) _)
    replace ct0 : W2.cell? ⟨w.heap.size, 0, none⟩ = some (.slice o l.length c) := (hb_W2.cell (p := ⟨w.heap.size, 0, none⟩) zct).trans ct0
    replace zct : w.heap.size < W2.heap.size := Nat.lt_of_lt_of_le zct hb_W2.size
    replace cf0 : W2.cell? ⟨w.heap.size + 1, 0, none⟩ = some (.int .i64 a) := (hb_W2.cell (p := ⟨w.heap.size + 1, 0, none⟩) zcf).trans cf0
    replace cf1 : W2.cell? ⟨w.heap.size + 1, 1, none⟩ = some (.int .i64 p) := (hb_W2.cell (p := ⟨w.heap.size + 1, 1, none⟩) zcf).trans cf1
    replace zcf : w.heap.size + 1 < W2.heap.size := Nat.lt_of_lt_of_le zcf hb_W2.size
    replace cr0 : W2.cell? ⟨w.heap.size + 1 + 1, 0, none⟩ = some (.bool false) := (hb_W2.cell (p := ⟨w.heap.size + 1 + 1, 0, none⟩) zcr).trans cr0
    replace cr1 : W2.cell? ⟨w.heap.size + 1 + 1, 1, none⟩ = some (.int .i64 0) := (hb_W2.cell (p := ⟨w.heap.size + 1 + 1, 1, none⟩) zcr).trans cr1
    replace cr2 : W2.cell? ⟨w.heap.size + 1 + 1, 2, none⟩ = some (.int .i64 0) := (hb_W2.cell (p := ⟨w.heap.size + 1 + 1, 2, none⟩) zcr).trans cr2
    replace cr3 : W2.cell? ⟨w.heap.size + 1 + 1, 3, none⟩ = some (.int .i64 0) := (hb_W2.cell (p := ⟨w.heap.size + 1 + 1, 3, none⟩) zcr).trans cr3
    replace cr4 : W2.cell? ⟨w.heap.size + 1 + 1, 4, none⟩ = some (.int .i64 0) := (hb_W2.cell (p := ⟨w.heap.size + 1 + 1, 4, none⟩) zcr).trans cr4
    replace fcr0 : W2.frozen? ⟨w.heap.size + 1 + 1, 0, none⟩ = false := (hb_W2.frozen (p := ⟨w.heap.size + 1 + 1, 0, none⟩) zcr).trans fcr0
    replace fcr1 : W2.frozen? ⟨w.heap.size + 1 + 1, 1, none⟩ = false := (hb_W2.frozen (p := ⟨w.heap.size + 1 + 1, 1, none⟩) zcr).trans fcr1
    replace fcr2 : W2.frozen? ⟨w.heap.size + 1 + 1, 2, none⟩ = false := (hb_W2.frozen (p := ⟨w.heap.size + 1 + 1, 2, none⟩) zcr).trans fcr2
    replace fcr3 : W2.frozen? ⟨w.heap.size + 1 + 1, 3, none⟩ = false := (hb_W2.frozen (p := ⟨w.heap.size + 1 + 1, 3, none⟩) zcr).trans fcr3
    replace fcr4 : W2.frozen? ⟨w.heap.size + 1 + 1, 4, none⟩ = false := (hb_W2.frozen (p := ⟨w.heap.size + 1 + 1, 4, none⟩) zcr).trans fcr4
    replace zcr : w.heap.size + 1 + 1 < W2.heap.size := Nat.lt_of_lt_of_le zcr hb_W2.size
    replace HO := hide (own_kept HO.out hb_W2)
    replace HB := hide (HB.out.trans (hb_W2.mono HB.out.size))
    clear hb_W2
    have zck : v1.heap.size < W2.heap.size := by rw [← hW2]; simp
    have ck0 : W2.cell? ⟨v1.heap.size, 0, none⟩ = some (.slice (some ⟨g, 0, none⟩) l.length l.length) := by rw [← hW2]; simp [go_sem]
    go_wp2_with fail
    refine (get_any g 0 l.length l a p W2 (by omega) hl hT2 (HO.out.lt g rfl).2 (rd_of_own HO.out rfl)).mono ?_
    rintro e v2 ⟨rfl, hb⟩
    replace ct0 : v2.cell? ⟨w.heap.size, 0, none⟩ = some (.slice o l.length c) := (hb.cell (p := ⟨w.heap.size, 0, none⟩) zct).trans ct0
    replace zct : w.heap.size < v2.heap.size := Nat.lt_of_lt_of_le zct hb.size
    replace cf0 : v2.cell? ⟨w.heap.size + 1, 0, none⟩ = some (.int .i64 a) := (hb.cell (p := ⟨w.heap.size + 1, 0, none⟩) zcf).trans cf0
    replace cf1 : v2.cell? ⟨w.heap.size + 1, 1, none⟩ = some (.int .i64 p) := (hb.cell (p := ⟨w.heap.size + 1, 1, none⟩) zcf).trans cf1
    replace zcf : w.heap.size + 1 < v2.heap.size := Nat.lt_of_lt_of_le zcf hb.size
    replace cr0 : v2.cell? ⟨w.heap.size + 1 + 1, 0, none⟩ = some (.bool false) := (hb.cell (p := ⟨w.heap.size + 1 + 1, 0, none⟩) zcr).trans cr0
    replace cr1 : v2.cell? ⟨w.heap.size + 1 + 1, 1, none⟩ = some (.int .i64 0) := (hb.cell (p := ⟨w.heap.size + 1 + 1, 1, none⟩) zcr).trans cr1
    replace cr2 : v2.cell? ⟨w.heap.size + 1 + 1, 2, none⟩ = some (.int .i64 0) := (hb.cell (p := ⟨w.heap.size + 1 + 1, 2, none⟩) zcr).trans cr2
    replace cr3 : v2.cell? ⟨w.heap.size + 1 + 1, 3, none⟩ = some (.int .i64 0) := (hb.cell (p := ⟨w.heap.size + 1 + 1, 3, none⟩) zcr).trans cr3
    replace cr4 : v2.cell? ⟨w.heap.size + 1 + 1, 4, none⟩ = some (.int .i64 0) := (hb.cell (p := ⟨w.heap.size + 1 + 1, 4, none⟩) zcr).trans cr4
    replace fcr0 : v2.frozen? ⟨w.heap.size + 1 + 1, 0, none⟩ = false := (hb.frozen (p := ⟨w.heap.size + 1 + 1, 0, none⟩) zcr).trans fcr0
    replace fcr1 : v2.frozen? ⟨w.heap.size + 1 + 1, 1, none⟩ = false := (hb.frozen (p := ⟨w.heap.size + 1 + 1, 1, none⟩) zcr).trans fcr1
    replace fcr2 : v2.frozen? ⟨w.heap.size + 1 + 1, 2, none⟩ = false := (hb.frozen (p := ⟨w.heap.size + 1 + 1, 2, none⟩) zcr).trans fcr2
    replace fcr3 : v2.frozen? ⟨w.heap.size + 1 + 1, 3, none⟩ = false := (hb.frozen (p := ⟨w.heap.size + 1 + 1, 3, none⟩) zcr).trans fcr3
    replace fcr4 : v2.frozen? ⟨w.heap.size + 1 + 1, 4, none⟩ = false := (hb.frozen (p := ⟨w.heap.size + 1 + 1, 4, none⟩) zcr).trans fcr4
    replace zcr : w.heap.size + 1 + 1 < v2.heap.size := Nat.lt_of_lt_of_le zcr hb.size
    replace ck0 : v2.cell? ⟨v1.heap.size, 0, none⟩ = some (.slice (some ⟨g, 0, none⟩) l.length l.length) := (hb.cell (p := ⟨v1.heap.size, 0, none⟩) zck).trans ck0
    replace zck : v1.heap.size < v2.heap.size := Nat.lt_of_lt_of_le zck hb.size
    replace HO := hide (own_kept HO.out hb)
    replace HB := hide (HB.out.trans (hb.mono HB.out.size))
    clear hb
    clear hc hT2
    obtain ⟨q, hq⟩ : ∃ q, getL l a p = q := ⟨_, rfl⟩
    obtain ⟨f, hf⟩ : ∃ f, (endL l a p).2 = f := ⟨_, rfl⟩
    rw [hq] at HM
    rw [hf] at HG
    simp only [hq, hf]
    clear hq hf
    obtain ⟨W3, hW3⟩ : ∃ W, (v2.alloc (.cells #[.bool q.u, .int .i64 q.a, .int .i64 q.p, .int .i64 q.v, .int .i64 q.t] 87)) = W := ⟨_, rfl⟩
    have hb_W3 : Below v2.heap.size v2 W3 := by rw [← hW3]; exact ((Below.refl _ _).alloc (Nat.le_refl _) _)
    replace ct0 : W3.cell? ⟨w.heap.size, 0, none⟩ = some (.slice o l.length c) := (hb_W3.cell (p := ⟨w.heap.size, 0, none⟩) zct).trans ct0
    replace zct : w.heap.size < W3.heap.size := Nat.lt_of_lt_of_le zct hb_W3.size
    replace cf0 : W3.cell? ⟨w.heap.size + 1, 0, none⟩ = some (.int .i64 a) := (hb_W3.cell (p := ⟨w.heap.size + 1, 0, none⟩) zcf).trans cf0
    replace cf1 : W3.cell? ⟨w.heap.size + 1, 1, none⟩ = some (.int .i64 p) := (hb_W3.cell (p := ⟨w.heap.size + 1, 1, none⟩) zcf).trans cf1
    replace zcf : w.heap.size + 1 < W3.heap.size := Nat.lt_of_lt_of_le zcf hb_W3.size
    replace cr0 : W3.cell? ⟨w.heap.size + 1 + 1, 0, none⟩ = some (.bool false) := (hb_W3.cell (p := ⟨w.heap.size + 1 + 1, 0, none⟩) zcr).trans cr0
    replace cr1 : W3.cell? ⟨w.heap.size + 1 + 1, 1, none⟩ = some (.int .i64 0) := (hb_W3.cell (p := ⟨w.heap.size + 1 + 1, 1, none⟩) zcr).trans cr1
    replace cr2 : W3.cell? ⟨w.heap.size + 1 + 1, 2, none⟩ = some (.int .i64 0) := (hb_W3.cell (p := ⟨w.heap.size + 1 + 1, 2, none⟩) zcr).trans cr2
    replace cr3 : W3.cell? ⟨w.heap.size + 1 + 1, 3, none⟩ = some (.int .i64 0) := (hb_W3.cell (p := ⟨w.heap.size + 1 + 1, 3, none⟩) zcr).trans cr3
    replace cr4 : W3.cell? ⟨w.heap.size + 1 + 1, 4, none⟩ = some (.int .i64 0) := (hb_W3.cell (p := ⟨w.heap.size + 1 + 1, 4, none⟩) zcr).trans cr4
    replace fcr0 : W3.frozen? ⟨w.heap.size + 1 + 1, 0, none⟩ = false := (hb_W3.frozen (p := ⟨w.heap.size + 1 + 1, 0, none⟩) zcr).trans fcr0
    replace fcr1 : W3.frozen? ⟨w.heap.size + 1 + 1, 1, none⟩ = false := (hb_W3.frozen (p := ⟨w.heap.size + 1 + 1, 1, none⟩) zcr).trans fcr1
    replace fcr2 : W3.frozen? ⟨w.heap.size + 1 + 1, 2, none⟩ = false := (hb_W3.frozen (p := ⟨w.heap.size + 1 + 1, 2, none⟩) zcr).trans fcr2
    replace fcr3 : W3.frozen? ⟨w.heap.size + 1 + 1, 3, none⟩ = false := (hb_W3.frozen (p := ⟨w.heap.size + 1 + 1, 3, none⟩) zcr).trans fcr3
    replace fcr4 : W3.frozen? ⟨w.heap.size + 1 + 1, 4, none⟩ = false := (hb_W3.frozen (p := ⟨w.heap.size + 1 + 1, 4, none⟩) zcr).trans fcr4
    replace zcr : w.heap.size + 1 + 1 < W3.heap.size := Nat.lt_of_lt_of_le zcr hb_W3.size
    replace ck0 : W3.cell? ⟨v1.heap.size, 0, none⟩ = some (.slice (some ⟨g, 0, none⟩) l.length l.length) := (hb_W3.cell (p := ⟨v1.heap.size, 0, none⟩) zck).trans ck0
    replace zck : v1.heap.size < W3.heap.size := Nat.lt_of_lt_of_le zck hb_W3.size
    replace HO := hide (own_kept HO.out hb_W3)
    replace HB := hide (HB.out.trans (hb_W3.mono HB.out.size))
    clear hb_W3
    have zcq : v2.heap.size < W3.heap.size := by rw [← hW3]; simp
    have cq0 : W3.cell? ⟨v2.heap.size, 0, none⟩ = some (.bool q.u) := by rw [← hW3]; simp [go_sem]
    have cq1 : W3.cell? ⟨v2.heap.size, 1, none⟩ = some (.int .i64 q.a) := by rw [← hW3]; simp [go_sem]
    have cq2 : W3.cell? ⟨v2.heap.size, 2, none⟩ = some (.int .i64 q.p) := by rw [← hW3]; simp [go_sem]
    have cq3 : W3.cell? ⟨v2.heap.size, 3, none⟩ = some (.int .i64 q.v) := by rw [← hW3]; simp [go_sem]
    have cq4 : W3.cell? ⟨v2.heap.size, 4, none⟩ = some (.int .i64 q.t) := by rw [← hW3]; simp [go_sem]
    go_wp2_with fail
    refine (slotOf_any q W3).mono ?_
    rintro e v3 ⟨rfl, hb⟩
    replace ct0 : v3.cell? ⟨w.heap.size, 0, none⟩ = some (.slice o l.length c) := (hb.cell (p := ⟨w.heap.size, 0, none⟩) zct).trans ct0
    replace zct : w.heap.size < v3.heap.size := Nat.lt_of_lt_of_le zct hb.size
    replace cf0 : v3.cell? ⟨w.heap.size + 1, 0, none⟩ = some (.int .i64 a) := (hb.cell (p := ⟨w.heap.size + 1, 0, none⟩) zcf).trans cf0
    replace cf1 : v3.cell? ⟨w.heap.size + 1, 1, none⟩ = some (.int .i64 p) := (hb.cell (p := ⟨w.heap.size + 1, 1, none⟩) zcf).trans cf1
    replace zcf : w.heap.size + 1 < v3.heap.size := Nat.lt_of_lt_of_le zcf hb.size
    replace cr0 : v3.cell? ⟨w.heap.size + 1 + 1, 0, none⟩ = some (.bool false) := (hb.cell (p := ⟨w.heap.size + 1 + 1, 0, none⟩) zcr).trans cr0
    replace cr1 : v3.cell? ⟨w.heap.size + 1 + 1, 1, none⟩ = some (.int .i64 0) := (hb.cell (p := ⟨w.heap.size + 1 + 1, 1, none⟩) zcr).trans cr1
    replace cr2 : v3.cell? ⟨w.heap.size + 1 + 1, 2, none⟩ = some (.int .i64 0) := (hb.cell (p := ⟨w.heap.size + 1 + 1, 2, none⟩) zcr).trans cr2
    replace cr3 : v3.cell? ⟨w.heap.size + 1 + 1, 3, none⟩ = some (.int .i64 0) := (hb.cell (p := ⟨w.heap.size + 1 + 1, 3, none⟩) zcr).trans cr3
    replace cr4 : v3.cell? ⟨w.heap.size + 1 + 1, 4, none⟩ = some (.int .i64 0) := (hb.cell (p := ⟨w.heap.size + 1 + 1, 4, none⟩) zcr).trans cr4
    replace fcr0 : v3.frozen? ⟨w.heap.size + 1 + 1, 0, none⟩ = false := (hb.frozen (p := ⟨w.heap.size + 1 + 1, 0, none⟩) zcr).trans fcr0
    replace fcr1 : v3.frozen? ⟨w.heap.size + 1 + 1, 1, none⟩ = false := (hb.frozen (p := ⟨w.heap.size + 1 + 1, 1, none⟩) zcr).trans fcr1
    replace fcr2 : v3.frozen? ⟨w.heap.size + 1 + 1, 2, none⟩ = false := (hb.frozen (p := ⟨w.heap.size + 1 + 1, 2, none⟩) zcr).trans fcr2
    replace fcr3 : v3.frozen? ⟨w.heap.size + 1 + 1, 3, none⟩ = false := (hb.frozen (p := ⟨w.heap.size + 1 + 1, 3, none⟩) zcr).trans fcr3
    replace fcr4 : v3.frozen? ⟨w.heap.size + 1 + 1, 4, none⟩ = false := (hb.frozen (p := ⟨w.heap.size + 1 + 1, 4, none⟩) zcr).trans fcr4
    replace zcr : w.heap.size + 1 + 1 < v3.heap.size := Nat.lt_of_lt_of_le zcr hb.size
    replace ck0 : v3.cell? ⟨v1.heap.size, 0, none⟩ = some (.slice (some ⟨g, 0, none⟩) l.length l.length) := (hb.cell (p := ⟨v1.heap.size, 0, none⟩) zck).trans ck0
    replace zck : v1.heap.size < v3.heap.size := Nat.lt_of_lt_of_le zck hb.size
    replace cq0 : v3.cell? ⟨v2.heap.size, 0, none⟩ = some (.bool q.u) := (hb.cell (p := ⟨v2.heap.size, 0, none⟩) zcq).trans cq0
    replace cq1 : v3.cell? ⟨v2.heap.size, 1, none⟩ = some (.int .i64 q.a) := (hb.cell (p := ⟨v2.heap.size, 1, none⟩) zcq).trans cq1
    replace cq2 : v3.cell? ⟨v2.heap.size, 2, none⟩ = some (.int .i64 q.p) := (hb.cell (p := ⟨v2.heap.size, 2, none⟩) zcq).trans cq2
    replace cq3 : v3.cell? ⟨v2.heap.size, 3, none⟩ = some (.int .i64 q.v) := (hb.cell (p := ⟨v2.heap.size, 3, none⟩) zcq).trans cq3
    replace cq4 : v3.cell? ⟨v2.heap.size, 4, none⟩ = some (.int .i64 q.t) := (hb.cell (p := ⟨v2.heap.size, 4, none⟩) zcq).trans cq4
    replace zcq : v2.heap.size < v3.heap.size := Nat.lt_of_lt_of_le zcq hb.size
    replace HO := hide (own_kept HO.out hb)
    replace HB := hide (HB.out.trans (hb.mono HB.out.size))
    clear hb
    go_wp2
    refine bodyPost_ret (v := .tuple #[slot q, .bool f]) (by simp [results, Try.results21, go_sem, cr0, cr1, cr2, cr3, cr4]) rfl ⟨by rw [HM.out, HG.out], below_set5 (s := q) HB.out (by omega)⟩

theorem specGet_sh (v : Value) (m : List Sl) (a p : Int) (w : World) (hR : RdT w.heap.size w v m) (hf : m.length ≤ 1048576) :
    Calls Try.prog 45 #[v, flow a p] w fun e w' => e = .returned (.tuple #[slot (getM m a p), .bool (gotB m a p)]) ∧ Below w.heap.size w w' := by
  obtain ⟨vl, rfl, o, c, rfl, r⟩ := hR
  exact specGet_any o c m a p w r hf
theorem implGet_sh (v : Value) (m : List Sl) (a p : Int) (w : World) (hR : RdT w.heap.size w v m) (hf : m.length ≤ 1048576) :
    Calls Try.prog 21 #[v, flow a p] w fun e w' => e = .returned (.tuple #[slot (getM m a p), .bool (gotB m a p)]) ∧ Below w.heap.size w w' := by
  obtain ⟨vl, rfl, o, c, rfl, r⟩ := hR
  exact implGet_any o c m a p w r hf

end Go.Proofs.Ytncdjmniphnpgaa
