/- Several texts in one: SSoon, SGet, SHint, CandMath, RouteMath. -/
import Derived.Deep.RegionWith
import Derived.Test.YtajfkcpifnpkeaaGreatQSend33
import Derived.Test.YtajfkcpifnpkeaaGreatQSend36
import Derived.Test.YtajfkcpifnpkeaaGreatQSend07
import Derived.Test.YtajfkcpifnpkeaaGreatQSend21
import Derived.Test.YtajfkcpifnpkeaaGreatQSend06
import Derived.Test.YtajfkcpifnpkeaaGreatQSend37
import Derived.Test.YtajfkcpifnpkeaaGreatQSend28
import Derived.Test.YtajfkcpifnpkeaaGreatQSend29
/- Soonest, on both sides. -/
namespace Go.Proofs.YtajfkcpifnpkeaaGreat
open Go.ChangeShapes Go.WideShapes Go.ChangeAt Go.RowKit Go.Joins
set_option linter.unusedVariables false
set_option linter.unusedSimpArgs false

def set5 (w : World) (B : Nat) (s : Sl) : World := ((((w.setCell ⟨B, 0, none⟩ (.bool s.u)).setCell ⟨B, 1, none⟩ (.int .i64 s.a)).setCell ⟨B, 2, none⟩ (.int .i64 s.p)).setCell ⟨B, 3, none⟩ (.int .i64 s.v)).setCell ⟨B, 4, none⟩ (.int .i64 s.t)
theorem below_set5 {w W : World} {n B : Nat} (h : Below n w W) (hB : n ≤ B) (s : Sl) : Below n w (set5 W B s) :=
 ((((h.setCell (p := ⟨B, 0, none⟩) hB _).setCell (p := ⟨B, 1, none⟩) hB _).setCell (p := ⟨B, 2, none⟩) hB _).setCell (p := ⟨B, 3, none⟩) hB _).setCell (p := ⟨B, 4, none⟩) hB _

end Go.Proofs.YtajfkcpifnpkeaaGreat

/- Get, on both sides. -/
namespace Go.Proofs.YtajfkcpifnpkeaaGreat
open Go.ChangeShapes Go.WideShapes Go.ChangeAt Go.RowKit Go.Joins
set_option linter.unusedVariables false
set_option linter.unusedSimpArgs false

theorem getL_no {l : List Sl} {a p : Int} (h : (endL l a p).2 = false) : getL l a p = sl0 := by unfold getL; rw [h]; rfl
theorem getL_yes {l : List Sl} {a p : Int} {k : Nat} (h : endL l a p = ((k : Int), true)) : getL l a p = l.getD k sl0 := by unfold getL; rw [h]; simp

set_option maxHeartbeats 2000000 in
theorem l5get_any (b off c : Nat) (l : List Sl) (a p : Int) (w : World) (hn : 0 < l.length) (hl : l.length ≤ 1048576) (hf : flowOkB a p = true) (hbl : b < w.heap.size) (hc : ∀ i, i < l.length → ∀ j, j < layS.k → w.cell? ⟨b, off + i * layS.k + j, none⟩ = (layS.cs (l.getD i layS.d))[j]?) :
  Calls Tryz.prog 95 #[tab (.slice (some ⟨b, off, none⟩) l.length c), flow a p] w fun e w' => e = .returned (.tuple #[slot (getL l a p), .bool (endL l a p).2]) ∧ Below w.heap.size w w' := by
 have HC := hide hc
 clear hc
 obtain ⟨W0, hW0⟩ : ∃ W, (((w.alloc (.cells #[.slice (some ⟨b, off, none⟩) l.length c] 44)).alloc (.cells #[.int .i64 a, .int .i64 p] 66)).alloc (.cells #[.bool false, .int .i64 0, .int .i64 0, .int .i64 0, .int .i64 0] 99)) = W := ⟨_, rfl⟩
 have hb_W0 : Below w.heap.size w W0 := by rw [← hW0]; exact ((((Below.refl _ _).alloc (Nat.le_refl _) _).alloc (by simp <;> omega) _).alloc (by simp <;> omega) _)
 have HB := hide hb_W0
 clear hb_W0
 have zct : w.heap.size < W0.heap.size := by rw [← hW0]; simp <;> omega
 have ct0 : W0.cell? ⟨w.heap.size, 0, none⟩ = some (.slice (some ⟨b, off, none⟩) l.length c) := by rw [← hW0]; simp [go_sem]
 have zcf : w.heap.size + 1 < W0.heap.size := by rw [← hW0]; simp <;> omega
 have cf0 : W0.cell? ⟨w.heap.size + 1, 0, none⟩ = some (.int .i64 a) := by rw [← hW0]; simp [go_sem]
 have cf1 : W0.cell? ⟨w.heap.size + 1, 1, none⟩ = some (.int .i64 p) := by rw [← hW0]; simp [go_sem]
 have zcr : w.heap.size + 1 + 1 < W0.heap.size := by rw [← hW0]; simp
 have cr0 : W0.cell? ⟨w.heap.size + 1 + 1, 0, none⟩ = some (.bool false) := by rw [← hW0]; simp [go_sem]
 have cr1 : W0.cell? ⟨w.heap.size + 1 + 1, 1, none⟩ = some (.int .i64 0) := by rw [← hW0]; simp [go_sem]
 have cr2 : W0.cell? ⟨w.heap.size + 1 + 1, 2, none⟩ = some (.int .i64 0) := by rw [← hW0]; simp [go_sem]
 have cr3 : W0.cell? ⟨w.heap.size + 1 + 1, 3, none⟩ = some (.int .i64 0) := by rw [← hW0]; simp [go_sem]
 have cr4 : W0.cell? ⟨w.heap.size + 1 + 1, 4, none⟩ = some (.int .i64 0) := by rw [← hW0]; simp [go_sem]
 have fcr0 : W0.frozen? ⟨w.heap.size + 1 + 1, 0, none⟩ = false := by rw [← hW0]; simp [go_sem]
 have fcr1 : W0.frozen? ⟨w.heap.size + 1 + 1, 1, none⟩ = false := by rw [← hW0]; simp [go_sem]
 have fcr2 : W0.frozen? ⟨w.heap.size + 1 + 1, 2, none⟩ = false := by rw [← hW0]; simp [go_sem]
 have fcr3 : W0.frozen? ⟨w.heap.size + 1 + 1, 3, none⟩ = false := by rw [← hW0]; simp [go_sem]
 have fcr4 : W0.frozen? ⟨w.heap.size + 1 + 1, 4, none⟩ = false := by rw [← hW0]; simp [go_sem]
 have hat := l5at_any (some ⟨b, off, none⟩) c l a p W0 (.inr ⟨b, off, rfl, Nat.lt_of_lt_of_le hbl HB.out.size, (fun i hi j hj => (HB.out.cell (p := ⟨b, off + i * layS.k + j, none⟩) hbl).trans (HC.out i hi j hj))⟩) hn hl hf
 rcases endL_cases l hn a p with hE | ⟨k, hk, ⟨hE, _⟩ | ⟨hE, _⟩⟩
 ·skip
  have HM := hide (getL_no (l := l) (a := a) (p := p) (by rw [hE]))
  have HE := hide hE
  rw [hE] at hat
  clear hE
  go_enter Tryz.func95, Tryz.ntmps95
  go_wp2_with fail
  refine (hat).mono ?_
  rintro e v1 ⟨rfl, hb⟩
  replace ct0 : v1.cell? ⟨w.heap.size, 0, none⟩ = some (.slice (some ⟨b, off, none⟩) l.length c) := (hb.cell (p := ⟨w.heap.size, 0, none⟩) zct).trans ct0
  replace zct : w.heap.size < v1.heap.size := Nat.lt_of_lt_of_le zct hb.size
  replace cf0 : v1.cell? ⟨w.heap.size + 1, 0, none⟩ = some (.int .i64 a) := (hb.cell (p := ⟨w.heap.size + 1, 0, none⟩) zcf).trans cf0
  replace cf1 : v1.cell? ⟨w.heap.size + 1, 1, none⟩ = some (.int .i64 p) := (hb.cell (p := ⟨w.heap.size + 1, 1, none⟩) zcf).trans cf1
  replace zcf : w.heap.size + 1 < v1.heap.size := Nat.lt_of_lt_of_le zcf hb.size
  replace cr0 : v1.cell? ⟨w.heap.size + 1 + 1, 0, none⟩ = some (.bool false) := (hb.cell (p := ⟨w.heap.size + 1 + 1, 0, none⟩) zcr).trans cr0
  replace cr1 : v1.cell? ⟨w.heap.size + 1 + 1, 1, none⟩ = some (.int .i64 0) := (hb.cell (p := ⟨w.heap.size + 1 + 1, 1, none⟩) zcr).trans cr1
  replace cr2 : v1.cell? ⟨w.heap.size + 1 + 1, 2, none⟩ = some (.int .i64 0) := (hb.cell (p := ⟨w.heap.size + 1 + 1, 2, none⟩) zcr).trans cr2
  replace cr3 : v1.cell? ⟨w.heap.size + 1 + 1, 3, none⟩ = some (.int .i64 0) := (hb.cell (p := ⟨w.heap.size + 1 + 1, 3, none⟩) zcr).trans cr3
  replace cr4 : v1.cell? ⟨w.heap.size + 1 + 1, 4, none⟩ = some (.int .i64 0) := (hb.cell (p := ⟨w.heap.size + 1 + 1, 4, none⟩) zcr).trans cr4
  replace fcr0 : v1.frozen? ⟨w.heap.size + 1 + 1, 0, none⟩ = false := (hb.frozen (p := ⟨w.heap.size + 1 + 1, 0, none⟩) zcr).trans fcr0
  replace fcr1 : v1.frozen? ⟨w.heap.size + 1 + 1, 1, none⟩ = false := (hb.frozen (p := ⟨w.heap.size + 1 + 1, 1, none⟩) zcr).trans fcr1
  replace fcr2 : v1.frozen? ⟨w.heap.size + 1 + 1, 2, none⟩ = false := (hb.frozen (p := ⟨w.heap.size + 1 + 1, 2, none⟩) zcr).trans fcr2
  replace fcr3 : v1.frozen? ⟨w.heap.size + 1 + 1, 3, none⟩ = false := (hb.frozen (p := ⟨w.heap.size + 1 + 1, 3, none⟩) zcr).trans fcr3
  replace fcr4 : v1.frozen? ⟨w.heap.size + 1 + 1, 4, none⟩ = false := (hb.frozen (p := ⟨w.heap.size + 1 + 1, 4, none⟩) zcr).trans fcr4
  replace zcr : w.heap.size + 1 + 1 < v1.heap.size := Nat.lt_of_lt_of_le zcr hb.size
  replace HB := hide (HB.out.trans (hb.mono HB.out.size))
  clear hb
  clear hat
  go_wp2
  refine bodyPost_ret (v := .tuple #[slot sl0, .bool false]) (by simp [results, Tryz.results95, go_sem, cr0, cr1, cr2, cr3, cr4]) rfl ⟨by rw [HM.out, HE.out], below_set5 (s := sl0) HB.out (by omega)⟩
 ·skip
  have HM := hide (getL_no (l := l) (a := a) (p := p) (by rw [hE]))
  have HE := hide hE
  rw [hE] at hat
  clear hE
  go_enter Tryz.func95, Tryz.ntmps95
  go_wp2_with fail
  refine (hat).mono ?_
  rintro e v1 ⟨rfl, hb⟩
  replace ct0 : v1.cell? ⟨w.heap.size, 0, none⟩ = some (.slice (some ⟨b, off, none⟩) l.length c) := (hb.cell (p := ⟨w.heap.size, 0, none⟩) zct).trans ct0
  replace zct : w.heap.size < v1.heap.size := Nat.lt_of_lt_of_le zct hb.size
  replace cf0 : v1.cell? ⟨w.heap.size + 1, 0, none⟩ = some (.int .i64 a) := (hb.cell (p := ⟨w.heap.size + 1, 0, none⟩) zcf).trans cf0
  replace cf1 : v1.cell? ⟨w.heap.size + 1, 1, none⟩ = some (.int .i64 p) := (hb.cell (p := ⟨w.heap.size + 1, 1, none⟩) zcf).trans cf1
  replace zcf : w.heap.size + 1 < v1.heap.size := Nat.lt_of_lt_of_le zcf hb.size
  replace cr0 : v1.cell? ⟨w.heap.size + 1 + 1, 0, none⟩ = some (.bool false) := (hb.cell (p := ⟨w.heap.size + 1 + 1, 0, none⟩) zcr).trans cr0
  replace cr1 : v1.cell? ⟨w.heap.size + 1 + 1, 1, none⟩ = some (.int .i64 0) := (hb.cell (p := ⟨w.heap.size + 1 + 1, 1, none⟩) zcr).trans cr1
  replace cr2 : v1.cell? ⟨w.heap.size + 1 + 1, 2, none⟩ = some (.int .i64 0) := (hb.cell (p := ⟨w.heap.size + 1 + 1, 2, none⟩) zcr).trans cr2
  replace cr3 : v1.cell? ⟨w.heap.size + 1 + 1, 3, none⟩ = some (.int .i64 0) := (hb.cell (p := ⟨w.heap.size + 1 + 1, 3, none⟩) zcr).trans cr3
  replace cr4 : v1.cell? ⟨w.heap.size + 1 + 1, 4, none⟩ = some (.int .i64 0) := (hb.cell (p := ⟨w.heap.size + 1 + 1, 4, none⟩) zcr).trans cr4
  replace fcr0 : v1.frozen? ⟨w.heap.size + 1 + 1, 0, none⟩ = false := (hb.frozen (p := ⟨w.heap.size + 1 + 1, 0, none⟩) zcr).trans fcr0
  replace fcr1 : v1.frozen? ⟨w.heap.size + 1 + 1, 1, none⟩ = false := (hb.frozen (p := ⟨w.heap.size + 1 + 1, 1, none⟩) zcr).trans fcr1
  replace fcr2 : v1.frozen? ⟨w.heap.size + 1 + 1, 2, none⟩ = false := (hb.frozen (p := ⟨w.heap.size + 1 + 1, 2, none⟩) zcr).trans fcr2
  replace fcr3 : v1.frozen? ⟨w.heap.size + 1 + 1, 3, none⟩ = false := (hb.frozen (p := ⟨w.heap.size + 1 + 1, 3, none⟩) zcr).trans fcr3
  replace fcr4 : v1.frozen? ⟨w.heap.size + 1 + 1, 4, none⟩ = false := (hb.frozen (p := ⟨w.heap.size + 1 + 1, 4, none⟩) zcr).trans fcr4
  replace zcr : w.heap.size + 1 + 1 < v1.heap.size := Nat.lt_of_lt_of_le zcr hb.size
  replace HB := hide (HB.out.trans (hb.mono HB.out.size))
  clear hb
  clear hat
  go_wp2
  refine bodyPost_ret (v := .tuple #[slot sl0, .bool false]) (by simp [results, Tryz.results95, go_sem, cr0, cr1, cr2, cr3, cr4]) rfl ⟨by rw [HM.out, HE.out], below_set5 (s := sl0) HB.out (by omega)⟩
 ·skip
  have HM := hide (getL_yes hE)
  have HE := hide hE
  rw [hE] at hat
  clear hE
  have hcx := RdL.slot (C := w.heap.size) HC.out k hk
  obtain ⟨s, hxy⟩ : ∃ s, l.getD k sl0 = s := ⟨_, rfl⟩
  rw [hxy] at hcx HM
  clear hxy
  have hk' : (k : Int) < (l.length : Int) := by omega
  go_enter Tryz.func95, Tryz.ntmps95
  go_wp2_with fail
  refine (hat).mono ?_
  rintro e v1 ⟨rfl, hb⟩
  replace ct0 : v1.cell? ⟨w.heap.size, 0, none⟩ = some (.slice (some ⟨b, off, none⟩) l.length c) := (hb.cell (p := ⟨w.heap.size, 0, none⟩) zct).trans ct0
  replace zct : w.heap.size < v1.heap.size := Nat.lt_of_lt_of_le zct hb.size
  replace cf0 : v1.cell? ⟨w.heap.size + 1, 0, none⟩ = some (.int .i64 a) := (hb.cell (p := ⟨w.heap.size + 1, 0, none⟩) zcf).trans cf0
  replace cf1 : v1.cell? ⟨w.heap.size + 1, 1, none⟩ = some (.int .i64 p) := (hb.cell (p := ⟨w.heap.size + 1, 1, none⟩) zcf).trans cf1
  replace zcf : w.heap.size + 1 < v1.heap.size := Nat.lt_of_lt_of_le zcf hb.size
  replace cr0 : v1.cell? ⟨w.heap.size + 1 + 1, 0, none⟩ = some (.bool false) := (hb.cell (p := ⟨w.heap.size + 1 + 1, 0, none⟩) zcr).trans cr0
  replace cr1 : v1.cell? ⟨w.heap.size + 1 + 1, 1, none⟩ = some (.int .i64 0) := (hb.cell (p := ⟨w.heap.size + 1 + 1, 1, none⟩) zcr).trans cr1
  replace cr2 : v1.cell? ⟨w.heap.size + 1 + 1, 2, none⟩ = some (.int .i64 0) := (hb.cell (p := ⟨w.heap.size + 1 + 1, 2, none⟩) zcr).trans cr2
  replace cr3 : v1.cell? ⟨w.heap.size + 1 + 1, 3, none⟩ = some (.int .i64 0) := (hb.cell (p := ⟨w.heap.size + 1 + 1, 3, none⟩) zcr).trans cr3
  replace cr4 : v1.cell? ⟨w.heap.size + 1 + 1, 4, none⟩ = some (.int .i64 0) := (hb.cell (p := ⟨w.heap.size + 1 + 1, 4, none⟩) zcr).trans cr4
  replace fcr0 : v1.frozen? ⟨w.heap.size + 1 + 1, 0, none⟩ = false := (hb.frozen (p := ⟨w.heap.size + 1 + 1, 0, none⟩) zcr).trans fcr0
  replace fcr1 : v1.frozen? ⟨w.heap.size + 1 + 1, 1, none⟩ = false := (hb.frozen (p := ⟨w.heap.size + 1 + 1, 1, none⟩) zcr).trans fcr1
  replace fcr2 : v1.frozen? ⟨w.heap.size + 1 + 1, 2, none⟩ = false := (hb.frozen (p := ⟨w.heap.size + 1 + 1, 2, none⟩) zcr).trans fcr2
  replace fcr3 : v1.frozen? ⟨w.heap.size + 1 + 1, 3, none⟩ = false := (hb.frozen (p := ⟨w.heap.size + 1 + 1, 3, none⟩) zcr).trans fcr3
  replace fcr4 : v1.frozen? ⟨w.heap.size + 1 + 1, 4, none⟩ = false := (hb.frozen (p := ⟨w.heap.size + 1 + 1, 4, none⟩) zcr).trans fcr4
  replace zcr : w.heap.size + 1 + 1 < v1.heap.size := Nat.lt_of_lt_of_le zcr hb.size
  replace HB := hide (HB.out.trans (hb.mono HB.out.size))
  clear hb
  have e0 := (HB.out.cell (p := ⟨b, off + k * 5, none⟩) hbl).trans hcx.1
  have e1 := (HB.out.cell (p := ⟨b, off + k * 5 + 1, none⟩) hbl).trans hcx.2.1
  have e2 := (HB.out.cell (p := ⟨b, off + k * 5 + 2, none⟩) hbl).trans hcx.2.2.1
  have e3 := (HB.out.cell (p := ⟨b, off + k * 5 + 3, none⟩) hbl).trans hcx.2.2.2.1
  have e4 := (HB.out.cell (p := ⟨b, off + k * 5 + 4, none⟩) hbl).trans hcx.2.2.2.2
  clear hat hcx
  go_wp2
  refine bodyPost_ret (v := .tuple #[slot s, .bool true]) (by simp [results, Tryz.results95, go_sem, cr0, cr1, cr2, cr3, cr4]) rfl ⟨by rw [HM.out, HE.out], below_set5 (s := s) HB.out (by omega)⟩

set_option maxHeartbeats 2000000 in
theorem get_any (b off c : Nat) (l : List Sl) (a p : Int) (w : World) (hn : 0 < l.length) (hl : l.length ≤ 1048576) (hf : flowOkB a p = true) (hbl : b < w.heap.size) (hc : ∀ i, i < l.length → ∀ j, j < layS.k → w.cell? ⟨b, off + i * layS.k + j, none⟩ = (layS.cs (l.getD i layS.d))[j]?) :
  Calls Tryz.prog 155 #[tab (.slice (some ⟨b, off, none⟩) l.length c), flow a p] w fun e w' => e = .returned (.tuple #[slot (getL l a p), .bool (endL l a p).2]) ∧ Below w.heap.size w w' := by
 have HC := hide hc
 clear hc
 obtain ⟨W0, hW0⟩ : ∃ W, (((w.alloc (.cells #[.slice (some ⟨b, off, none⟩) l.length c] 105)).alloc (.cells #[.int .i64 a, .int .i64 p] 66)).alloc (.cells #[.bool false, .int .i64 0, .int .i64 0, .int .i64 0, .int .i64 0] 197)) = W := ⟨_, rfl⟩
 have hb_W0 : Below w.heap.size w W0 := by rw [← hW0]; exact ((((Below.refl _ _).alloc (Nat.le_refl _) _).alloc (by simp <;> omega) _).alloc (by simp <;> omega) _)
 have HB := hide hb_W0
 clear hb_W0
 have zct : w.heap.size < W0.heap.size := by rw [← hW0]; simp <;> omega
 have ct0 : W0.cell? ⟨w.heap.size, 0, none⟩ = some (.slice (some ⟨b, off, none⟩) l.length c) := by rw [← hW0]; simp [go_sem]
 have zcf : w.heap.size + 1 < W0.heap.size := by rw [← hW0]; simp <;> omega
 have cf0 : W0.cell? ⟨w.heap.size + 1, 0, none⟩ = some (.int .i64 a) := by rw [← hW0]; simp [go_sem]
 have cf1 : W0.cell? ⟨w.heap.size + 1, 1, none⟩ = some (.int .i64 p) := by rw [← hW0]; simp [go_sem]
 have zcr : w.heap.size + 1 + 1 < W0.heap.size := by rw [← hW0]; simp
 have cr0 : W0.cell? ⟨w.heap.size + 1 + 1, 0, none⟩ = some (.bool false) := by rw [← hW0]; simp [go_sem]
 have cr1 : W0.cell? ⟨w.heap.size + 1 + 1, 1, none⟩ = some (.int .i64 0) := by rw [← hW0]; simp [go_sem]
 have cr2 : W0.cell? ⟨w.heap.size + 1 + 1, 2, none⟩ = some (.int .i64 0) := by rw [← hW0]; simp [go_sem]
 have cr3 : W0.cell? ⟨w.heap.size + 1 + 1, 3, none⟩ = some (.int .i64 0) := by rw [← hW0]; simp [go_sem]
 have cr4 : W0.cell? ⟨w.heap.size + 1 + 1, 4, none⟩ = some (.int .i64 0) := by rw [← hW0]; simp [go_sem]
 have fcr0 : W0.frozen? ⟨w.heap.size + 1 + 1, 0, none⟩ = false := by rw [← hW0]; simp [go_sem]
 have fcr1 : W0.frozen? ⟨w.heap.size + 1 + 1, 1, none⟩ = false := by rw [← hW0]; simp [go_sem]
 have fcr2 : W0.frozen? ⟨w.heap.size + 1 + 1, 2, none⟩ = false := by rw [← hW0]; simp [go_sem]
 have fcr3 : W0.frozen? ⟨w.heap.size + 1 + 1, 3, none⟩ = false := by rw [← hW0]; simp [go_sem]
 have fcr4 : W0.frozen? ⟨w.heap.size + 1 + 1, 4, none⟩ = false := by rw [← hW0]; simp [go_sem]
 have hat := endOfWay_any b off c l a p W0 hn hl hf (Nat.lt_of_lt_of_le hbl HB.out.size) (fun i hi j hj => (HB.out.cell (p := ⟨b, off + i * layS.k + j, none⟩) hbl).trans (HC.out i hi j hj))
 rcases endL_cases l hn a p with hE | ⟨k, hk, ⟨hE, _⟩ | ⟨hE, _⟩⟩
 ·skip
  have HM := hide (getL_no (l := l) (a := a) (p := p) (by rw [hE]))
  have HE := hide hE
  rw [hE] at hat
  clear hE
  go_enter Tryz.func155, Tryz.ntmps155
  go_wp2_with fail
  refine (hat).mono ?_
  rintro e v1 ⟨rfl, hb⟩
  replace ct0 : v1.cell? ⟨w.heap.size, 0, none⟩ = some (.slice (some ⟨b, off, none⟩) l.length c) := (hb.cell (p := ⟨w.heap.size, 0, none⟩) zct).trans ct0
  replace zct : w.heap.size < v1.heap.size := Nat.lt_of_lt_of_le zct hb.size
  replace cf0 : v1.cell? ⟨w.heap.size + 1, 0, none⟩ = some (.int .i64 a) := (hb.cell (p := ⟨w.heap.size + 1, 0, none⟩) zcf).trans cf0
  replace cf1 : v1.cell? ⟨w.heap.size + 1, 1, none⟩ = some (.int .i64 p) := (hb.cell (p := ⟨w.heap.size + 1, 1, none⟩) zcf).trans cf1
  replace zcf : w.heap.size + 1 < v1.heap.size := Nat.lt_of_lt_of_le zcf hb.size
  replace cr0 : v1.cell? ⟨w.heap.size + 1 + 1, 0, none⟩ = some (.bool false) := (hb.cell (p := ⟨w.heap.size + 1 + 1, 0, none⟩) zcr).trans cr0
  replace cr1 : v1.cell? ⟨w.heap.size + 1 + 1, 1, none⟩ = some (.int .i64 0) := (hb.cell (p := ⟨w.heap.size + 1 + 1, 1, none⟩) zcr).trans cr1
  replace cr2 : v1.cell? ⟨w.heap.size + 1 + 1, 2, none⟩ = some (.int .i64 0) := (hb.cell (p := ⟨w.heap.size + 1 + 1, 2, none⟩) zcr).trans cr2
  replace cr3 : v1.cell? ⟨w.heap.size + 1 + 1, 3, none⟩ = some (.int .i64 0) := (hb.cell (p := ⟨w.heap.size + 1 + 1, 3, none⟩) zcr).trans cr3
  replace cr4 : v1.cell? ⟨w.heap.size + 1 + 1, 4, none⟩ = some (.int .i64 0) := (hb.cell (p := ⟨w.heap.size + 1 + 1, 4, none⟩) zcr).trans cr4
  replace fcr0 : v1.frozen? ⟨w.heap.size + 1 + 1, 0, none⟩ = false := (hb.frozen (p := ⟨w.heap.size + 1 + 1, 0, none⟩) zcr).trans fcr0
  replace fcr1 : v1.frozen? ⟨w.heap.size + 1 + 1, 1, none⟩ = false := (hb.frozen (p := ⟨w.heap.size + 1 + 1, 1, none⟩) zcr).trans fcr1
  replace fcr2 : v1.frozen? ⟨w.heap.size + 1 + 1, 2, none⟩ = false := (hb.frozen (p := ⟨w.heap.size + 1 + 1, 2, none⟩) zcr).trans fcr2
  replace fcr3 : v1.frozen? ⟨w.heap.size + 1 + 1, 3, none⟩ = false := (hb.frozen (p := ⟨w.heap.size + 1 + 1, 3, none⟩) zcr).trans fcr3
  replace fcr4 : v1.frozen? ⟨w.heap.size + 1 + 1, 4, none⟩ = false := (hb.frozen (p := ⟨w.heap.size + 1 + 1, 4, none⟩) zcr).trans fcr4
  replace zcr : w.heap.size + 1 + 1 < v1.heap.size := Nat.lt_of_lt_of_le zcr hb.size
  replace HB := hide (HB.out.trans (hb.mono HB.out.size))
  clear hb
  clear hat
  go_wp2
  refine bodyPost_ret (v := .tuple #[slot sl0, .bool false]) (by simp [results, Tryz.results155, go_sem, cr0, cr1, cr2, cr3, cr4]) rfl ⟨by rw [HM.out, HE.out], below_set5 (s := sl0) HB.out (by omega)⟩
 ·skip
  have HM := hide (getL_no (l := l) (a := a) (p := p) (by rw [hE]))
  have HE := hide hE
  rw [hE] at hat
  clear hE
  go_enter Tryz.func155, Tryz.ntmps155
  go_wp2_with fail
  refine (hat).mono ?_
  rintro e v1 ⟨rfl, hb⟩
  replace ct0 : v1.cell? ⟨w.heap.size, 0, none⟩ = some (.slice (some ⟨b, off, none⟩) l.length c) := (hb.cell (p := ⟨w.heap.size, 0, none⟩) zct).trans ct0
  replace zct : w.heap.size < v1.heap.size := Nat.lt_of_lt_of_le zct hb.size
  replace cf0 : v1.cell? ⟨w.heap.size + 1, 0, none⟩ = some (.int .i64 a) := (hb.cell (p := ⟨w.heap.size + 1, 0, none⟩) zcf).trans cf0
  replace cf1 : v1.cell? ⟨w.heap.size + 1, 1, none⟩ = some (.int .i64 p) := (hb.cell (p := ⟨w.heap.size + 1, 1, none⟩) zcf).trans cf1
  replace zcf : w.heap.size + 1 < v1.heap.size := Nat.lt_of_lt_of_le zcf hb.size
  replace cr0 : v1.cell? ⟨w.heap.size + 1 + 1, 0, none⟩ = some (.bool false) := (hb.cell (p := ⟨w.heap.size + 1 + 1, 0, none⟩) zcr).trans cr0
  replace cr1 : v1.cell? ⟨w.heap.size + 1 + 1, 1, none⟩ = some (.int .i64 0) := (hb.cell (p := ⟨w.heap.size + 1 + 1, 1, none⟩) zcr).trans cr1
  replace cr2 : v1.cell? ⟨w.heap.size + 1 + 1, 2, none⟩ = some (.int .i64 0) := (hb.cell (p := ⟨w.heap.size + 1 + 1, 2, none⟩) zcr).trans cr2
  replace cr3 : v1.cell? ⟨w.heap.size + 1 + 1, 3, none⟩ = some (.int .i64 0) := (hb.cell (p := ⟨w.heap.size + 1 + 1, 3, none⟩) zcr).trans cr3
  replace cr4 : v1.cell? ⟨w.heap.size + 1 + 1, 4, none⟩ = some (.int .i64 0) := (hb.cell (p := ⟨w.heap.size + 1 + 1, 4, none⟩) zcr).trans cr4
  replace fcr0 : v1.frozen? ⟨w.heap.size + 1 + 1, 0, none⟩ = false := (hb.frozen (p := ⟨w.heap.size + 1 + 1, 0, none⟩) zcr).trans fcr0
  replace fcr1 : v1.frozen? ⟨w.heap.size + 1 + 1, 1, none⟩ = false := (hb.frozen (p := ⟨w.heap.size + 1 + 1, 1, none⟩) zcr).trans fcr1
  replace fcr2 : v1.frozen? ⟨w.heap.size + 1 + 1, 2, none⟩ = false := (hb.frozen (p := ⟨w.heap.size + 1 + 1, 2, none⟩) zcr).trans fcr2
  replace fcr3 : v1.frozen? ⟨w.heap.size + 1 + 1, 3, none⟩ = false := (hb.frozen (p := ⟨w.heap.size + 1 + 1, 3, none⟩) zcr).trans fcr3
  replace fcr4 : v1.frozen? ⟨w.heap.size + 1 + 1, 4, none⟩ = false := (hb.frozen (p := ⟨w.heap.size + 1 + 1, 4, none⟩) zcr).trans fcr4
  replace zcr : w.heap.size + 1 + 1 < v1.heap.size := Nat.lt_of_lt_of_le zcr hb.size
  replace HB := hide (HB.out.trans (hb.mono HB.out.size))
  clear hb
  clear hat
  go_wp2
  refine bodyPost_ret (v := .tuple #[slot sl0, .bool false]) (by simp [results, Tryz.results155, go_sem, cr0, cr1, cr2, cr3, cr4]) rfl ⟨by rw [HM.out, HE.out], below_set5 (s := sl0) HB.out (by omega)⟩
 ·skip
  have HM := hide (getL_yes hE)
  have HE := hide hE
  rw [hE] at hat
  clear hE
  have hcx := RdL.slot (C := w.heap.size) HC.out k hk
  obtain ⟨s, hxy⟩ : ∃ s, l.getD k sl0 = s := ⟨_, rfl⟩
  rw [hxy] at hcx HM
  clear hxy
  have hk' : (k : Int) < (l.length : Int) := by omega
  go_enter Tryz.func155, Tryz.ntmps155
  go_wp2_with fail
  refine (hat).mono ?_
  rintro e v1 ⟨rfl, hb⟩
  replace ct0 : v1.cell? ⟨w.heap.size, 0, none⟩ = some (.slice (some ⟨b, off, none⟩) l.length c) := (hb.cell (p := ⟨w.heap.size, 0, none⟩) zct).trans ct0
  replace zct : w.heap.size < v1.heap.size := Nat.lt_of_lt_of_le zct hb.size
  replace cf0 : v1.cell? ⟨w.heap.size + 1, 0, none⟩ = some (.int .i64 a) := (hb.cell (p := ⟨w.heap.size + 1, 0, none⟩) zcf).trans cf0
  replace cf1 : v1.cell? ⟨w.heap.size + 1, 1, none⟩ = some (.int .i64 p) := (hb.cell (p := ⟨w.heap.size + 1, 1, none⟩) zcf).trans cf1
  replace zcf : w.heap.size + 1 < v1.heap.size := Nat.lt_of_lt_of_le zcf hb.size
  replace cr0 : v1.cell? ⟨w.heap.size + 1 + 1, 0, none⟩ = some (.bool false) := (hb.cell (p := ⟨w.heap.size + 1 + 1, 0, none⟩) zcr).trans cr0
  replace cr1 : v1.cell? ⟨w.heap.size + 1 + 1, 1, none⟩ = some (.int .i64 0) := (hb.cell (p := ⟨w.heap.size + 1 + 1, 1, none⟩) zcr).trans cr1
  replace cr2 : v1.cell? ⟨w.heap.size + 1 + 1, 2, none⟩ = some (.int .i64 0) := (hb.cell (p := ⟨w.heap.size + 1 + 1, 2, none⟩) zcr).trans cr2
  replace cr3 : v1.cell? ⟨w.heap.size + 1 + 1, 3, none⟩ = some (.int .i64 0) := (hb.cell (p := ⟨w.heap.size + 1 + 1, 3, none⟩) zcr).trans cr3
  replace cr4 : v1.cell? ⟨w.heap.size + 1 + 1, 4, none⟩ = some (.int .i64 0) := (hb.cell (p := ⟨w.heap.size + 1 + 1, 4, none⟩) zcr).trans cr4
  replace fcr0 : v1.frozen? ⟨w.heap.size + 1 + 1, 0, none⟩ = false := (hb.frozen (p := ⟨w.heap.size + 1 + 1, 0, none⟩) zcr).trans fcr0
  replace fcr1 : v1.frozen? ⟨w.heap.size + 1 + 1, 1, none⟩ = false := (hb.frozen (p := ⟨w.heap.size + 1 + 1, 1, none⟩) zcr).trans fcr1
  replace fcr2 : v1.frozen? ⟨w.heap.size + 1 + 1, 2, none⟩ = false := (hb.frozen (p := ⟨w.heap.size + 1 + 1, 2, none⟩) zcr).trans fcr2
  replace fcr3 : v1.frozen? ⟨w.heap.size + 1 + 1, 3, none⟩ = false := (hb.frozen (p := ⟨w.heap.size + 1 + 1, 3, none⟩) zcr).trans fcr3
  replace fcr4 : v1.frozen? ⟨w.heap.size + 1 + 1, 4, none⟩ = false := (hb.frozen (p := ⟨w.heap.size + 1 + 1, 4, none⟩) zcr).trans fcr4
  replace zcr : w.heap.size + 1 + 1 < v1.heap.size := Nat.lt_of_lt_of_le zcr hb.size
  replace HB := hide (HB.out.trans (hb.mono HB.out.size))
  clear hb
  have e0 := (HB.out.cell (p := ⟨b, off + k * 5, none⟩) hbl).trans hcx.1
  have e1 := (HB.out.cell (p := ⟨b, off + k * 5 + 1, none⟩) hbl).trans hcx.2.1
  have e2 := (HB.out.cell (p := ⟨b, off + k * 5 + 2, none⟩) hbl).trans hcx.2.2.1
  have e3 := (HB.out.cell (p := ⟨b, off + k * 5 + 3, none⟩) hbl).trans hcx.2.2.2.1
  have e4 := (HB.out.cell (p := ⟨b, off + k * 5 + 4, none⟩) hbl).trans hcx.2.2.2.2
  clear hat hcx
  go_wp2
  refine bodyPost_ret (v := .tuple #[slot s, .bool true]) (by simp [results, Tryz.results155, go_sem, cr0, cr1, cr2, cr3, cr4]) rfl ⟨by rw [HM.out, HE.out], below_set5 (s := s) HB.out (by omega)⟩

end Go.Proofs.YtajfkcpifnpkeaaGreat

/- Hint, on both sides. -/
namespace Go.Proofs.YtajfkcpifnpkeaaGreat
open Go.ChangeShapes Go.WideShapes Go.ChangeAt Go.RowKit Go.Joins
set_option linter.unusedVariables false
set_option linter.unusedSimpArgs false


def hintL (l : List Sl) (a p : Int) : Int := if (endL l a p).2 = true then (getL l a p).v else -1
theorem balB_tab {m : Bm} (h : balB m = true) : tableOkB m.t = true := by
 rw [balB_spec] at h
 simp only [Bool.and_eq_true] at h
 exact h.2.1
theorem balB_pos {m : Bm} (h : balB m = true) : 0 < m.t.length := (tableOkB_iff.1 (balB_tab h)).1
theorem rdS_some {C : Nat} {w : World} {o : Option Addr} {l : List Sl} (h : RdS C w o l) (hn : 0 < l.length) : ∃ b off, o = some ⟨b, off, none⟩ ∧ b < C ∧ ∀ i, i < l.length → ∀ j, j < layS.k → w.cell? ⟨b, off + i * layS.k + j, none⟩ = (layS.cs (l.getD i layS.d))[j]? := by
 rcases h with h | ⟨b, off, e, hb, r⟩
 ·subst h; simp at hn
 ·exact ⟨b, off, e, hb, r⟩
theorem inBl_open {lo hi : Nat} {w : World} {xo : Option Addr} {xn xc : Nat} {kq : Int} {yo : Option Addr} {yn yc : Nat} {sq kr : Int} {uo : Option Addr} {un uc : Nat} {vo : Option Addr} {vn vc : Nat} {j : Jm} {p : Pm} {t : List Sl} (h : InBl lo hi w (balr (.slice xo xn xc) kq (.slice yo yn yc) sq kr (.slice uo un uc) (.slice vo vn vc)) j p t) (ht : 0 < t.length) :
  ∃ g a b, lo ≤ a ∧ a ≤ g ∧ g < b ∧ b ≤ hi ∧ kq = j.key ∧ sq = j.safe ∧ kr = p.key ∧ xo = some ⟨g, 0, none⟩ ∧ xn = t.length ∧ InPm lo a w (plv p.key (.slice uo un uc) (.slice vo vn vc)) p ∧ w.ownsRow a CellT 5 (.slice (some ⟨g, 0, none⟩) t.length xc) t.length (t.flatMap layS.cs) ∧ InJm b hi w (jrn j.key (.slice yo yn yc) j.safe) j := by
 obtain ⟨vt, vl, vb, vr, a, b, e, k1, k2, k3, i1, i2, i3⟩ := h
 simp only [Value.agg.injEq, Array.mk.injEq, List.cons.injEq, and_true, Value.int.injEq, true_and] at e
 obtain ⟨e1, e2, e3, e4, e5, e6, e7⟩ := e
 subst e1 e3 e6 e7
 have i2' := i2
 rcases i2'.1.2 with ⟨h1, h2⟩ | ⟨g, cap, cur, hv, hg, r⟩
 ·exact absurd h2 (by omega)
 ·injection hv with h4 h5 h6
  subst h4 h5 h6
  exact ⟨g, a, b, k1, hg, i2.2 g rfl, k3, e2, e4, e5, rfl, rfl, i1, i2.1, i3⟩

set_option maxHeartbeats 2000000 in
theorem hintOf_any (b off c : Nat) (l : List Sl) (a p : Int) (w : World) (hn : 0 < l.length) (hl : l.length ≤ 1048576) (hf : flowOkB a p = true) (hbl : b < w.heap.size) (hc : ∀ i, i < l.length → ∀ j, j < layS.k → w.cell? ⟨b, off + i * layS.k + j, none⟩ = (layS.cs (l.getD i layS.d))[j]?) :
  Calls Tryz.prog 96 #[tab (.slice (some ⟨b, off, none⟩) l.length c), flow a p] w fun e w' => e = .returned (.int .i64 (hintL l a p)) ∧ Below w.heap.size w w' := by
 have HC := hide hc
 clear hc
 obtain ⟨W0, hW0⟩ : ∃ W, ((w.alloc (.cells #[.slice (some ⟨b, off, none⟩) l.length c] 107)).alloc (.cells #[.int .i64 a, .int .i64 p] 66)) = W := ⟨_, rfl⟩
 have hb_W0 : Below w.heap.size w W0 := by rw [← hW0]; exact (((Below.refl _ _).alloc (Nat.le_refl _) _).alloc (by simp <;> omega) _)
 have HB := hide hb_W0
 clear hb_W0
 have zct : w.heap.size < W0.heap.size := by rw [← hW0]; simp <;> omega
 have ct0 : W0.cell? ⟨w.heap.size, 0, none⟩ = some (.slice (some ⟨b, off, none⟩) l.length c) := by rw [← hW0]; simp [go_sem]
 have zcf : w.heap.size + 1 < W0.heap.size := by rw [← hW0]; simp
 have cf0 : W0.cell? ⟨w.heap.size + 1, 0, none⟩ = some (.int .i64 a) := by rw [← hW0]; simp [go_sem]
 have cf1 : W0.cell? ⟨w.heap.size + 1, 1, none⟩ = some (.int .i64 p) := by rw [← hW0]; simp [go_sem]
 have hg := get_any b off c l a p W0 hn hl hf (Nat.lt_of_lt_of_le hbl HB.out.size) (fun i hi j hj => (HB.out.cell (p := ⟨b, off + i * layS.k + j, none⟩) hbl).trans (HC.out i hi j hj))
 obtain ⟨r, hr⟩ : ∃ r, hintL l a p = r := ⟨_, rfl⟩
 rw [hr]
 obtain ⟨q, hq⟩ : ∃ q, getL l a p = q := ⟨_, rfl⟩
 obtain ⟨f, hff⟩ : ∃ f, (endL l a p).2 = f := ⟨_, rfl⟩
 rw [hq, hff] at hg
 have HV : Hid (r = if f = true then q.v else -1) := by unfold Hid; rw [← hr, ← hq, ← hff]; rfl
 clear hq hff hr
 go_enter Tryz.func96, Tryz.ntmps96
 go_wp2_with fail
 refine (hg).mono ?_
 rintro e v1 ⟨rfl, hb⟩
 replace ct0 := bC hb ct0 zct
 replace zct := Nat.lt_of_lt_of_le zct hb.size
 replace cf0 := bC hb cf0 zcf
 replace cf1 := bC hb cf1 zcf
 replace zcf := Nat.lt_of_lt_of_le zcf hb.size
 replace HB := hide (HB.out.trans (hb.mono HB.out.size))
 clear hb
 clear hg
 obtain ⟨W2, hW2⟩ : ∃ W, (v1.alloc (.cells #[.bool q.u, .int .i64 q.a, .int .i64 q.p, .int .i64 q.v, .int .i64 q.t] 197)) = W := ⟨_, rfl⟩
 have hb_W2 : Below v1.heap.size v1 W2 := by rw [← hW2]; exact ((Below.refl _ _).alloc (Nat.le_refl _) _)
 replace ct0 := bC hb_W2 ct0 zct
 replace zct := Nat.lt_of_lt_of_le zct hb_W2.size
 replace cf0 := bC hb_W2 cf0 zcf
 replace cf1 := bC hb_W2 cf1 zcf
 replace zcf := Nat.lt_of_lt_of_le zcf hb_W2.size
 replace HB := hide (HB.out.trans (hb_W2.mono HB.out.size))
 clear hb_W2
 have zcq : v1.heap.size < W2.heap.size := by rw [← hW2]; simp
 have cq0 : W2.cell? ⟨v1.heap.size, 0, none⟩ = some (.bool q.u) := by rw [← hW2]; simp [go_sem]
 have cq1 : W2.cell? ⟨v1.heap.size, 1, none⟩ = some (.int .i64 q.a) := by rw [← hW2]; simp [go_sem]
 have cq2 : W2.cell? ⟨v1.heap.size, 2, none⟩ = some (.int .i64 q.p) := by rw [← hW2]; simp [go_sem]
 have cq3 : W2.cell? ⟨v1.heap.size, 3, none⟩ = some (.int .i64 q.v) := by rw [← hW2]; simp [go_sem]
 have cq4 : W2.cell? ⟨v1.heap.size, 4, none⟩ = some (.int .i64 q.t) := by rw [← hW2]; simp [go_sem]
 cases f with
 | false =>
  go_wp2
  go_ret
  exact ⟨ret_int (by rw [HV.out]; rfl), HB.out⟩
 | true =>
  go_wp2
  go_ret
  exact ⟨ret_int (by rw [HV.out]; rfl), HB.out⟩

end Go.Proofs.YtajfkcpifnpkeaaGreat

/- Candidates: each once, all of the pairs, no more than six. -/
namespace Go.Proofs.YtajfkcpifnpkeaaGreat
open Go.ChangeShapes Go.WideShapes Go.ChangeAt Go.RowKit Go.Joins
set_option linter.unusedVariables false
set_option linter.unusedSimpArgs false


theorem addTo_mem (out : List Int) (x y : Int) : y ∈ addTo out x ↔ y ∈ out ∨ y = x := by
 unfold addTo
 by_cases h : out.contains x = true
 ·rw [if_pos h]
  have hx : x ∈ out := by simpa using h
  exact ⟨fun h => .inl h, fun h => h.elim id (fun e => by rw [e]; exact hx)⟩
 ·rw [if_neg h]; simp
theorem addAll_mem (l : List Int) : ∀ (out : List Int) (y : Int), y ∈ addAll out l ↔ y ∈ out ∨ y ∈ l := by
 induction l with
 | nil => intro out y; simp [addAll]
 | cons a l ih =>
  intro out y
  show y ∈ addAll (addTo out a) l ↔ _
  rw [ih, addTo_mem]
  simp [or_assoc]
theorem candFold_mem (b : Nat) (R : List (List (List Int))) : ∀ (out : List Int) (y : Int), y ∈ R.foldl (fun out t => addAll out (t.getD b [])) out ↔ y ∈ out ∨ ∃ t ∈ R, y ∈ t.getD b [] := by
 induction R with
 | nil => intro out y; simp
 | cons a R ih =>
  intro out y
  rw [List.foldl_cons, ih, addAll_mem]
  constructor
  ·rintro ((h | h) | ⟨t, h1, h2⟩)
   ·exact .inl h
   ·exact .inr ⟨a, by simp, h⟩
   ·exact .inr ⟨t, by simp [h1], h2⟩
  ·rintro (h | ⟨t, h1, h2⟩)
   ·exact .inl (.inl h)
   ·rcases List.mem_cons.1 h1 with e | h1
    ·subst e; exact .inl (.inr h2)
    ·exact .inr ⟨t, h1, h2⟩
theorem addTo_nodup {out : List Int} (x : Int) (h : out.Nodup) : (addTo out x).Nodup := by
 unfold addTo
 by_cases hc : out.contains x = true
 ·rw [if_pos hc]; exact h
 ·rw [if_neg hc]
  have hx : x ∉ out := by simpa using hc
  rw [List.nodup_append]
  exact ⟨h, by simp, fun a ha b hb e => by simp at hb; subst hb; subst e; exact hx ha⟩
theorem addAll_nodup (l : List Int) : ∀ {out : List Int}, out.Nodup → (addAll out l).Nodup := by
 induction l with
 | nil => intro out h; exact h
 | cons a l ih => intro out h; exact ih (addTo_nodup a h)
theorem candFold_nodup (b : Nat) (R : List (List (List Int))) : ∀ {out : List Int}, out.Nodup → (R.foldl (fun out t => addAll out (t.getD b [])) out).Nodup := by
 induction R with
 | nil => intro out h; exact h
 | cons a R ih => intro out h; exact ih (addAll_nodup _ h)
theorem six_most : ∀ (n : Nat) (l : List Int), l.Nodup → (∀ x ∈ l, 0 ≤ x ∧ x < (n : Int)) → l.length ≤ n
 | 0, l, _, h => by
  cases l with
  | nil => simp
  | cons a l => have := h a (by simp); omega
 | n + 1, l, hd, h => by
  by_cases hn : ((n : Int)) ∈ l
  ·have h1 := six_most n (l.erase (n : Int)) (hd.erase _) (fun x hx => by
    have hx' := (List.Nodup.mem_erase_iff hd).1 hx
    have := h x hx'.2
    have hne := hx'.1
    omega)
   rw [List.length_erase_of_mem hn] at h1
   omega
  ·have h1 := six_most n l hd (fun x hx => by
    have := h x hx
    have hne : x ≠ (n : Int) := fun e => hn (e ▸ hx)
    omega)
   omega
theorem pair_ids {l : List Int} (h : pairOkB l = true) : ∀ x ∈ l, 0 ≤ x ∧ x < 6 := by
 intro x hx
 obtain ⟨j, hj, rfl⟩ := List.getElem_of_mem hx
 cases hid : idB (l[j]) with
 | true => unfold idB at hid; simp at hid; omega
 | false =>
  have hb := pairOk_bad (l := l) hj (by rw [List.getD_eq_getElem?_getD, List.getElem?_eq_getElem hj]; exact hid)
  rw [hb] at h
  cases h
end Go.Proofs.YtajfkcpifnpkeaaGreat

/- Routes, as lists. -/
namespace Go.Proofs.YtajfkcpifnpkeaaGreat
open Go.ChangeShapes Go.WideShapes Go.ChangeAt Go.RowKit Go.Joins
set_option linter.unusedVariables false
set_option linter.unusedSimpArgs false


/-- The hint, if there is one; then those of c, but the hint, up to the i-th. -/
def segsTo (ok : Bool) (h : Int) (c : List Int) (i : Nat) : List (Int × Int) := (if ok = true then [(h, 0)] else []) ++ ((c.take i).filter (fun x => !ok || x != h)).map (fun x => (x, 0))
theorem segsTo_zero (ok : Bool) (h : Int) (c : List Int) : segsTo ok h c 0 = if ok = true then [(h, 0)] else [] := by simp [segsTo]
theorem segsTo_yes {ok : Bool} {h : Int} {c : List Int} {i : Nat} (hi : i < c.length) (hx : (!ok || c.getD i 0 != h) = true) : segsTo ok h c (i + 1) = segsTo ok h c i ++ [(c.getD i 0, 0)] := by
 unfold segsTo
 have e : c.getD i 0 = c[i] := by simp [hi]
 rw [e] at hx ⊢
 rw [List.take_succ_eq_append_getElem hi, List.filter_append, List.map_append, List.append_assoc]
 simp only [List.filter_cons, hx, if_true, List.filter_nil, List.map_cons, List.map_nil]
theorem segsTo_no {ok : Bool} {h : Int} {c : List Int} {i : Nat} (hi : i < c.length) (hx : (!ok || c.getD i 0 != h) = false) : segsTo ok h c (i + 1) = segsTo ok h c i := by
 unfold segsTo
 have e : c.getD i 0 = c[i] := by simp [hi]
 rw [e] at hx
 rw [List.take_succ_eq_append_getElem hi, List.filter_append, List.map_append]
 simp [hx]
theorem segsTo_len (ok : Bool) (h : Int) (c : List Int) (i : Nat) : (segsTo ok h c i).length ≤ i + 1 := by
 unfold segsTo
 rw [List.length_append, List.length_map]
 have h1 := List.length_filter_le (fun x => !ok || x != h) (c.take i)
 have h2 : (c.take i).length ≤ i := by rw [List.length_take]; omega
 have h3 : (if ok = true then [(h, (0 : Int))] else []).length ≤ 1 := by cases ok <;> simp
 omega
/-- What is hunted, behind that. -/
def huntTo (l : List (Int × Int)) (r : List Int) (i : Nat) : List (Int × Int) := l ++ (r.take i).map (fun x => (x, 1))
theorem huntTo_zero (l : List (Int × Int)) (r : List Int) : huntTo l r 0 = l := by simp [huntTo]
theorem huntTo_succ {l : List (Int × Int)} {r : List Int} {i : Nat} (hi : i < r.length) : huntTo l r (i + 1) = huntTo l r i ++ [(r.getD i 0, 1)] := by
 unfold huntTo
 have e : r.getD i 0 = r[i] := by simp [hi]
 rw [e, List.take_succ_eq_append_getElem hi, List.map_append, List.append_assoc]
 rfl
theorem huntTo_len (l : List (Int × Int)) (r : List Int) (i : Nat) : (huntTo l r i).length ≤ l.length + i := by
 unfold huntTo
 rw [List.length_append, List.length_map, List.length_take]; omega
/-- A route. -/
def routeL (ok : Bool) (h : Int) (c : List Int) (op : Bool) (r : List Int) : List (Int × Int) := if op = true then huntTo (segsTo ok h c c.length) r r.length else segsTo ok h c c.length
theorem bucketI_nat {k a p : Int} (h : keyB k = true) (hf : flowOkB a p = true) : ∃ q : Nat, bucketI k a p = (q : Int) ∧ q < 8 := by
 have h1 : 0 ≤ bucketI k a p := by unfold bucketI; omega
 have h2 : bucketI k a p < 8 := by unfold bucketI; omega
 exact ⟨(bucketI k a p).toNat, by omega, by omega⟩
/-- Tables that a pool may have. -/
structure Ring (lr : List (List (List Int))) : Prop where
 pos : 1 ≤ lr.length
 le : lr.length ≤ 3
 ok : ∀ i, i < lr.length → tabOkB (lr.getD i []) = true
theorem Ring.len {lr : List (List (List Int))} (h : Ring lr) (i : Nat) (hi : i < lr.length) : (lr.getD i []).length = 8 := (pair_row (h.ok i hi)).1
theorem Ring.two {lr : List (List (List Int))} (h : Ring lr) (i : Nat) (hi : i < lr.length) (b : Nat) (hb : b < 8) : ((lr.getD i []).getD b []).length ≤ 2 := pair_len ((pair_row (h.ok i hi)).2 b hb)
theorem Ring.ids {lr : List (List (List Int))} (h : Ring lr) {b : Nat} (hb : b < 8) : ∀ x ∈ candL lr b, 0 ≤ x ∧ x < 6 := fun x hx => by
 unfold candL at hx
 rw [candFold_mem] at hx
 rcases hx with hx | ⟨t, ht, hx⟩
 ·cases hx
 ·obtain ⟨i, hi, rfl⟩ := List.getElem_of_mem ht
  have e : lr.getD i [] = lr[i] := by simp [hi]
  have h1 := (pair_row (h.ok i hi)).2 b hb
  rw [e] at h1
  exact pair_ids h1 x hx
theorem Ring.six {lr : List (List (List Int))} (h : Ring lr) {b : Nat} (hb : b < 8) : (candL lr b).length ≤ 6 :=
 six_most 6 _ (candFold_nodup b lr List.nodup_nil) (h.ids hb)
theorem rd_oneG {w : World} {x y : Int} {T : TypeId} : RdL layG (w.alloc (.cells #[.int .i64 x, .int .i64 y] T)).heap.size (w.alloc (.cells #[.int .i64 x, .int .i64 y] T)) (some ⟨w.heap.size, 0, none⟩) [(x, y)] :=
 .inr ⟨w.heap.size, 0, rfl, by simp, fun i hi j hj => by
  have hi' : i = 0 := by simpa using hi
  subst hi'
  have hj' : j = 0 ∨ j = 1 := by have : j < 2 := hj; omega
  rcases hj' with rfl | rfl
  ·simp [go_sem, layG]
  ·simp [go_sem, layG]⟩

end Go.Proofs.YtajfkcpifnpkeaaGreat

