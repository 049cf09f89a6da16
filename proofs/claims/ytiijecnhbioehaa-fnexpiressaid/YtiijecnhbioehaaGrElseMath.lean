/- Several texts in one: SOthT, ElseMath. -/
import Derived.Test.YtiijecnhbioehaaGrTabsT
import Derived.Test.YtiijecnhbioehaaGrDueMath
import Derived.Test.YtiijecnhbioehaaGrSPut
import Derived.Deep.CutRange
import Derived.Test.YtiijecnhbioehaaGrDropElse
import Derived.Test.YtiijecnhbioehaaGrHomeMath
import Derived.Test.YtiijecnhbioehaaGrLFlows
import Derived.Test.YtiijecnhbioehaaGrSExp
/- The laws' sameTable and others. -/
namespace Go.Proofs.Ytiijecnhbioehaa
open Go.ChangeShapes Go.WideShapes Go.ChangeAt Go.RowKit Go.Joins
set_option linter.unusedVariables false
set_option linter.unusedSimpArgs false

set_option maxHeartbeats 4000000 in
theorem sameTable_any (v1 v2 : Value) (m : List Sl) (w : World) (h1 : RdT w.heap.size w v1 m) (h2 : RdT w.heap.size w v2 m) (hl : m.length ≤ 1048576) :
    Calls Try.prog 19 #[v1, v2] w fun e w' => e = .returned (.bool true) ∧ Below w.heap.size w w' := by
  obtain ⟨_, rfl, o1, c1, rfl, r1⟩ := h1
  obtain ⟨_, rfl, o2, c2, rfl, r2⟩ := h2
  obtain ⟨W0, hW0⟩ : ∃ W, ((w.alloc (.cells #[.slice o1 m.length c1] 25)).alloc (.cells #[.slice o2 m.length c2] 25)) = W := ⟨_, rfl⟩
  have hb_W0 : Below w.heap.size w W0 := by rw [← hW0]; exact (((Below.refl _ _).alloc (Nat.le_refl _) _).alloc (by simp <;> omega) _)
  have HB := hide hb_W0
  clear hb_W0
  have zx : w.heap.size < W0.heap.size := by rw [← hW0]; simp <;> omega
  have x0 : W0.cell? ⟨w.heap.size, 0, none⟩ = some (.slice o1 m.length c1) := by rw [← hW0]; simp [go_sem]
  have zy : w.heap.size + 1 < W0.heap.size := by rw [← hW0]; simp
  have y0 : W0.cell? ⟨w.heap.size + 1, 0, none⟩ = some (.slice o2 m.length c2) := by rw [← hW0]; simp [go_sem]
  have HR1 := hide (r1.kept HB.out (Nat.le_refl _))
  have HR2 := hide (r2.kept HB.out (Nat.le_refl _))
  have hw0 := HB.out.size
  clear r1 r2
  go_enter Try.func19, Try.ntmps19
  go_wp2
  go_loopw [5] (fun i wr => ∃ k : Nat, k ≤ m.length ∧ i = .int .i64 k ∧ Hid (Below W0.heap.size W0 wr)) (fun i _ => m.length - (intOf i).toNat)
  case atStart => exact ⟨0, Nat.zero_le _, rfl, Below.refl _ _⟩
  case round =>
    obtain ⟨k, hk, rfl, HBr⟩ := hrel
    have hsr := HBr.out.size
    have zx' : w.heap.size < wr.heap.size := by omega
    have zy' : w.heap.size + 1 < wr.heap.size := by omega
    have x0' := (HBr.out.cell (p := ⟨w.heap.size, 0, none⟩) zx).trans x0
    have y0' := (HBr.out.cell (p := ⟨w.heap.size + 1, 0, none⟩) zy).trans y0
    clear x0 y0
    by_cases hlt : k < m.length
    · have hlt' : (k : Int) < (m.length : Int) := by omega
      rcases HR1.out with hn | ⟨b1, f1, rfl, z1, hc1⟩
      · rw [hn] at hlt; simp at hlt
      rcases HR2.out with hn | ⟨b2, f2, rfl, z2, hc2⟩
      · rw [hn] at hlt; simp at hlt
      have s1 := RdL.slot (C := w.heap.size) hc1 k hlt
      have s2 := RdL.slot (C := w.heap.size) hc2 k hlt
      obtain ⟨s, hs⟩ : ∃ s, m.getD k sl0 = s := ⟨_, rfl⟩
      rw [hs] at s1 s2
      have q1 : b1 < wr.heap.size := by omega
      have q2 : b2 < wr.heap.size := by omega
      have GX := Grown.cell x0' zx'
      have GY := Grown.cell y0' zy'
      have G10 := Grown.cell ((HBr.out.cell (p := ⟨b1, f1 + k * 5, none⟩) (show b1 < W0.heap.size by omega)).trans s1.1) q1
      have G11 := Grown.cell ((HBr.out.cell (p := ⟨b1, f1 + k * 5 + 1, none⟩) (show b1 < W0.heap.size by omega)).trans s1.2.1) q1
      have G12 := Grown.cell ((HBr.out.cell (p := ⟨b1, f1 + k * 5 + 2, none⟩) (show b1 < W0.heap.size by omega)).trans s1.2.2.1) q1
      have G13 := Grown.cell ((HBr.out.cell (p := ⟨b1, f1 + k * 5 + 3, none⟩) (show b1 < W0.heap.size by omega)).trans s1.2.2.2.1) q1
      have G14 := Grown.cell ((HBr.out.cell (p := ⟨b1, f1 + k * 5 + 4, none⟩) (show b1 < W0.heap.size by omega)).trans s1.2.2.2.2) q1
      have G20 := Grown.cell ((HBr.out.cell (p := ⟨b2, f2 + k * 5, none⟩) (show b2 < W0.heap.size by omega)).trans s2.1) q2
      have G21 := Grown.cell ((HBr.out.cell (p := ⟨b2, f2 + k * 5 + 1, none⟩) (show b2 < W0.heap.size by omega)).trans s2.2.1) q2
      have G22 := Grown.cell ((HBr.out.cell (p := ⟨b2, f2 + k * 5 + 2, none⟩) (show b2 < W0.heap.size by omega)).trans s2.2.2.1) q2
      have G23 := Grown.cell ((HBr.out.cell (p := ⟨b2, f2 + k * 5 + 3, none⟩) (show b2 < W0.heap.size by omega)).trans s2.2.2.2.1) q2
      have G24 := Grown.cell ((HBr.out.cell (p := ⟨b2, f2 + k * 5 + 4, none⟩) (show b2 < W0.heap.size by omega)).trans s2.2.2.2.2) q2
      clear s1 s2 hs hc1 hc2
      go_wp2
      (refine wp_region_grown (by kernel_rfl) (by kernel_rfl) ?_; intro hne9; (repeat (go_big_quiet_step (fail))); (with_reducible refine wpQuiet_nil ?_); intro _ hw9; obtain ⟨pq, hw8⟩ := hw9; subst hw8)
      go_wp2
      go_roundw
      case rel => exact ⟨k + 1, hlt, by go_num, HBr.out.trans (pq.b.mono HBr.out.size)⟩
      case measure => simp [intOf]; omega
    · have hlt' : ¬ ((k : Int) < (m.length : Int)) := by omega
      go_wp2
      go_ret
      exact ⟨rfl, HB.out.trans (HBr.out.mono HB.out.size)⟩

/-- What others asks: each flow of the first table but f is got of both, and is the same. -/
def elseOk (m1 m2 : List Sl) (a p : Int) : Prop := ∀ i, i < (flowsM m1).length → (((flowsM m1).getD i (0, 0)).1 = a ∧ ((flowsM m1).getD i (0, 0)).2 = p) ∨ (gotB m1 ((flowsM m1).getD i (0, 0)).1 ((flowsM m1).getD i (0, 0)).2 = true ∧ gotB m2 ((flowsM m1).getD i (0, 0)).1 ((flowsM m1).getD i (0, 0)).2 = true ∧ getM m1 ((flowsM m1).getD i (0, 0)).1 ((flowsM m1).getD i (0, 0)).2 = getM m2 ((flowsM m1).getD i (0, 0)).1 ((flowsM m1).getD i (0, 0)).2)
set_option maxHeartbeats 16000000 in
theorem others_any (v1 v2 : Value) (m1 m2 : List Sl) (a p : Int) (w : World) (h1 : RdT w.heap.size w v1 m1) (h2 : RdT w.heap.size w v2 m2) (hl1 : m1.length ≤ 16) (hl2 : m2.length ≤ 16) (hE : elseOk m1 m2 a p) :
    Calls Try.prog 24 #[v1, v2, flow a p] w fun e w' => e = .returned (.bool true) ∧ Below w.heap.size w w' := by
  have hR1 := h1
  have hR2 := h2
  obtain ⟨_, rfl, o1, c1, rfl, _⟩ := h1
  obtain ⟨_, rfl, o2, c2, rfl, _⟩ := h2
  obtain ⟨W0, hW0⟩ : ∃ W, (((w.alloc (.cells #[.slice o1 m1.length c1] 25)).alloc (.cells #[.slice o2 m2.length c2] 25)).alloc (.cells #[.int .i64 a, .int .i64 p] 27)) = W := ⟨_, rfl⟩
  have hb_W0 : Below w.heap.size w W0 := by rw [← hW0]; exact ((((Below.refl _ _).alloc (Nat.le_refl _) _).alloc (by simp <;> omega) _).alloc (by simp <;> omega) _)
  have HB := hide hb_W0
  clear hb_W0
  have zx : w.heap.size < W0.heap.size := by rw [← hW0]; simp <;> omega
  have x0 : W0.cell? ⟨w.heap.size, 0, none⟩ = some (.slice o1 m1.length c1) := by rw [← hW0]; simp [go_sem]
  have zy : w.heap.size + 1 < W0.heap.size := by rw [← hW0]; simp <;> omega
  have y0 : W0.cell? ⟨w.heap.size + 1, 0, none⟩ = some (.slice o2 m2.length c2) := by rw [← hW0]; simp [go_sem]
  have zf : w.heap.size + 1 + 1 < W0.heap.size := by rw [← hW0]; simp
  have f0 : W0.cell? ⟨w.heap.size + 1 + 1, 0, none⟩ = some (.int .i64 a) := by rw [← hW0]; simp [go_sem]
  have f1 : W0.cell? ⟨w.heap.size + 1 + 1, 1, none⟩ = some (.int .i64 p) := by rw [← hW0]; simp [go_sem]
  have hw0 := HB.out.size
  go_enter Try.func24, Try.ntmps24
  go_wp2_with fail
  refine (specFlowsOf_sh (tab (.slice o1 m1.length c1)) m1 W0 ((hR1.kept HB.out (Nat.le_refl _)).le HB.out.size) (by omega)).mono ?_
  rintro e v1 ⟨vf, rfl, hfs, hb⟩
  obtain ⟨o3, c3, hve, _⟩ := hfs.rd
  subst hve
  have HF := hide hfs
  clear hfs
  replace x0 : v1.cell? ⟨w.heap.size, 0, none⟩ = some (.slice o1 m1.length c1) := (hb.cell (p := ⟨w.heap.size, 0, none⟩) zx).trans x0
  replace zx : w.heap.size < v1.heap.size := Nat.lt_of_lt_of_le zx hb.size
  replace y0 : v1.cell? ⟨w.heap.size + 1, 0, none⟩ = some (.slice o2 m2.length c2) := (hb.cell (p := ⟨w.heap.size + 1, 0, none⟩) zy).trans y0
  replace zy : w.heap.size + 1 < v1.heap.size := Nat.lt_of_lt_of_le zy hb.size
  replace f0 : v1.cell? ⟨w.heap.size + 1 + 1, 0, none⟩ = some (.int .i64 a) := (hb.cell (p := ⟨w.heap.size + 1 + 1, 0, none⟩) zf).trans f0
  replace f1 : v1.cell? ⟨w.heap.size + 1 + 1, 1, none⟩ = some (.int .i64 p) := (hb.cell (p := ⟨w.heap.size + 1 + 1, 1, none⟩) zf).trans f1
  replace zf : w.heap.size + 1 + 1 < v1.heap.size := Nat.lt_of_lt_of_le zf hb.size
  replace HB := hide (HB.out.trans (hb.mono HB.out.size))
  clear hb
  have HR1 := hide (hR1.kept HB.out (Nat.le_refl _))
  have HR2 := hide (hR2.kept HB.out (Nat.le_refl _))
  have hw1 := HB.out.size
  have HE := hide hE
  clear hR1 hR2 hE
  have h16 := flowsM_len m1
  have HG1 := hide (fun xa xp W h => implGet_sh (tab (.slice o1 m1.length c1)) m1 xa xp W h (by omega))
  have HG2 := hide (fun xa xp W h => implGet_sh (tab (.slice o2 m2.length c2)) m2 xa xp W h (by omega))
  unfold elseOk at HE
  generalize flowsM m1 = fs at *
  obtain ⟨n, hn⟩ : ∃ n, fs.length = n := ⟨_, rfl⟩
  have HN := hide hn
  simp only [hn]
  rw [hn] at h16
  clear hn
  go_wp2
  go_loopw [8] (fun iv wr => ∃ i : Nat, iv = .int .i64 i ∧ i ≤ n ∧ Hid (Below v1.heap.size v1 wr)) (fun iv _ => n - (intOf iv).toNat)
  case atStart => exact ⟨0, rfl, Nat.zero_le _, Below.refl _ _⟩
  case round =>
    obtain ⟨i, rfl, hi, HBr⟩ := hrel
    have hsr := HBr.out.size
    by_cases hin : i < n
    · have hin' : (i : Int) < (n : Int) := by omega
      have hfl : i < fs.length := by have := HN.out; omega
      obtain ⟨g, rfl, _, hgw⟩ : ∃ g, o3 = some ⟨g, 0, none⟩ ∧ fs.length ≤ c3 ∧ g < v1.heap.size := by
        rcases own_some HF.out.1 with ⟨_, h, _⟩ | h
        · rw [h] at hfl; simp at hfl
        · exact h
      have r1 := rd_rowF HF.out.1 i hfl
      have hel := HE.out i hfl
      obtain ⟨⟨xa, xp⟩, hx⟩ : ∃ z, fs.getD i (0, 0) = z := ⟨_, rfl⟩
      rw [hx] at r1 hel
      simp only at r1 hel
      clear hx
      have ax0 : wr.cell? ⟨w.heap.size, 0, none⟩ = some (.slice o1 m1.length c1) := (HBr.out.cell (p := ⟨w.heap.size, 0, none⟩) zx).trans x0
      have ay0 : wr.cell? ⟨w.heap.size + 1, 0, none⟩ = some (.slice o2 m2.length c2) := (HBr.out.cell (p := ⟨w.heap.size + 1, 0, none⟩) zy).trans y0
      have af0 : wr.cell? ⟨w.heap.size + 1 + 1, 0, none⟩ = some (.int .i64 a) := (HBr.out.cell (p := ⟨w.heap.size + 1 + 1, 0, none⟩) zf).trans f0
      have af1 : wr.cell? ⟨w.heap.size + 1 + 1, 1, none⟩ = some (.int .i64 p) := (HBr.out.cell (p := ⟨w.heap.size + 1 + 1, 1, none⟩) zf).trans f1
      have ag0 : wr.cell? ⟨g, i * 2, none⟩ = some (.int .i64 xa) := (HBr.out.cell (p := ⟨g, i * 2, none⟩) hgw).trans r1.1
      have ag1 : wr.cell? ⟨g, i * 2 + 1, none⟩ = some (.int .i64 xp) := (HBr.out.cell (p := ⟨g, i * 2 + 1, none⟩) hgw).trans r1.2
      clear x0 y0 f0 f1 r1
      have kx : w.heap.size < wr.heap.size := by omega
      have ky : w.heap.size + 1 < wr.heap.size := by omega
      have kf : w.heap.size + 1 + 1 < wr.heap.size := by omega
      have kg : g < wr.heap.size := by omega
      have HRw1 : Hid (RdT w.heap.size wr (tab (.slice o1 m1.length c1)) m1) := HR1.out.kept HBr.out (by omega)
      have HRw2 : Hid (RdT w.heap.size wr (tab (.slice o2 m2.length c2)) m2) := HR2.out.kept HBr.out (by omega)
      obtain ⟨q1, hq1⟩ : ∃ q, getM m1 xa xp = q := ⟨_, rfl⟩
      obtain ⟨q2, hq2⟩ : ∃ q, getM m2 xa xp = q := ⟨_, rfl⟩
      obtain ⟨t1, ht1⟩ : ∃ q, gotB m1 xa xp = q := ⟨_, rfl⟩
      obtain ⟨t2, ht2⟩ : ∃ q, gotB m2 xa xp = q := ⟨_, rfl⟩
      have HC1 := hide (HG1.out xa xp)
      have HC2 := hide (HG2.out xa xp)
      rw [hq1, ht1] at HC1
      rw [hq2, ht2] at HC2
      rw [hq1, hq2, ht1, ht2] at hel
      have HEl := hide hel
      clear hel hq1 hq2 ht1 ht2 HG1 HG2
      skip
      go_upto_region 5 with fail
      go_cut [9, 10] from 15 to 57 (fun s9 s10 wx => ∃ B, s9 = .pointer (some ⟨B, 0, none⟩) ∧ s10 = .bool t1 ∧ Hid (wx.heap[B]? = some (.cells (slotCells q1) 35 (0, 0))) ∧ Hid (Below wr.heap.size wr wx) ∧ wr.heap.size ≤ B ∧ B < wx.heap.size)
      case first =>
        go_region_held3 (fun w' => w'.cell? ⟨w.heap.size, 0, none⟩ = some (.slice o1 m1.length c1) ∧ w'.cell? ⟨w.heap.size + 1, 0, none⟩ = some (.slice o2 m2.length c2) ∧ w'.cell? ⟨w.heap.size + 1 + 1, 0, none⟩ = some (.int .i64 a) ∧ w'.cell? ⟨w.heap.size + 1 + 1, 1, none⟩ = some (.int .i64 p) ∧ w'.cell? ⟨g, i * 2, none⟩ = some (.int .i64 xa) ∧ w'.cell? ⟨g, i * 2 + 1, none⟩ = some (.int .i64 xp)) (first | with_reducible exact ⟨k0_0, k0_1, k0_2, k0_3, k0_4, k0_5⟩ | with_reducible exact ⟨ax0, ay0, af0, af1, ag0, ag1⟩ | with_reducible exact ⟨set5_cell q1 k0_0 kx, set5_cell q1 k0_1 ky, set5_cell q1 k0_2 kf, set5_cell q1 k0_3 kf, set5_cell q1 k0_4 kg, set5_cell q1 k0_5 kg⟩ | go_keep) (first | (go_at_call 21; have hpre : Below wr.heap.size wr wr.drew := (Below.drew (Below.refl _ _)); have hc_ := HC1.out wr.drew ((HRw1.out.kept hpre (by omega)).le (by have := hpre.size; omega)); (with_reducible refine hc_.mono ?_); clear hc_; rintro e x0 ⟨rfl, hb⟩; have hx0 : Below wr.heap.size wr x0 := hpre.trans (hb.mono hpre.size); have sp0 : wr.heap.size ≤ x0.heap.size := hx0.size; have k0_0 := (hx0.cell (p := ⟨w.heap.size, 0, none⟩) kx).trans ax0; have k0_1 := (hx0.cell (p := ⟨w.heap.size + 1, 0, none⟩) ky).trans ay0; have k0_2 := (hx0.cell (p := ⟨w.heap.size + 1 + 1, 0, none⟩) kf).trans af0; have k0_3 := (hx0.cell (p := ⟨w.heap.size + 1 + 1, 1, none⟩) kf).trans af1; have k0_4 := (hx0.cell (p := ⟨g, i * 2, none⟩) kg).trans ag0; have k0_5 := (hx0.cell (p := ⟨g, i * 2 + 1, none⟩) kg).trans ag1; clear hb) | (go_at_call 21; have hpre : Below wr.heap.size wr (wr.alloc (.cells #[.bool false, .int .i64 0, .int .i64 0, .int .i64 0, .int .i64 0] 35)).drew := (Below.drew ((Below.refl _ _).alloc (Nat.le_refl _) _)); have hc_ := HC1.out (wr.alloc (.cells #[.bool false, .int .i64 0, .int .i64 0, .int .i64 0, .int .i64 0] 35)).drew ((HRw1.out.kept hpre (by omega)).le (by have := hpre.size; omega)); (with_reducible refine hc_.mono ?_); clear hc_; rintro e x0 ⟨rfl, hb⟩; have hx0 : Below wr.heap.size wr x0 := hpre.trans (hb.mono hpre.size); have sp0 : wr.heap.size ≤ x0.heap.size := hx0.size; have k0_0 := (hx0.cell (p := ⟨w.heap.size, 0, none⟩) kx).trans ax0; have k0_1 := (hx0.cell (p := ⟨w.heap.size + 1, 0, none⟩) ky).trans ay0; have k0_2 := (hx0.cell (p := ⟨w.heap.size + 1 + 1, 0, none⟩) kf).trans af0; have k0_3 := (hx0.cell (p := ⟨w.heap.size + 1 + 1, 1, none⟩) kf).trans af1; have k0_4 := (hx0.cell (p := ⟨g, i * 2, none⟩) kg).trans ag0; have k0_5 := (hx0.cell (p := ⟨g, i * 2 + 1, none⟩) kg).trans ag1; have hZ0 : x0.heap[wr.heap.size]? = some (.cells (slotCells sl0) 35 (0, 0)) := zero_slot (box_new0 hb); have hzl0 := (Array.getElem?_eq_some_iff.1 hZ0).1; have hzc0 : x0.cell? ⟨wr.heap.size, 0, none⟩ = some (.bool false) := block_cell1 hZ0 0 _ rfl; have hzf0 := frozen_of hZ0 0; have hzc1 : x0.cell? ⟨wr.heap.size, 1, none⟩ = some (.int .i64 0) := block_cell1 hZ0 1 _ rfl; have hzf1 := frozen_of hZ0 1; have hzc2 : x0.cell? ⟨wr.heap.size, 2, none⟩ = some (.int .i64 0) := block_cell1 hZ0 2 _ rfl; have hzf2 := frozen_of hZ0 2; have hzc3 : x0.cell? ⟨wr.heap.size, 3, none⟩ = some (.int .i64 0) := block_cell1 hZ0 3 _ rfl; have hzf3 := frozen_of hZ0 3; have hzc4 : x0.cell? ⟨wr.heap.size, 4, none⟩ = some (.int .i64 0) := block_cell1 hZ0 4 _ rfl; have hzf4 := frozen_of hZ0 4; clear hb) | fail)
        all_goals (go_wp2_with fail; go_meet)
        all_goals first
          | with_reducible exact fin5 q1 t1 hZ0 hx0 (Nat.le_refl _)
          | with_reducible exact fin5n q1 t1 hx0
      case rest =>
      obtain ⟨B1, rfl, rfl, HXB1, HBlB1, h1B1, h2B1⟩ := hcut
      obtain ⟨d1, hwc⟩ : ∃ W, W = wc := ⟨_, rfl⟩
      subst hwc
      have hsd1 := HBlB1.out.size
      replace ax0 : d1.cell? ⟨w.heap.size, 0, none⟩ = some (.slice o1 m1.length c1) := (HBlB1.out.cell (p := ⟨w.heap.size, 0, none⟩) kx).trans ax0
      replace ay0 : d1.cell? ⟨w.heap.size + 1, 0, none⟩ = some (.slice o2 m2.length c2) := (HBlB1.out.cell (p := ⟨w.heap.size + 1, 0, none⟩) ky).trans ay0
      replace af0 : d1.cell? ⟨w.heap.size + 1 + 1, 0, none⟩ = some (.int .i64 a) := (HBlB1.out.cell (p := ⟨w.heap.size + 1 + 1, 0, none⟩) kf).trans af0
      replace af1 : d1.cell? ⟨w.heap.size + 1 + 1, 1, none⟩ = some (.int .i64 p) := (HBlB1.out.cell (p := ⟨w.heap.size + 1 + 1, 1, none⟩) kf).trans af1
      replace ag0 : d1.cell? ⟨g, i * 2, none⟩ = some (.int .i64 xa) := (HBlB1.out.cell (p := ⟨g, i * 2, none⟩) kg).trans ag0
      replace ag1 : d1.cell? ⟨g, i * 2 + 1, none⟩ = some (.int .i64 xp) := (HBlB1.out.cell (p := ⟨g, i * 2 + 1, none⟩) kg).trans ag1
      replace kx : w.heap.size < d1.heap.size := Nat.lt_of_lt_of_le kx hsd1
      replace ky : w.heap.size + 1 < d1.heap.size := Nat.lt_of_lt_of_le ky hsd1
      replace kf : w.heap.size + 1 + 1 < d1.heap.size := Nat.lt_of_lt_of_le kf hsd1
      replace kg : g < d1.heap.size := Nat.lt_of_lt_of_le kg hsd1
      have HRd2 : Hid (RdT w.heap.size d1 (tab (.slice o2 m2.length c2)) m2) := HRw2.out.kept HBlB1.out (by omega)
      go_upto_region 6 with fail
      go_cut [11, 12] from 15 to 57 (fun s11 s12 wx => ∃ B, s11 = .pointer (some ⟨B, 0, none⟩) ∧ s12 = .bool t2 ∧ Hid (wx.heap[B]? = some (.cells (slotCells q2) 35 (0, 0))) ∧ Hid (Below d1.heap.size d1 wx) ∧ d1.heap.size ≤ B ∧ B < wx.heap.size)
      case first =>
        go_region_held3 (fun w' => w'.cell? ⟨w.heap.size, 0, none⟩ = some (.slice o1 m1.length c1) ∧ w'.cell? ⟨w.heap.size + 1, 0, none⟩ = some (.slice o2 m2.length c2) ∧ w'.cell? ⟨w.heap.size + 1 + 1, 0, none⟩ = some (.int .i64 a) ∧ w'.cell? ⟨w.heap.size + 1 + 1, 1, none⟩ = some (.int .i64 p) ∧ w'.cell? ⟨g, i * 2, none⟩ = some (.int .i64 xa) ∧ w'.cell? ⟨g, i * 2 + 1, none⟩ = some (.int .i64 xp)) (first | with_reducible exact ⟨k0_0, k0_1, k0_2, k0_3, k0_4, k0_5⟩ | with_reducible exact ⟨ax0, ay0, af0, af1, ag0, ag1⟩ | with_reducible exact ⟨set5_cell q2 k0_0 kx, set5_cell q2 k0_1 ky, set5_cell q2 k0_2 kf, set5_cell q2 k0_3 kf, set5_cell q2 k0_4 kg, set5_cell q2 k0_5 kg⟩ | go_keep) (first | (go_at_call 21; have hpre : Below d1.heap.size d1 d1.drew := (Below.drew (Below.refl _ _)); have hc_ := HC2.out d1.drew ((HRd2.out.kept hpre (by omega)).le (by have := hpre.size; omega)); (with_reducible refine hc_.mono ?_); clear hc_; rintro e x0 ⟨rfl, hb⟩; have hx0 : Below d1.heap.size d1 x0 := hpre.trans (hb.mono hpre.size); have sp0 : d1.heap.size ≤ x0.heap.size := hx0.size; have k0_0 := (hx0.cell (p := ⟨w.heap.size, 0, none⟩) kx).trans ax0; have k0_1 := (hx0.cell (p := ⟨w.heap.size + 1, 0, none⟩) ky).trans ay0; have k0_2 := (hx0.cell (p := ⟨w.heap.size + 1 + 1, 0, none⟩) kf).trans af0; have k0_3 := (hx0.cell (p := ⟨w.heap.size + 1 + 1, 1, none⟩) kf).trans af1; have k0_4 := (hx0.cell (p := ⟨g, i * 2, none⟩) kg).trans ag0; have k0_5 := (hx0.cell (p := ⟨g, i * 2 + 1, none⟩) kg).trans ag1; clear hb) | (go_at_call 21; have hpre : Below d1.heap.size d1 (d1.alloc (.cells #[.bool false, .int .i64 0, .int .i64 0, .int .i64 0, .int .i64 0] 35)).drew := (Below.drew ((Below.refl _ _).alloc (Nat.le_refl _) _)); have hc_ := HC2.out (d1.alloc (.cells #[.bool false, .int .i64 0, .int .i64 0, .int .i64 0, .int .i64 0] 35)).drew ((HRd2.out.kept hpre (by omega)).le (by have := hpre.size; omega)); (with_reducible refine hc_.mono ?_); clear hc_; rintro e x0 ⟨rfl, hb⟩; have hx0 : Below d1.heap.size d1 x0 := hpre.trans (hb.mono hpre.size); have sp0 : d1.heap.size ≤ x0.heap.size := hx0.size; have k0_0 := (hx0.cell (p := ⟨w.heap.size, 0, none⟩) kx).trans ax0; have k0_1 := (hx0.cell (p := ⟨w.heap.size + 1, 0, none⟩) ky).trans ay0; have k0_2 := (hx0.cell (p := ⟨w.heap.size + 1 + 1, 0, none⟩) kf).trans af0; have k0_3 := (hx0.cell (p := ⟨w.heap.size + 1 + 1, 1, none⟩) kf).trans af1; have k0_4 := (hx0.cell (p := ⟨g, i * 2, none⟩) kg).trans ag0; have k0_5 := (hx0.cell (p := ⟨g, i * 2 + 1, none⟩) kg).trans ag1; have hZ0 : x0.heap[d1.heap.size]? = some (.cells (slotCells sl0) 35 (0, 0)) := zero_slot (box_new0 hb); have hzl0 := (Array.getElem?_eq_some_iff.1 hZ0).1; have hzc0 : x0.cell? ⟨d1.heap.size, 0, none⟩ = some (.bool false) := block_cell1 hZ0 0 _ rfl; have hzf0 := frozen_of hZ0 0; have hzc1 : x0.cell? ⟨d1.heap.size, 1, none⟩ = some (.int .i64 0) := block_cell1 hZ0 1 _ rfl; have hzf1 := frozen_of hZ0 1; have hzc2 : x0.cell? ⟨d1.heap.size, 2, none⟩ = some (.int .i64 0) := block_cell1 hZ0 2 _ rfl; have hzf2 := frozen_of hZ0 2; have hzc3 : x0.cell? ⟨d1.heap.size, 3, none⟩ = some (.int .i64 0) := block_cell1 hZ0 3 _ rfl; have hzf3 := frozen_of hZ0 3; have hzc4 : x0.cell? ⟨d1.heap.size, 4, none⟩ = some (.int .i64 0) := block_cell1 hZ0 4 _ rfl; have hzf4 := frozen_of hZ0 4; clear hb) | fail)
        all_goals (go_wp2_with fail; go_meet)
        all_goals first
          | with_reducible exact fin5 q2 t2 hZ0 hx0 (Nat.le_refl _)
          | with_reducible exact fin5n q2 t2 hx0
      case rest =>
      obtain ⟨B2, rfl, rfl, HXB2, HBlB2, h1B2, h2B2⟩ := hcut
      obtain ⟨d2, hwc⟩ : ∃ W, W = wc := ⟨_, rfl⟩
      subst hwc
      have hsd2 := HBlB2.out.size
      replace ax0 : d2.cell? ⟨w.heap.size, 0, none⟩ = some (.slice o1 m1.length c1) := (HBlB2.out.cell (p := ⟨w.heap.size, 0, none⟩) kx).trans ax0
      replace ay0 : d2.cell? ⟨w.heap.size + 1, 0, none⟩ = some (.slice o2 m2.length c2) := (HBlB2.out.cell (p := ⟨w.heap.size + 1, 0, none⟩) ky).trans ay0
      replace af0 : d2.cell? ⟨w.heap.size + 1 + 1, 0, none⟩ = some (.int .i64 a) := (HBlB2.out.cell (p := ⟨w.heap.size + 1 + 1, 0, none⟩) kf).trans af0
      replace af1 : d2.cell? ⟨w.heap.size + 1 + 1, 1, none⟩ = some (.int .i64 p) := (HBlB2.out.cell (p := ⟨w.heap.size + 1 + 1, 1, none⟩) kf).trans af1
      replace ag0 : d2.cell? ⟨g, i * 2, none⟩ = some (.int .i64 xa) := (HBlB2.out.cell (p := ⟨g, i * 2, none⟩) kg).trans ag0
      replace ag1 : d2.cell? ⟨g, i * 2 + 1, none⟩ = some (.int .i64 xp) := (HBlB2.out.cell (p := ⟨g, i * 2 + 1, none⟩) kg).trans ag1
      replace kx : w.heap.size < d2.heap.size := Nat.lt_of_lt_of_le kx hsd2
      replace ky : w.heap.size + 1 < d2.heap.size := Nat.lt_of_lt_of_le ky hsd2
      replace kf : w.heap.size + 1 + 1 < d2.heap.size := Nat.lt_of_lt_of_le kf hsd2
      replace kg : g < d2.heap.size := Nat.lt_of_lt_of_le kg hsd2
      have HY1 : Hid (d2.heap[B1]? = some (.cells (slotCells q1) 35 (0, 0))) := (HBlB2.out.block B1 h2B1).trans HXB1.out
      have zB1 : B1 < d2.heap.size := by omega
      have HBe := hide (HBr.out.trans ((HBlB1.out.trans (HBlB2.out.mono hsd1)).mono hsr))
      have GF0 := Grown.cell af0 kf
      have GF1 := Grown.cell af1 kf
      have GG0 := Grown.cell ag0 kg
      have GG1 := Grown.cell ag1 kg
      have G00 : ∀ pp : Grown d2, pp.v.cell? ⟨B1, 0, none⟩ = some (.bool q1.u) := Grown.cell (block_cell1 HY1.out 0 _ rfl) zB1
      have G01 : ∀ pp : Grown d2, pp.v.cell? ⟨B1, 1, none⟩ = some (.int .i64 q1.a) := Grown.cell (block_cell1 HY1.out 1 _ rfl) zB1
      have G02 : ∀ pp : Grown d2, pp.v.cell? ⟨B1, 2, none⟩ = some (.int .i64 q1.p) := Grown.cell (block_cell1 HY1.out 2 _ rfl) zB1
      have G03 : ∀ pp : Grown d2, pp.v.cell? ⟨B1, 3, none⟩ = some (.int .i64 q1.v) := Grown.cell (block_cell1 HY1.out 3 _ rfl) zB1
      have G04 : ∀ pp : Grown d2, pp.v.cell? ⟨B1, 4, none⟩ = some (.int .i64 q1.t) := Grown.cell (block_cell1 HY1.out 4 _ rfl) zB1
      have G10 : ∀ pp : Grown d2, pp.v.cell? ⟨B2, 0, none⟩ = some (.bool q2.u) := Grown.cell (block_cell1 HXB2.out 0 _ rfl) h2B2
      have G11 : ∀ pp : Grown d2, pp.v.cell? ⟨B2, 1, none⟩ = some (.int .i64 q2.a) := Grown.cell (block_cell1 HXB2.out 1 _ rfl) h2B2
      have G12 : ∀ pp : Grown d2, pp.v.cell? ⟨B2, 2, none⟩ = some (.int .i64 q2.p) := Grown.cell (block_cell1 HXB2.out 2 _ rfl) h2B2
      have G13 : ∀ pp : Grown d2, pp.v.cell? ⟨B2, 3, none⟩ = some (.int .i64 q2.v) := Grown.cell (block_cell1 HXB2.out 3 _ rfl) h2B2
      have G14 : ∀ pp : Grown d2, pp.v.cell? ⟨B2, 4, none⟩ = some (.int .i64 q2.t) := Grown.cell (block_cell1 HXB2.out 4 _ rfl) h2B2
      clear ax0 ay0 af0 af1 ag0 ag1
      have hE := HEl.out
      clear HEl HC1 HC2 HRw1 HRw2 HRd2 HXB1 HXB2 HBlB1 HBlB2 HY1
      rcases hE with ⟨rfl, rfl⟩ | ⟨rfl, rfl, rfl⟩
      · go_upto_region 7 with fail
        (refine wp_region_grown (by kernel_rfl) (by kernel_rfl) ?_; intro hne9; (repeat (go_big_quiet_step (fail))); (with_reducible refine wpQuiet_nil ?_); intro _ hw9; obtain ⟨pq, hw8⟩ := hw9; subst hw8)
        go_wp2
        go_roundw
        case rel => exact ⟨i + 1, by go_num, hin, HBe.out.trans (pq.b.mono HBe.out.size)⟩
        case measure => simp [intOf]; omega
      · by_cases e1 : xa = a
        · subst e1
          by_cases e2 : xp = p
          · subst e2
            go_upto_region 7 with fail
            (refine wp_region_grown (by kernel_rfl) (by kernel_rfl) ?_; intro hne9; (repeat (go_big_quiet_step (fail))); (with_reducible refine wpQuiet_nil ?_); intro _ hw9; obtain ⟨pq, hw8⟩ := hw9; subst hw8)
            go_wp2
            go_roundw
            case rel => exact ⟨i + 1, by go_num, hin, HBe.out.trans (pq.b.mono HBe.out.size)⟩
            case measure => simp [intOf]; omega
          · go_upto_region 7 with fail
            (refine wp_region_grown (by kernel_rfl) (by kernel_rfl) ?_; intro hne9; (repeat (go_big_quiet_step (fail))); (with_reducible refine wpQuiet_nil ?_); intro _ hw9; obtain ⟨pq, hw8⟩ := hw9; subst hw8)
            go_wp2
            go_roundw
            case rel => exact ⟨i + 1, by go_num, hin, HBe.out.trans (pq.b.mono HBe.out.size)⟩
            case measure => simp [intOf]; omega
        · go_upto_region 7 with fail
          (refine wp_region_grown (by kernel_rfl) (by kernel_rfl) ?_; intro hne9; (repeat (go_big_quiet_step (fail))); (with_reducible refine wpQuiet_nil ?_); intro _ hw9; obtain ⟨pq, hw8⟩ := hw9; subst hw8)
          go_wp2
          go_roundw
          case rel => exact ⟨i + 1, by go_num, hin, HBe.out.trans (pq.b.mono HBe.out.size)⟩
          case measure => simp [intOf]; omega
    · have hin' : ¬ ((i : Int) < (n : Int)) := by omega
      go_wp2
      go_ret
      exact ⟨rfl, HB.out.trans (HBr.out.mono HB.out.size)⟩

end Go.Proofs.Ytiijecnhbioehaa

/- What a drop and a put leave of a table that may be: what is listed is got, how many there are. -/
namespace Go.Proofs.Ytiijecnhbioehaa
open Go.ChangeShapes Go.WideShapes Go.ChangeAt Go.RowKit Go.Joins
set_option linter.unusedVariables false
set_option linter.unusedSimpArgs false

theorem cnt_count (l : List Sl) : ∀ k, k ≤ l.length → countTo l k = sumTo k (cntW l)
  | 0, _ => by simp [countTo, sumTo]
  | k + 1, h => by
    rw [countTo_succ (by omega), cnt_count l k (by omega)]
    rfl
theorem countL_cnt (l : List Sl) : countL l = cnt l := cnt_count l l.length (Nat.le_refl _)
theorem countM_cnt {l : List Sl} (h : tableOkB l = true) : countM l = (cnt l : Nat) := by
  unfold countM; rw [if_pos h, countL_cnt]
theorem gotB_ok {l : List Sl} {a p : Int} (h : tableOkB l = true) (hf : flowOkB a p = true) : gotB l a p = (endL l a p).2 := by
  unfold gotB; rw [h, hf]; rfl
theorem getM_ok {l : List Sl} {a p : Int} (h : tableOkB l = true) (hf : flowOkB a p = true) : getM l a p = getL l a p := by
  unfold getM; rw [h, hf]; rfl
/-- What is listed stands there. -/
theorem flowsM_has {l : List Sl} (h : tableOkB l = true) (i : Nat) (hi : i < (flowsM l).length) : ∃ j : Nat, endL l ((flowsM l).getD i (0, 0)).1 ((flowsM l).getD i (0, 0)).2 = ((j : Int), true) := by
  have e : flowsM l = sortF (flowsTo l l.length) := by unfold flowsM; rw [if_pos h]
  have hx : (flowsM l).getD i (0, 0) ∈ flowsTo l l.length := by
    rw [e] at hi ⊢
    rw [List.getD_eq_getElem?_getD, List.getElem?_eq_getElem hi]
    exact (sortF_perm _).mem_iff.1 (List.getElem_mem hi)
  generalize (flowsM l).getD i (0, 0) = x at *
  unfold flowsTo at hx
  rw [List.take_length] at hx
  obtain ⟨s, hs, rfl⟩ := List.mem_map.1 hx
  obtain ⟨h1, h2⟩ := List.mem_filter.1 hs
  obtain ⟨j, hj, e⟩ := List.getElem_of_mem h1
  have a1 : at' l j = s := by unfold at'; rw [List.getD_eq_getElem?_getD, List.getElem?_eq_getElem hj]; exact e
  exact ⟨j, (found_iff h).2 ⟨hj, by rw [a1]; exact h2, by rw [a1], by rw [a1]⟩⟩
theorem flowsM_got {l : List Sl} (h : tableOkB l = true) (i : Nat) (hi : i < (flowsM l).length) : gotB l ((flowsM l).getD i (0, 0)).1 ((flowsM l).getD i (0, 0)).2 = true := by
  obtain ⟨j, e⟩ := flowsM_has h i hi
  rw [gotB_ok h (flowsM_ok h i hi), e]

/-- All else of a table is got behind a drop as it was. -/
theorem drop_elseOk {m : List Sl} {a p : Int} {i : Nat} (h : tableOkB m = true) (e : endL m a p = ((i : Int), true)) : elseOk m (dropAtL m i) a p := by
  intro k hk
  have h1 := flowsM_got h k hk
  have h2 := flowsM_ok h k hk
  generalize (flowsM m).getD k (0, 0) = x at *
  by_cases hx : x.1 = a ∧ x.2 = p
  · exact .inl hx
  · right
    obtain ⟨hi, _⟩ := (found_iff h).1 e
    have ho := dropAtL_ok h hi
    have h3 := h1
    rw [gotB_ok h h2] at h3
    obtain ⟨h4, h5⟩ := (drop_else h e hx (getL m x.1 x.2)).2 ⟨h3, rfl⟩
    exact ⟨h1, by rw [gotB_ok ho h2]; exact h4, by rw [getM_ok h h2, getM_ok ho h2]; exact h5.symm⟩
theorem dropM_yes {m : List Sl} {a p : Int} (hg : gotB m a p = true) : tableOkB m = true ∧ tableOkB (dropM m a p) = true ∧ gotB (dropM m a p) a p = false ∧ countM (dropM m a p) = countM m - 1 ∧ elseOk m (dropM m a p) a p := by
  have hok : tableOkB m = true ∧ flowOkB a p = true := by
    unfold gotB at hg
    split at hg
    · next h => exact (Bool.and_eq_true _ _).mp h
    · cases hg
  obtain ⟨h, hf⟩ := hok
  rw [gotB_ok h hf] at hg
  have hn := (tableOkB_iff.1 h).1
  rcases endL_cases m (by omega) a p with e | ⟨k, hk, ⟨e, _⟩ | ⟨e, hu, _⟩⟩
  · rw [e] at hg; cases hg
  · rw [e] at hg; cases hg
  · have hD : dropM m a p = dropAtL m k := by unfold dropM; rw [h, hf]; exact dropL_yes e
    have ho := dropAtL_ok h hk
    rw [hD]
    refine ⟨h, ho, ?_, ?_, drop_elseOk h e⟩
    · rw [gotB_ok ho hf]; exact drop_gone h e
    · rw [countM_cnt h, countM_cnt ho]
      have := cnt_dropAt h hk hu
      omega
theorem dropM_no {m : List Sl} {a p : Int} (hg : gotB m a p = false) : (dropM m a p = [] ∨ (dropM m a p = m ∧ 1 ≤ m.length)) := by
  unfold dropM
  unfold gotB at hg
  by_cases hc : (tableOkB m && flowOkB a p) = true
  · rw [if_pos hc] at hg ⊢
    exact .inr ⟨dropL_no hg, (tableOkB_iff.1 ((Bool.and_eq_true _ _).mp hc).1).1⟩
  · rw [if_neg hc]; exact .inl rfl

/-- A put: it is got; all else as it was; one more if it was not there. -/
theorem putM_yes {m : List Sl} {a p v t : Int} (hg : putB m a p v t = true) : tableOkB m = true ∧ tableOkB (putM m a p v t) = true ∧ gotB (putM m a p v t) a p = true ∧ (getM (putM m a p v t) a p).v = v ∧ (getM (putM m a p v t) a p).t = t ∧ countM (putM m a p v t) = countM m + (if gotB m a p = true then 0 else 1) ∧ elseOk m (putM m a p v t) a p := by
  have hok : (tableOkB m = true ∧ flowOkB a p = true) ∧ leaseB v t = true := by
    unfold putB at hg
    split at hg
    · next h => unfold putOk at h; exact ⟨(Bool.and_eq_true _ _).mp ((Bool.and_eq_true _ _).mp h).1, ((Bool.and_eq_true _ _).mp h).2⟩
    · cases hg
  obtain ⟨⟨h, hf⟩, hlv⟩ := hok
  have hpo : putOk m a p v t = true := by unfold putOk; rw [h, hf, hlv]; rfl
  obtain ⟨l1, l2, l3, l4⟩ := leaseB_iff.1 hlv
  have hn := (tableOkB_iff.1 h).1
  have hM : putM m a p v t = putL m a p v t := by unfold putM; rw [if_pos hpo]
  have hB : 0 ≤ (endL m a p).1 := by unfold putB at hg; rw [if_pos hpo] at hg; exact of_decide_eq_true hg
  obtain ⟨k, f, hk, e, hfu⟩ : ∃ (k : Nat) (f : Bool), k < m.length ∧ endL m a p = ((k : Int), f) ∧ (at' m k).u = f := by
    rcases endL_cases m (by omega) a p with e | ⟨k, hk, ⟨e, hu⟩ | ⟨e, hu, _⟩⟩
    · rw [e] at hB; exact absurd hB (by decide)
    · exact ⟨k, false, hk, e, hu⟩
    · exact ⟨k, true, hk, e, hu⟩
  have hL : putL m a p v t = m.set k ⟨true, a, p, v, t⟩ := by unfold putL; rw [e, if_pos (by simp)]; simp
  have ho := set_ok h hf ⟨l1, l2⟩ ⟨l3, l4⟩ hk e
  have hgt := put_got h hf ⟨l1, l2⟩ ⟨l3, l4⟩ hk e
  rw [hM, hL]
  have hgl : getL (m.set k ⟨true, a, p, v, t⟩) a p = ⟨true, a, p, v, t⟩ := by
    unfold getL
    rw [hgt, if_pos rfl]
    show (m.set k ⟨true, a, p, v, t⟩).getD k sl0 = _
    exact at_set_self _ hk
  refine ⟨h, ho, by rw [gotB_ok ho hf, hgt], by rw [getM_ok ho hf, hgl], by rw [getM_ok ho hf, hgl], ?_, ?_⟩
  · rw [countM_cnt h, countM_cnt ho, gotB_ok h hf, e]
    have hc := cnt_set hk (⟨true, a, p, v, t⟩ : Sl)
    unfold cntW at hc
    rw [hfu] at hc
    cases f
    · simp at hc ⊢; omega
    · simp at hc ⊢; omega
  · intro j hj
    obtain ⟨q, eq⟩ := flowsM_has h j hj
    have h1 := flowsM_got h j hj
    have h2 := flowsM_ok h j hj
    generalize (flowsM m).getD j (0, 0) = x at *
    by_cases hx : x.1 = a ∧ x.2 = p
    · exact .inl hx
    · right
      have e2 := (put_else h hf ⟨l1, l2⟩ ⟨l3, l4⟩ hk e hx q).2 eq
      refine ⟨h1, by rw [gotB_ok ho h2, e2], ?_⟩
      rw [getM_ok h h2, getM_ok ho h2]
      unfold getL
      rw [eq, e2]
      have hq := (found_iff h).1 eq
      have hne : q ≠ k := by
        rintro rfl
        have h5 := (found_iff ho).1 e2
        rw [at_set_self _ hk] at h5
        exact hx ⟨h5.2.2.1.symm, h5.2.2.2.symm⟩
      show (if True then m.getD q sl0 else sl0) = (if True then (m.set k ⟨true, a, p, v, t⟩).getD q sl0 else sl0)
      rw [if_pos trivial, if_pos trivial]
      exact (at_set_ne _ (fun h => hne h.symm)).symm
theorem putM_no {m : List Sl} {a p v t : Int} (hg : putB m a p v t = false) : (putM m a p v t = [] ∨ (putM m a p v t = m ∧ 1 ≤ m.length)) := by
  unfold putM
  unfold putB at hg
  by_cases hc : putOk m a p v t = true
  · rw [if_pos hc] at hg ⊢
    right
    refine ⟨?_, ?_⟩
    · unfold putL; rw [if_neg (of_decide_eq_false hg)]
    · unfold putOk at hc; exact (tableOkB_iff.1 ((Bool.and_eq_true _ _).mp ((Bool.and_eq_true _ _).mp hc).1).1).1
  · rw [if_neg hc]; exact .inl rfl

end Go.Proofs.Ytiijecnhbioehaa

