/- The program's dropAt. -/
import Derived.Test.YthcbhfgbplgfiaaDropMath
import Derived.Test.YthcbhfgbplgfiaaGrow
import Derived.Deep.LoopGhost
namespace Go.Proofs.Ythcbhfgbplgfiaa
open Go.ChangeShapes Go.WideShapes Go.ChangeAt Go.RowKit Go.Joins
set_option linter.unusedVariables false
set_option linter.unusedSimpArgs false

theorem rd_row {e : TypeId} {w : World} {base g n c : Nat} {m : List Sl} (h : w.ownsRow base e 5 (.slice (some ⟨g, 0, none⟩) n c) n (m.flatMap layS.cs)) (hn : n = m.length) (i : Nat) (hi : i < n) :
    w.cell? ⟨g, i * 5, none⟩ = some (.bool (m.getD i sl0).u) ∧ w.cell? ⟨g, i * 5 + 1, none⟩ = some (.int .i64 (m.getD i sl0).a) ∧ w.cell? ⟨g, i * 5 + 2, none⟩ = some (.int .i64 (m.getD i sl0).p) ∧ w.cell? ⟨g, i * 5 + 3, none⟩ = some (.int .i64 (m.getD i sl0).v) ∧ w.cell? ⟨g, i * 5 + 4, none⟩ = some (.int .i64 (m.getD i sl0).t) := by
  have h1 := rd_of_own h hn
  have h2 := RdL.slot (C := w.heap.size) h1 i (by omega)
  simpa only [Nat.zero_add] using h2
set_option maxHeartbeats 8000000 in
theorem dropAt_any (g c base n i0 : Nat) (l : List Sl) (w : World) (hn : l.length = n) (h16 : n ≤ 16) (hi0 : i0 < n) (hok : flowsOk l) (ho : w.ownsRow base CellT 5 (.slice (some ⟨g, 0, none⟩) n c) n (l.flatMap layS.cs)) :
    Calls Try.prog 123 #[tab (.slice (some ⟨g, 0, none⟩) n c), .int .i64 i0] w fun e w' => (∃ v, e = .returned v) ∧ w'.ownsRow base CellT 5 (.slice (some ⟨g, 0, none⟩) n c) n ((dropAtL l i0).flatMap layS.cs) ∧ Stp g (g + 1) w w' := by
  have hgw := (ho.lt g rfl).2
  have HO := hide ho
  clear ho
  obtain ⟨W0, hW0⟩ : ∃ W, (w.alloc (.cells #[.slice (some ⟨g, 0, none⟩) n c] 78)) = W := ⟨_, rfl⟩
  have hb_W0 : Below w.heap.size w W0 := by rw [← hW0]; exact ((Below.refl _ _).alloc (Nat.le_refl _) _)
  replace HO := hide (own_kept HO.out hb_W0)
  have HB := hide hb_W0
  clear hb_W0
  have zct : w.heap.size < W0.heap.size := by rw [← hW0]; simp
  have ct0 : W0.cell? ⟨w.heap.size, 0, none⟩ = some (.slice (some ⟨g, 0, none⟩) n c) := by rw [← hW0]; simp [go_sem]
  have ho : W0.ownsRow base CellT 5 (.slice (some ⟨g, 0, none⟩) n c) n (l.flatMap layS.cs) := HO.out
  have hln : (l.flatMap layS.cs).length = n * 5 := by rw [flat_length, hn]; rfl
  obtain ⟨u0, hu0⟩ : ∃ u, W0.cell? ⟨g, i0 * 5, none⟩ = some u := ⟨_, (ho.cellAt (i0 * 5) (by omega)).trans (List.getElem?_eq_getElem (by omega))⟩
  have fu0 := ho.frozenAt (i0 * 5)
  obtain ⟨u1, hu1⟩ : ∃ u, W0.cell? ⟨g, i0 * 5 + 1, none⟩ = some u := ⟨_, (ho.cellAt (i0 * 5 + 1) (by omega)).trans (List.getElem?_eq_getElem (by omega))⟩
  have fu1 := ho.frozenAt (i0 * 5 + 1)
  obtain ⟨u2, hu2⟩ : ∃ u, W0.cell? ⟨g, i0 * 5 + 2, none⟩ = some u := ⟨_, (ho.cellAt (i0 * 5 + 2) (by omega)).trans (List.getElem?_eq_getElem (by omega))⟩
  have fu2 := ho.frozenAt (i0 * 5 + 2)
  obtain ⟨u3, hu3⟩ : ∃ u, W0.cell? ⟨g, i0 * 5 + 3, none⟩ = some u := ⟨_, (ho.cellAt (i0 * 5 + 3) (by omega)).trans (List.getElem?_eq_getElem (by omega))⟩
  have fu3 := ho.frozenAt (i0 * 5 + 3)
  obtain ⟨u4, hu4⟩ : ∃ u, W0.cell? ⟨g, i0 * 5 + 4, none⟩ = some u := ⟨_, (ho.cellAt (i0 * 5 + 4) (by omega)).trans (List.getElem?_eq_getElem (by omega))⟩
  have fu4 := ho.frozenAt (i0 * 5 + 4)
  obtain ⟨W1, hW1⟩ : ∃ W, (((((W0.setCell ⟨g, i0 * 5, none⟩ (.bool false)).setCell ⟨g, i0 * 5 + 1, none⟩ (.int .i64 0)).setCell ⟨g, i0 * 5 + 2, none⟩ (.int .i64 0)).setCell ⟨g, i0 * 5 + 3, none⟩ (.int .i64 0)).setCell ⟨g, i0 * 5 + 4, none⟩ (.int .i64 0)) = W := ⟨_, rfl⟩
  have HO1 : Hid (W1.ownsRow base CellT 5 (.slice (some ⟨g, 0, none⟩) n c) n ((l.set i0 sl0).flatMap layS.cs)) := by rw [← hW1]; exact (stored5 (k := i0) sl0 (Nat.le_refl g) ho (Below.refl g W0)).1
  have HSt1 : Hid (Stp g (g + 1) W0 W1) := by rw [← hW1]; exact stp_set5 W0 g i0 sl0
  have hgz : g < W0.heap.size := (ho.lt g rfl).2
  have ct1 : W1.cell? ⟨w.heap.size, 0, none⟩ = some (.slice (some ⟨g, 0, none⟩) n c) := HSt1.out.cell ct0 zct (.inr (by omega))
  have zct1 : w.heap.size < W1.heap.size := Nat.lt_of_lt_of_le zct HSt1.out.size
  have i1 : (i0 : Int) < (n : Int) := by omega
  have HInv0 := hide (DropInv.start (l := l) (i := i0) (by omega) (by omega) hok)
  rw [hn] at HInv0
  clear ho hln hok
  go_enter Try.func123, Try.ntmps123
  go_wp2_with fail
  refine (behind_any (some ⟨g, 0, none⟩) n c i0 W1 (by omega) (by omega) hi0).mono ?_
  rintro e W2 ⟨rfl, hb2⟩
  have HO2 := hide (own_kept HO1.out hb2)
  have ct2 : W2.cell? ⟨w.heap.size, 0, none⟩ = some (.slice (some ⟨g, 0, none⟩) n c) := (hb2.cell (p := ⟨w.heap.size, 0, none⟩) zct1).trans ct1
  have HSt2 := hide ((Stp.of (lo := g) (hi := g + 1) HB.out).trans (HSt1.out.trans (Stp.of hb2)))
  have zct2 : w.heap.size < W2.heap.size := Nat.lt_of_lt_of_le zct1 hb2.size
  clear hb2 hu0 fu0 hu1 fu1 hu2 fu2 hu3 fu3 hu4 fu4 hW1 ct0 ct1 HO HO1 HSt1
  go_wp2
  go_loopg [1, 4] (meas (l.set i0 sl0) i0 ((i0 + 1) % n)) (fun gk hv kv wr => ∃ (m : List Sl) (i k : Nat), hv = .int .i64 i ∧ kv = .int .i64 k ∧ Hid (DropInv n (dropAtL l i0) gk m i k) ∧ Hid (wr.ownsRow base CellT 5 (.slice (some ⟨g, 0, none⟩) n c) n (m.flatMap layS.cs)) ∧ Hid (wr.cell? ⟨w.heap.size, 0, none⟩ = some (.slice (some ⟨g, 0, none⟩) n c)) ∧ w.heap.size < wr.heap.size ∧ Hid (Stp g (g + 1) w wr))
  case atStart => exact ⟨_, i0, (i0 + 1) % n, rfl, by simp, HInv0, HO2, ct2, zct2, HSt2⟩
  case round =>
    obtain ⟨m, i, k, rfl, rfl, HI, HO, HC, zct, HSt⟩ := hrel
    clear HInv0 HO2 ct2 zct2 HSt2 HB
    have hml := HI.out.len
    have hik := HI.out.hi
    have hkk := HI.out.hk
    have ho : wr.ownsRow base CellT 5 (.slice (some ⟨g, 0, none⟩) n c) n (m.flatMap layS.cs) := HO.out
    have ct0 := HC.out
    have hgr : g < wr.heap.size := (ho.lt g rfl).2
    obtain ⟨s, hxy⟩ : ∃ s, m.getD k sl0 = s := ⟨_, rfl⟩
    have hrk := rd_row ho hml.symm k hkk
    rw [hxy] at hrk
    have e0 := hrk.1
    have e1 := hrk.2.1
    have e2 := hrk.2.2.1
    have e3 := hrk.2.2.2.1
    have e4 := hrk.2.2.2.2
    have hk1 : (k : Int) < (n : Int) := by omega
    have hi1 : (i : Int) < (n : Int) := by omega
    have HX := hide hxy
    clear hrk hxy
    obtain ⟨su, sa, sp, sv, st⟩ := s
    simp only at e0 e1 e2 e3 e4
    cases su with
    | false =>
      have HD := hide (HI.out.done (by rw [HX.out]))
      clear ho
      go_wp2
      go_end0
      exact ⟨⟨_, rfl⟩, by rw [← HD.out]; exact HO.out, HSt.out⟩
    | true =>
    have hfo : flowOkB sa sp = true := by have h := HI.out.ok k (by omega) (by rw [HX.out]); rw [HX.out] at h; exact h
    have hne : i ≠ k := fun e => by have h := HI.out.free; rw [e, HX.out] at h; cases h
    obtain ⟨W3, hW3⟩ : ∃ W, wr.alloc (.cells #[.bool true, .int .i64 sa, .int .i64 sp, .int .i64 sv, .int .i64 st] 121) = W := ⟨_, rfl⟩
    have hb3 : Below wr.heap.size wr W3 := by rw [← hW3]; exact (Below.refl _ _).alloc (Nat.le_refl _) _
    have ct3 : W3.cell? ⟨w.heap.size, 0, none⟩ = some (.slice (some ⟨g, 0, none⟩) n c) := (hb3.cell (p := ⟨w.heap.size, 0, none⟩) zct).trans ct0
    have zct3 : w.heap.size < W3.heap.size := Nat.lt_of_lt_of_le zct hb3.size
    have zs3 : wr.heap.size < W3.heap.size := by rw [← hW3]; simp
    have s0 : W3.cell? ⟨wr.heap.size, 0, none⟩ = some (.bool true) := by rw [← hW3]; simp [go_sem]
    have s1 : W3.cell? ⟨wr.heap.size, 1, none⟩ = some (.int .i64 sa) := by rw [← hW3]; simp [go_sem]
    have s2 : W3.cell? ⟨wr.heap.size, 2, none⟩ = some (.int .i64 sp) := by rw [← hW3]; simp [go_sem]
    have s3 : W3.cell? ⟨wr.heap.size, 3, none⟩ = some (.int .i64 sv) := by rw [← hW3]; simp [go_sem]
    have s4 : W3.cell? ⟨wr.heap.size, 4, none⟩ = some (.int .i64 st) := by rw [← hW3]; simp [go_sem]
    have HO3 := hide (own_kept ho hb3)
    have HSt3 := hide (HSt.out.trans (Stp.of hb3))
    clear hb3
    have G0 := Grown.cell ct3 zct3
    have G1 := Grown.cell s1 zs3
    have G2 := Grown.cell s2 zs3
    have hhl := homeN_lt (show 0 < n by omega) sa sp
    have hA := fun (P : Grown W3) => grown_of P (home_any (some ⟨g, 0, none⟩) n c sa sp P.v (by omega) (by omega) hfo)
    have hmvx : moves n m i k = decide (farN n i k ≤ farN n (homeN n sa sp) k) := by unfold moves; rw [HX.out]
    have HMv := hide hmvx
    clear hmvx
    generalize homeN n sa sp = hm at *
    have hB := fun (P : Grown W3) => grown_of P (far_any (some ⟨g, 0, none⟩) n c hm k P.v (by omega) hhl hkk)
    have hC := fun (P : Grown W3) => grown_of P (far_any (some ⟨g, 0, none⟩) n c i k P.v (by omega) hik hkk)
    generalize farN n hm k = d1 at *
    generalize farN n i k = d2 at *
    by_cases hmv : (d2 : Int) ≤ (d1 : Int)
    · skip
      have HNx := hide (HI.out.move (by rw [HX.out]) (by rw [HMv.out]; exact decide_eq_true (by omega)))
      rw [HX.out] at HNx
      clear ho
      have Gs0 := Grown.cell s0 zs3
      have Gs1 := Grown.cell s1 zs3
      have Gs2 := Grown.cell s2 zs3
      have Gs3 := Grown.cell s3 zs3
      have Gs4 := Grown.cell s4 zs3
      go_wp2
      (refine wp_region_grown (by kernel_rfl) (by kernel_rfl) ?_; intro hne9; (repeat (go_big_quiet_step ((first | (go_at_call 140; exact hA _) | (go_at_call 139; first | with_reducible exact hB _ | with_reducible exact hC _))))); (with_reducible refine wpQuiet_nil ?_); intro _ hw9; obtain ⟨pq, hw8⟩ := hw9; subst hw8)
      have ho : pq.v.ownsRow base CellT 5 (.slice (some ⟨g, 0, none⟩) n c) n (m.flatMap layS.cs) := own_kept HO3.out pq.b
      have cp0 : pq.v.cell? ⟨w.heap.size, 0, none⟩ = some (.slice (some ⟨g, 0, none⟩) n c) := G0 pq
      have zp : w.heap.size < pq.v.heap.size := Nat.lt_of_lt_of_le zct3 pq.b.size
      have HStp := hide (HSt3.out.trans (Stp.of pq.b))
      have sp0 : pq.v.cell? ⟨wr.heap.size, 0, none⟩ = some (.bool true) := Gs0 pq
      have sp1 : pq.v.cell? ⟨wr.heap.size, 1, none⟩ = some (.int .i64 sa) := Gs1 pq
      have sp2 : pq.v.cell? ⟨wr.heap.size, 2, none⟩ = some (.int .i64 sp) := Gs2 pq
      have sp3 : pq.v.cell? ⟨wr.heap.size, 3, none⟩ = some (.int .i64 sv) := Gs3 pq
      have sp4 : pq.v.cell? ⟨wr.heap.size, 4, none⟩ = some (.int .i64 st) := Gs4 pq
      have hln : (m.flatMap layS.cs).length = n * 5 := by rw [flat_length, hml]; rfl
      obtain ⟨u0, hu0⟩ : ∃ u, pq.v.cell? ⟨g, i * 5, none⟩ = some u := ⟨_, (ho.cellAt (i * 5) (by omega)).trans (List.getElem?_eq_getElem (by omega))⟩
      have fu0 := ho.frozenAt (i * 5)
      obtain ⟨u1, hu1⟩ : ∃ u, pq.v.cell? ⟨g, i * 5 + 1, none⟩ = some u := ⟨_, (ho.cellAt (i * 5 + 1) (by omega)).trans (List.getElem?_eq_getElem (by omega))⟩
      have fu1 := ho.frozenAt (i * 5 + 1)
      obtain ⟨u2, hu2⟩ : ∃ u, pq.v.cell? ⟨g, i * 5 + 2, none⟩ = some u := ⟨_, (ho.cellAt (i * 5 + 2) (by omega)).trans (List.getElem?_eq_getElem (by omega))⟩
      have fu2 := ho.frozenAt (i * 5 + 2)
      obtain ⟨u3, hu3⟩ : ∃ u, pq.v.cell? ⟨g, i * 5 + 3, none⟩ = some u := ⟨_, (ho.cellAt (i * 5 + 3) (by omega)).trans (List.getElem?_eq_getElem (by omega))⟩
      have fu3 := ho.frozenAt (i * 5 + 3)
      obtain ⟨u4, hu4⟩ : ∃ u, pq.v.cell? ⟨g, i * 5 + 4, none⟩ = some u := ⟨_, (ho.cellAt (i * 5 + 4) (by omega)).trans (List.getElem?_eq_getElem (by omega))⟩
      have fu4 := ho.frozenAt (i * 5 + 4)
      obtain ⟨W4, hW4⟩ : ∃ W, (((((pq.v.setCell ⟨g, i * 5, none⟩ (.bool true)).setCell ⟨g, i * 5 + 1, none⟩ (.int .i64 sa)).setCell ⟨g, i * 5 + 2, none⟩ (.int .i64 sp)).setCell ⟨g, i * 5 + 3, none⟩ (.int .i64 sv)).setCell ⟨g, i * 5 + 4, none⟩ (.int .i64 st)) = W := ⟨_, rfl⟩
      have ho4 : W4.ownsRow base CellT 5 (.slice (some ⟨g, 0, none⟩) n c) n ((m.set i ⟨true, sa, sp, sv, st⟩).flatMap layS.cs) := by rw [← hW4]; exact (stored5 (k := i) ⟨true, sa, sp, sv, st⟩ (Nat.le_refl g) ho (Below.refl g pq.v)).1
      have HSt4 : Hid (Stp g (g + 1) pq.v W4) := by rw [← hW4]; exact stp_set5 pq.v g i ⟨true, sa, sp, sv, st⟩
      have hln4 : ((m.set i ⟨true, sa, sp, sv, st⟩).flatMap layS.cs).length = n * 5 := by rw [flat_length, List.length_set, hml]; rfl
      obtain ⟨y0, hy0⟩ : ∃ u, W4.cell? ⟨g, k * 5, none⟩ = some u := ⟨_, (ho4.cellAt (k * 5) (by omega)).trans (List.getElem?_eq_getElem (by omega))⟩
      have fy0 := ho4.frozenAt (k * 5)
      obtain ⟨y1, hy1⟩ : ∃ u, W4.cell? ⟨g, k * 5 + 1, none⟩ = some u := ⟨_, (ho4.cellAt (k * 5 + 1) (by omega)).trans (List.getElem?_eq_getElem (by omega))⟩
      have fy1 := ho4.frozenAt (k * 5 + 1)
      obtain ⟨y2, hy2⟩ : ∃ u, W4.cell? ⟨g, k * 5 + 2, none⟩ = some u := ⟨_, (ho4.cellAt (k * 5 + 2) (by omega)).trans (List.getElem?_eq_getElem (by omega))⟩
      have fy2 := ho4.frozenAt (k * 5 + 2)
      obtain ⟨y3, hy3⟩ : ∃ u, W4.cell? ⟨g, k * 5 + 3, none⟩ = some u := ⟨_, (ho4.cellAt (k * 5 + 3) (by omega)).trans (List.getElem?_eq_getElem (by omega))⟩
      have fy3 := ho4.frozenAt (k * 5 + 3)
      obtain ⟨y4, hy4⟩ : ∃ u, W4.cell? ⟨g, k * 5 + 4, none⟩ = some u := ⟨_, (ho4.cellAt (k * 5 + 4) (by omega)).trans (List.getElem?_eq_getElem (by omega))⟩
      have fy4 := ho4.frozenAt (k * 5 + 4)
      obtain ⟨W5, hW5⟩ : ∃ W, (((((W4.setCell ⟨g, k * 5, none⟩ (.bool false)).setCell ⟨g, k * 5 + 1, none⟩ (.int .i64 0)).setCell ⟨g, k * 5 + 2, none⟩ (.int .i64 0)).setCell ⟨g, k * 5 + 3, none⟩ (.int .i64 0)).setCell ⟨g, k * 5 + 4, none⟩ (.int .i64 0)) = W := ⟨_, rfl⟩
      have HO5 : Hid (W5.ownsRow base CellT 5 (.slice (some ⟨g, 0, none⟩) n c) n (((m.set i ⟨true, sa, sp, sv, st⟩).set k sl0).flatMap layS.cs)) := by rw [← hW5]; exact (stored5 (k := k) sl0 (Nat.le_refl g) ho4 (Below.refl g W4)).1
      have HSt5 : Hid (Stp g (g + 1) W4 W5) := by rw [← hW5]; exact stp_set5 W4 g k sl0
      have HStA := hide (HSt4.out.trans HSt5.out)
      have hgp : g < w.heap.size := hgw
      have cp4 : W4.cell? ⟨w.heap.size, 0, none⟩ = some (.slice (some ⟨g, 0, none⟩) n c) := HSt4.out.cell cp0 zp (.inr (by omega))
      have cp5 : W5.cell? ⟨w.heap.size, 0, none⟩ = some (.slice (some ⟨g, 0, none⟩) n c) := HStA.out.cell cp0 zp (.inr (by omega))
      have zp5 : w.heap.size < W5.heap.size := Nat.lt_of_lt_of_le zp HStA.out.size
      clear ho ho4 hln hln4 G0 G1 G2 hA hB hC Gs0 Gs1 Gs2 Gs3 Gs4
      go_wp2
      go_region
      go_wp2_with fail
      refine (behind_any (some ⟨g, 0, none⟩) n c k _ (by omega) (by omega) hkk).mono ?_
      rintro e W6 ⟨rfl, hb6⟩
      have HO6 : Hid (W6.ownsRow base CellT 5 (.slice (some ⟨g, 0, none⟩) n c) n (((m.set i ⟨true, sa, sp, sv, st⟩).set k sl0).flatMap layS.cs)) := own_kept (show World.ownsRow W5.drew _ _ _ _ _ _ from HO5.out) hb6
      have HC6 : Hid (W6.cell? ⟨w.heap.size, 0, none⟩ = some (.slice (some ⟨g, 0, none⟩) n c)) := (hb6.cell (p := ⟨w.heap.size, 0, none⟩) zp5).trans cp5
      have zc6 : w.heap.size < W6.heap.size := Nat.lt_of_lt_of_le zp5 hb6.size
      have HSt6 := hide (HStp.out.trans ((HStA.out.drew).trans (Stp.of hb6)))
      clear hb6 hu0 fu0 hy0 fy0 sp0 hu1 fu1 hy1 fy1 sp1 hu2 fu2 hy2 fy2 sp2 hu3 fu3 hy3 fy3 sp3 hu4 fu4 hy4 fy4 sp4
      go_wp2
      go_roundg (gk - 1)
      case measure => have := HNx.out.1; omega
      case rel => exact ⟨_, k, (k + 1) % n, rfl, by simp, HNx.out.2, HO6, HC6, zc6, HSt6⟩
    · skip
      have HNx := hide (HI.out.stay (by rw [HX.out]) (by rw [HMv.out]; exact decide_eq_false (by omega)))
      have hmv' : decide (d2 ≤ d1) = false := decide_eq_false (by omega)
      have hmv2 : decide ((d2 : Int) ≤ (d1 : Int)) = false := decide_eq_false hmv
      clear ho
      go_wp2
      (refine wp_region_grown (by kernel_rfl) (by kernel_rfl) ?_; intro hne9; (repeat (go_big_quiet_step ((first | (go_at_call 140; exact hA _) | (go_at_call 139; first | with_reducible exact hB _ | with_reducible exact hC _))))); (with_reducible refine wpQuiet_nil ?_); intro _ hw9; obtain ⟨pq, hw8⟩ := hw9; subst hw8)
      have HOp := hide (own_kept HO3.out pq.b)
      have cp0 : pq.v.cell? ⟨w.heap.size, 0, none⟩ = some (.slice (some ⟨g, 0, none⟩) n c) := G0 pq
      have zp : w.heap.size < pq.v.heap.size := Nat.lt_of_lt_of_le zct3 pq.b.size
      have HStp := hide (HSt3.out.trans (Stp.of pq.b))
      clear G0 G1 G2 hA hB hC
      go_wp2_with fail
      refine (behind_any (some ⟨g, 0, none⟩) n c k _ (by omega) (by omega) hkk).mono ?_
      rintro e W6 ⟨rfl, hb6⟩
      have HO6 : Hid (W6.ownsRow base CellT 5 (.slice (some ⟨g, 0, none⟩) n c) n (m.flatMap layS.cs)) := own_kept HOp.out hb6
      have HC6 : Hid (W6.cell? ⟨w.heap.size, 0, none⟩ = some (.slice (some ⟨g, 0, none⟩) n c)) := (hb6.cell (p := ⟨w.heap.size, 0, none⟩) zp).trans cp0
      have zc6 : w.heap.size < W6.heap.size := Nat.lt_of_lt_of_le zp hb6.size
      have HSt6 := hide (HStp.out.trans (Stp.of hb6))
      clear hb6 cp0
      go_wp2
      go_roundg (gk - 1)
      case measure => have := HNx.out.1; omega
      case rel => exact ⟨m, i, (k + 1) % n, rfl, by simp, HNx.out.2, HO6, HC6, zc6, HSt6⟩

end Go.Proofs.Ythcbhfgbplgfiaa
