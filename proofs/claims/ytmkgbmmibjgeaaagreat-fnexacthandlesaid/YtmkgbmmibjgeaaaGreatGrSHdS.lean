/- Several texts in one: SDropI, SDropS, SDrop, WayMath, WayMath2, DueMath, SExp, SExp2, SAg4, SHdS. -/
import Derived.Test.YtmkgbmmibjgeaaaGreatGrDropMath
import Derived.Test.YtmkgbmmibjgeaaaGreatGrLSeg
import Derived.Deep.LoopGhost
/- The program's dropAt. -/
namespace Go.Proofs.YtmkgbmmibjgeaaaGreat
open Go.ChangeShapes Go.WideShapes Go.ChangeAt Go.RowKit Go.Joins
set_option linter.unusedVariables false
set_option linter.unusedSimpArgs false

theorem rd_row {e : TypeId} {w : World} {base g n c : Nat} {m : List Sl} (h : w.ownsRow base e 5 (.slice (some ⟨g, 0, none⟩) n c) n (m.flatMap layS.cs)) (hn : n = m.length) (i : Nat) (hi : i < n) :
    w.cell? ⟨g, i * 5, none⟩ = some (.bool (m.getD i sl0).u) ∧ w.cell? ⟨g, i * 5 + 1, none⟩ = some (.int .i64 (m.getD i sl0).a) ∧ w.cell? ⟨g, i * 5 + 2, none⟩ = some (.int .i64 (m.getD i sl0).p) ∧ w.cell? ⟨g, i * 5 + 3, none⟩ = some (.int .i64 (m.getD i sl0).v) ∧ w.cell? ⟨g, i * 5 + 4, none⟩ = some (.int .i64 (m.getD i sl0).t) := by
  have h1 := rd_of_own h hn
  have h2 := RdL.slot (C := w.heap.size) h1 i (by omega)
  simpa only [Nat.zero_add] using h2
set_option maxHeartbeats 8000000 in
theorem dropAt_any (g c base n i0 : Nat) (l : List Sl) (w : World) (hn : l.length = n) (h16 : n ≤ 16) (hi0 : i0 < n) (hok : flowsOk l) (ho : w.ownsRow base CellT 5 (.slice (some ⟨g, 0, none⟩) n c) n (l.flatMap layS.cs)) :
    Calls Tryz.prog 106 #[tab (.slice (some ⟨g, 0, none⟩) n c), .int .i64 i0] w fun e w' => (∃ v, e = .returned v) ∧ w'.ownsRow base CellT 5 (.slice (some ⟨g, 0, none⟩) n c) n ((dropAtL l i0).flatMap layS.cs) ∧ Stp g (g + 1) w w' := by
  have hgw := (ho.lt g rfl).2
  have HO := hide ho
  clear ho
  obtain ⟨W0, hW0⟩ : ∃ W, (w.alloc (.cells #[.slice (some ⟨g, 0, none⟩) n c] 69)) = W := ⟨_, rfl⟩
  have hb_W0 : Below w.heap.size w W0 := by rw [← hW0]; exact ((Below.refl _ _).alloc (Nat.le_refl _) _)
  replace HO := hide (own_kept HO.out hb_W0)
  have HB := hide hb_W0
  clear hb_W0
  have zct : w.heap.size < W0.heap.size := by rw [← hW0]; simp
  have ct0 : W0.cell? ⟨w.heap.size, 0, none⟩ = some (.slice (some ⟨g, 0, none⟩) n c) := by rw [← hW0]; simp [go_sem]
  have ho : W0.ownsRow base CellT 5 (.slice (some ⟨g, 0, none⟩) n c) n (l.flatMap layS.cs) := HO.out
  have hln : (l.flatMap layS.cs).length = n * 5 := by rw [flat_length, hn]; rfl
  obtain ⟨u0, hu0⟩ : ∃ u, W0.cell? ⟨g, i0 * 5, none⟩ = some u := ⟨_, (ho.cellAt (i0 * 5) (by omega)).trans (List.getElem?_eq_getElem (by omega))⟩
  have fu0 := ho.frozenAt (i0 * 5)
  obtain ⟨u1, hu1⟩ : ∃ u, W0.cell? ⟨g, i0 * 5 + 1, none⟩ = some u := ⟨_, (ho.cellAt (i0 * 5 + 1) (by omega)).trans (List.getElem?_eq_getElem (by omega))⟩
  have fu1 := ho.frozenAt (i0 * 5 + 1)
  obtain ⟨u2, hu2⟩ : ∃ u, W0.cell? ⟨g, i0 * 5 + 2, none⟩ = some u := ⟨_, (ho.cellAt (i0 * 5 + 2) (by omega)).trans (List.getElem?_eq_getElem (by omega))⟩
  have fu2 := ho.frozenAt (i0 * 5 + 2)
  obtain ⟨u3, hu3⟩ : ∃ u, W0.cell? ⟨g, i0 * 5 + 3, none⟩ = some u := ⟨_, (ho.cellAt (i0 * 5 + 3) (by omega)).trans (List.getElem?_eq_getElem (by omega))⟩
  have fu3 := ho.frozenAt (i0 * 5 + 3)
  obtain ⟨u4, hu4⟩ : ∃ u, W0.cell? ⟨g, i0 * 5 + 4, none⟩ = some u := ⟨_, (ho.cellAt (i0 * 5 + 4) (by omega)).trans (List.getElem?_eq_getElem (by omega))⟩
  have fu4 := ho.frozenAt (i0 * 5 + 4)
  obtain ⟨W1, hW1⟩ : ∃ W, (((((W0.setCell ⟨g, i0 * 5, none⟩ (.bool false)).setCell ⟨g, i0 * 5 + 1, none⟩ (.int .i64 0)).setCell ⟨g, i0 * 5 + 2, none⟩ (.int .i64 0)).setCell ⟨g, i0 * 5 + 3, none⟩ (.int .i64 0)).setCell ⟨g, i0 * 5 + 4, none⟩ (.int .i64 0)) = W := ⟨_, rfl⟩
  have HO1 : Hid (W1.ownsRow base CellT 5 (.slice (some ⟨g, 0, none⟩) n c) n ((l.set i0 sl0).flatMap layS.cs)) := by rw [← hW1]; exact (stored5 (k := i0) sl0 (Nat.le_refl g) ho (Below.refl g W0)).1
  have HSt1 : Hid (Stp g (g + 1) W0 W1) := by rw [← hW1]; exact stp_set5 W0 g i0 sl0
  have hgz : g < W0.heap.size := (ho.lt g rfl).2
  have ct1 : W1.cell? ⟨w.heap.size, 0, none⟩ = some (.slice (some ⟨g, 0, none⟩) n c) := HSt1.out.cell ct0 zct (.inr (by omega))
  have zct1 : w.heap.size < W1.heap.size := Nat.lt_of_lt_of_le zct HSt1.out.size
  have i1 : (i0 : Int) < (n : Int) := by omega
  have HInv0 := hide (DropInv.start (l := l) (i := i0) (by omega) (by omega) hok)
  rw [hn] at HInv0
  clear ho hln hok
  go_enter Tryz.func106, Tryz.ntmps106
  go_wp2_with fail
  refine (behind_any (some ⟨g, 0, none⟩) n c i0 W1 (by omega) (by omega) hi0).mono ?_
  rintro e W2 ⟨rfl, hb2⟩
  have HO2 := hide (own_kept HO1.out hb2)
  have ct2 : W2.cell? ⟨w.heap.size, 0, none⟩ = some (.slice (some ⟨g, 0, none⟩) n c) := (hb2.cell (p := ⟨w.heap.size, 0, none⟩) zct1).trans ct1
  have HSt2 := hide ((Stp.of (lo := g) (hi := g + 1) HB.out).trans (HSt1.out.trans (Stp.of hb2)))
  have zct2 : w.heap.size < W2.heap.size := Nat.lt_of_lt_of_le zct1 hb2.size
  clear hb2 hu0 fu0 hu1 fu1 hu2 fu2 hu3 fu3 hu4 fu4 hW1 ct0 ct1 HO HO1 HSt1
  go_wp2
  go_loopg [1, 4] (meas (l.set i0 sl0) i0 ((i0 + 1) % n)) (fun gk hv kv wr => ∃ (m : List Sl) (i k : Nat), hv = .int .i64 i ∧ kv = .int .i64 k ∧ Hid (DropInv n (dropAtL l i0) gk m i k) ∧ Hid (wr.ownsRow base CellT 5 (.slice (some ⟨g, 0, none⟩) n c) n (m.flatMap layS.cs)) ∧ Hid (wr.cell? ⟨w.heap.size, 0, none⟩ = some (.slice (some ⟨g, 0, none⟩) n c)) ∧ w.heap.size < wr.heap.size ∧ Hid (Stp g (g + 1) w wr))
  case atStart => exact ⟨_, i0, (i0 + 1) % n, rfl, by simp, HInv0, HO2, ct2, zct2, HSt2⟩
  case round =>
    obtain ⟨m, i, k, rfl, rfl, HI, HO, HC, zct, HSt⟩ := hrel
    clear HInv0 HO2 ct2 zct2 HSt2 HB
    have hml := HI.out.len
    have hik := HI.out.hi
    have hkk := HI.out.hk
    have ho : wr.ownsRow base CellT 5 (.slice (some ⟨g, 0, none⟩) n c) n (m.flatMap layS.cs) := HO.out
    have ct0 := HC.out
    have hgr : g < wr.heap.size := (ho.lt g rfl).2
    obtain ⟨s, hxy⟩ : ∃ s, m.getD k sl0 = s := ⟨_, rfl⟩
    have hrk := rd_row ho hml.symm k hkk
    rw [hxy] at hrk
    have e0 := hrk.1
    have e1 := hrk.2.1
    have e2 := hrk.2.2.1
    have e3 := hrk.2.2.2.1
    have e4 := hrk.2.2.2.2
    have hk1 : (k : Int) < (n : Int) := by omega
    have hi1 : (i : Int) < (n : Int) := by omega
    have HX := hide hxy
    clear hrk hxy
    obtain ⟨su, sa, sp, sv, st⟩ := s
    simp only at e0 e1 e2 e3 e4
    cases su with
    | false =>
      have HD := hide (HI.out.done (by rw [HX.out]))
      clear ho
      go_wp2
      go_end0
      exact ⟨⟨_, rfl⟩, by rw [← HD.out]; exact HO.out, HSt.out⟩
    | true =>
    have hfo : flowOkB sa sp = true := by have h := HI.out.ok k (by omega) (by rw [HX.out]); rw [HX.out] at h; exact h
    have hne : i ≠ k := fun e => by have h := HI.out.free; rw [e, HX.out] at h; cases h
    obtain ⟨W3, hW3⟩ : ∃ W, wr.alloc (.cells #[.bool true, .int .i64 sa, .int .i64 sp, .int .i64 sv, .int .i64 st] 132) = W := ⟨_, rfl⟩
    have hb3 : Below wr.heap.size wr W3 := by rw [← hW3]; exact (Below.refl _ _).alloc (Nat.le_refl _) _
    have ct3 : W3.cell? ⟨w.heap.size, 0, none⟩ = some (.slice (some ⟨g, 0, none⟩) n c) := (hb3.cell (p := ⟨w.heap.size, 0, none⟩) zct).trans ct0
    have zct3 : w.heap.size < W3.heap.size := Nat.lt_of_lt_of_le zct hb3.size
    have zs3 : wr.heap.size < W3.heap.size := by rw [← hW3]; simp
    have s0 : W3.cell? ⟨wr.heap.size, 0, none⟩ = some (.bool true) := by rw [← hW3]; simp [go_sem]
    have s1 : W3.cell? ⟨wr.heap.size, 1, none⟩ = some (.int .i64 sa) := by rw [← hW3]; simp [go_sem]
    have s2 : W3.cell? ⟨wr.heap.size, 2, none⟩ = some (.int .i64 sp) := by rw [← hW3]; simp [go_sem]
    have s3 : W3.cell? ⟨wr.heap.size, 3, none⟩ = some (.int .i64 sv) := by rw [← hW3]; simp [go_sem]
    have s4 : W3.cell? ⟨wr.heap.size, 4, none⟩ = some (.int .i64 st) := by rw [← hW3]; simp [go_sem]
    have HO3 := hide (own_kept ho hb3)
    have HSt3 := hide (HSt.out.trans (Stp.of hb3))
    clear hb3
    have G0 := Grown.cell ct3 zct3
    have G1 := Grown.cell s1 zs3
    have G2 := Grown.cell s2 zs3
    have hhl := homeN_lt (show 0 < n by omega) sa sp
    have hA := fun (P : Grown W3) => grown_of P (home_any (some ⟨g, 0, none⟩) n c sa sp P.v (by omega) (by omega) hfo)
    have hmvx : moves n m i k = decide (farN n i k ≤ farN n (homeN n sa sp) k) := by unfold moves; rw [HX.out]
    have HMv := hide hmvx
    clear hmvx
    generalize homeN n sa sp = hm at *
    have hB := fun (P : Grown W3) => grown_of P (far_any (some ⟨g, 0, none⟩) n c hm k P.v (by omega) hhl hkk)
    have hC := fun (P : Grown W3) => grown_of P (far_any (some ⟨g, 0, none⟩) n c i k P.v (by omega) hik hkk)
    generalize farN n hm k = d1 at *
    generalize farN n i k = d2 at *
    by_cases hmv : (d2 : Int) ≤ (d1 : Int)
    · skip
      have HNx := hide (HI.out.move (by rw [HX.out]) (by rw [HMv.out]; exact decide_eq_true (by omega)))
      rw [HX.out] at HNx
      clear ho
      have Gs0 := Grown.cell s0 zs3
      have Gs1 := Grown.cell s1 zs3
      have Gs2 := Grown.cell s2 zs3
      have Gs3 := Grown.cell s3 zs3
      have Gs4 := Grown.cell s4 zs3
      go_wp2
      (refine wp_region_grown (by kernel_rfl) (by kernel_rfl) ?_; intro hne9; (repeat (go_big_quiet_step ((first | (go_at_call 113; exact hA _) | (go_at_call 112; first | with_reducible exact hB _ | with_reducible exact hC _))))); (with_reducible refine wpQuiet_nil ?_); intro _ hw9; obtain ⟨pq, hw8⟩ := hw9; subst hw8)
      have ho : pq.v.ownsRow base CellT 5 (.slice (some ⟨g, 0, none⟩) n c) n (m.flatMap layS.cs) := own_kept HO3.out pq.b
      have cp0 : pq.v.cell? ⟨w.heap.size, 0, none⟩ = some (.slice (some ⟨g, 0, none⟩) n c) := G0 pq
      have zp : w.heap.size < pq.v.heap.size := Nat.lt_of_lt_of_le zct3 pq.b.size
      have HStp := hide (HSt3.out.trans (Stp.of pq.b))
      have sp0 : pq.v.cell? ⟨wr.heap.size, 0, none⟩ = some (.bool true) := Gs0 pq
      have sp1 : pq.v.cell? ⟨wr.heap.size, 1, none⟩ = some (.int .i64 sa) := Gs1 pq
      have sp2 : pq.v.cell? ⟨wr.heap.size, 2, none⟩ = some (.int .i64 sp) := Gs2 pq
      have sp3 : pq.v.cell? ⟨wr.heap.size, 3, none⟩ = some (.int .i64 sv) := Gs3 pq
      have sp4 : pq.v.cell? ⟨wr.heap.size, 4, none⟩ = some (.int .i64 st) := Gs4 pq
      have hln : (m.flatMap layS.cs).length = n * 5 := by rw [flat_length, hml]; rfl
      obtain ⟨u0, hu0⟩ : ∃ u, pq.v.cell? ⟨g, i * 5, none⟩ = some u := ⟨_, (ho.cellAt (i * 5) (by omega)).trans (List.getElem?_eq_getElem (by omega))⟩
      have fu0 := ho.frozenAt (i * 5)
      obtain ⟨u1, hu1⟩ : ∃ u, pq.v.cell? ⟨g, i * 5 + 1, none⟩ = some u := ⟨_, (ho.cellAt (i * 5 + 1) (by omega)).trans (List.getElem?_eq_getElem (by omega))⟩
      have fu1 := ho.frozenAt (i * 5 + 1)
      obtain ⟨u2, hu2⟩ : ∃ u, pq.v.cell? ⟨g, i * 5 + 2, none⟩ = some u := ⟨_, (ho.cellAt (i * 5 + 2) (by omega)).trans (List.getElem?_eq_getElem (by omega))⟩
      have fu2 := ho.frozenAt (i * 5 + 2)
      obtain ⟨u3, hu3⟩ : ∃ u, pq.v.cell? ⟨g, i * 5 + 3, none⟩ = some u := ⟨_, (ho.cellAt (i * 5 + 3) (by omega)).trans (List.getElem?_eq_getElem (by omega))⟩
      have fu3 := ho.frozenAt (i * 5 + 3)
      obtain ⟨u4, hu4⟩ : ∃ u, pq.v.cell? ⟨g, i * 5 + 4, none⟩ = some u := ⟨_, (ho.cellAt (i * 5 + 4) (by omega)).trans (List.getElem?_eq_getElem (by omega))⟩
      have fu4 := ho.frozenAt (i * 5 + 4)
      obtain ⟨W4, hW4⟩ : ∃ W, (((((pq.v.setCell ⟨g, i * 5, none⟩ (.bool true)).setCell ⟨g, i * 5 + 1, none⟩ (.int .i64 sa)).setCell ⟨g, i * 5 + 2, none⟩ (.int .i64 sp)).setCell ⟨g, i * 5 + 3, none⟩ (.int .i64 sv)).setCell ⟨g, i * 5 + 4, none⟩ (.int .i64 st)) = W := ⟨_, rfl⟩
      have ho4 : W4.ownsRow base CellT 5 (.slice (some ⟨g, 0, none⟩) n c) n ((m.set i ⟨true, sa, sp, sv, st⟩).flatMap layS.cs) := by rw [← hW4]; exact (stored5 (k := i) ⟨true, sa, sp, sv, st⟩ (Nat.le_refl g) ho (Below.refl g pq.v)).1
      have HSt4 : Hid (Stp g (g + 1) pq.v W4) := by rw [← hW4]; exact stp_set5 pq.v g i ⟨true, sa, sp, sv, st⟩
      have hln4 : ((m.set i ⟨true, sa, sp, sv, st⟩).flatMap layS.cs).length = n * 5 := by rw [flat_length, List.length_set, hml]; rfl
      obtain ⟨y0, hy0⟩ : ∃ u, W4.cell? ⟨g, k * 5, none⟩ = some u := ⟨_, (ho4.cellAt (k * 5) (by omega)).trans (List.getElem?_eq_getElem (by omega))⟩
      have fy0 := ho4.frozenAt (k * 5)
      obtain ⟨y1, hy1⟩ : ∃ u, W4.cell? ⟨g, k * 5 + 1, none⟩ = some u := ⟨_, (ho4.cellAt (k * 5 + 1) (by omega)).trans (List.getElem?_eq_getElem (by omega))⟩
      have fy1 := ho4.frozenAt (k * 5 + 1)
      obtain ⟨y2, hy2⟩ : ∃ u, W4.cell? ⟨g, k * 5 + 2, none⟩ = some u := ⟨_, (ho4.cellAt (k * 5 + 2) (by omega)).trans (List.getElem?_eq_getElem (by omega))⟩
      have fy2 := ho4.frozenAt (k * 5 + 2)
      obtain ⟨y3, hy3⟩ : ∃ u, W4.cell? ⟨g, k * 5 + 3, none⟩ = some u := ⟨_, (ho4.cellAt (k * 5 + 3) (by omega)).trans (List.getElem?_eq_getElem (by omega))⟩
      have fy3 := ho4.frozenAt (k * 5 + 3)
      obtain ⟨y4, hy4⟩ : ∃ u, W4.cell? ⟨g, k * 5 + 4, none⟩ = some u := ⟨_, (ho4.cellAt (k * 5 + 4) (by omega)).trans (List.getElem?_eq_getElem (by omega))⟩
      have fy4 := ho4.frozenAt (k * 5 + 4)
      obtain ⟨W5, hW5⟩ : ∃ W, (((((W4.setCell ⟨g, k * 5, none⟩ (.bool false)).setCell ⟨g, k * 5 + 1, none⟩ (.int .i64 0)).setCell ⟨g, k * 5 + 2, none⟩ (.int .i64 0)).setCell ⟨g, k * 5 + 3, none⟩ (.int .i64 0)).setCell ⟨g, k * 5 + 4, none⟩ (.int .i64 0)) = W := ⟨_, rfl⟩
      have HO5 : Hid (W5.ownsRow base CellT 5 (.slice (some ⟨g, 0, none⟩) n c) n (((m.set i ⟨true, sa, sp, sv, st⟩).set k sl0).flatMap layS.cs)) := by rw [← hW5]; exact (stored5 (k := k) sl0 (Nat.le_refl g) ho4 (Below.refl g W4)).1
      have HSt5 : Hid (Stp g (g + 1) W4 W5) := by rw [← hW5]; exact stp_set5 W4 g k sl0
      have HStA := hide (HSt4.out.trans HSt5.out)
      have hgp : g < w.heap.size := hgw
      have cp4 : W4.cell? ⟨w.heap.size, 0, none⟩ = some (.slice (some ⟨g, 0, none⟩) n c) := HSt4.out.cell cp0 zp (.inr (by omega))
      have cp5 : W5.cell? ⟨w.heap.size, 0, none⟩ = some (.slice (some ⟨g, 0, none⟩) n c) := HStA.out.cell cp0 zp (.inr (by omega))
      have zp5 : w.heap.size < W5.heap.size := Nat.lt_of_lt_of_le zp HStA.out.size
      clear ho ho4 hln hln4 G0 G1 G2 hA hB hC Gs0 Gs1 Gs2 Gs3 Gs4
      go_wp2
      go_region
      go_wp2_with fail
      refine (behind_any (some ⟨g, 0, none⟩) n c k _ (by omega) (by omega) hkk).mono ?_
      rintro e W6 ⟨rfl, hb6⟩
      have HO6 : Hid (W6.ownsRow base CellT 5 (.slice (some ⟨g, 0, none⟩) n c) n (((m.set i ⟨true, sa, sp, sv, st⟩).set k sl0).flatMap layS.cs)) := own_kept (show World.ownsRow W5.drew _ _ _ _ _ _ from HO5.out) hb6
      have HC6 : Hid (W6.cell? ⟨w.heap.size, 0, none⟩ = some (.slice (some ⟨g, 0, none⟩) n c)) := (hb6.cell (p := ⟨w.heap.size, 0, none⟩) zp5).trans cp5
      have zc6 : w.heap.size < W6.heap.size := Nat.lt_of_lt_of_le zp5 hb6.size
      have HSt6 := hide (HStp.out.trans ((HStA.out.drew).trans (Stp.of hb6)))
      clear hb6 hu0 fu0 hy0 fy0 sp0 hu1 fu1 hy1 fy1 sp1 hu2 fu2 hy2 fy2 sp2 hu3 fu3 hy3 fy3 sp3 hu4 fu4 hy4 fy4 sp4
      go_wp2
      go_roundg (gk - 1)
      case measure => have := HNx.out.1; omega
      case rel => exact ⟨_, k, (k + 1) % n, rfl, by simp, HNx.out.2, HO6, HC6, zc6, HSt6⟩
    · skip
      have HNx := hide (HI.out.stay (by rw [HX.out]) (by rw [HMv.out]; exact decide_eq_false (by omega)))
      have hmv' : decide (d2 ≤ d1) = false := decide_eq_false (by omega)
      have hmv2 : decide ((d2 : Int) ≤ (d1 : Int)) = false := decide_eq_false hmv
      clear ho
      go_wp2
      (refine wp_region_grown (by kernel_rfl) (by kernel_rfl) ?_; intro hne9; (repeat (go_big_quiet_step ((first | (go_at_call 113; exact hA _) | (go_at_call 112; first | with_reducible exact hB _ | with_reducible exact hC _))))); (with_reducible refine wpQuiet_nil ?_); intro _ hw9; obtain ⟨pq, hw8⟩ := hw9; subst hw8)
      have HOp := hide (own_kept HO3.out pq.b)
      have cp0 : pq.v.cell? ⟨w.heap.size, 0, none⟩ = some (.slice (some ⟨g, 0, none⟩) n c) := G0 pq
      have zp : w.heap.size < pq.v.heap.size := Nat.lt_of_lt_of_le zct3 pq.b.size
      have HStp := hide (HSt3.out.trans (Stp.of pq.b))
      clear G0 G1 G2 hA hB hC
      go_wp2_with fail
      refine (behind_any (some ⟨g, 0, none⟩) n c k _ (by omega) (by omega) hkk).mono ?_
      rintro e W6 ⟨rfl, hb6⟩
      have HO6 : Hid (W6.ownsRow base CellT 5 (.slice (some ⟨g, 0, none⟩) n c) n (m.flatMap layS.cs)) := own_kept HOp.out hb6
      have HC6 : Hid (W6.cell? ⟨w.heap.size, 0, none⟩ = some (.slice (some ⟨g, 0, none⟩) n c)) := (hb6.cell (p := ⟨w.heap.size, 0, none⟩) zp).trans cp0
      have zc6 : w.heap.size < W6.heap.size := Nat.lt_of_lt_of_le zp hb6.size
      have HSt6 := hide (HStp.out.trans (Stp.of hb6))
      clear hb6 cp0
      go_wp2
      go_roundg (gk - 1)
      case measure => have := HNx.out.1; omega
      case rel => exact ⟨m, i, (k + 1) % n, rfl, by simp, HNx.out.2, HO6, HC6, zc6, HSt6⟩

end Go.Proofs.YtmkgbmmibjgeaaaGreat

/- The model's l5drop. -/
namespace Go.Proofs.YtmkgbmmibjgeaaaGreat
open Go.ChangeShapes Go.WideShapes Go.ChangeAt Go.RowKit Go.Joins
set_option linter.unusedVariables false
set_option linter.unusedSimpArgs false

set_option maxHeartbeats 8000000 in
theorem l5dropW_any (b off c : Nat) (l : List Sl) (a p : Int) (w : World) (hn : 0 < l.length) (h16 : l.length ≤ 16) (hf : flowOkB a p = true) (hok : flowsOk l) (hbl : b < w.heap.size) (hc : ∀ i, i < l.length → ∀ j, j < layS.k → w.cell? ⟨b, off + i * layS.k + j, none⟩ = (layS.cs (l.getD i layS.d))[j]?) :
    Calls Tryz.prog 75 #[tab (.slice (some ⟨b, off, none⟩) l.length c), flow a p] w fun e w' => ∃ b' off' c', e = .returned (.tuple #[tab (.slice (some ⟨b', off', none⟩) l.length c'), .bool (endL l a p).2]) ∧ b' < w'.heap.size ∧ (∀ i, i < (dropL l a p).length → ∀ j, j < layS.k → w'.cell? ⟨b', off' + i * layS.k + j, none⟩ = (layS.cs ((dropL l a p).getD i layS.d))[j]?) ∧ Below w.heap.size w w' ∧ (b' = b ∨ w.heap.size ≤ b') := by
  have HC := hide hc
  have hl : l.length ≤ 1048576 := by omega
  clear hc
  obtain ⟨W0, hW0⟩ : ∃ W, (((w.alloc (.cells #[.slice (some ⟨b, off, none⟩) l.length c] 39)).alloc (.cells #[.int .i64 a, .int .i64 p] 45)).alloc (.cells #[.slice none 0 0] 39)) = W := ⟨_, rfl⟩
  have hb_W0 : Below w.heap.size w W0 := by rw [← hW0]; exact ((((Below.refl _ _).alloc (Nat.le_refl _) _).alloc (by simp <;> omega) _).alloc (by simp <;> omega) _)
  have HB := hide hb_W0
  clear hb_W0
  have zct : w.heap.size < W0.heap.size := by rw [← hW0]; simp <;> omega
  have ct0 : W0.cell? ⟨w.heap.size, 0, none⟩ = some (.slice (some ⟨b, off, none⟩) l.length c) := by rw [← hW0]; simp [go_sem]
  have zcf : w.heap.size + 1 < W0.heap.size := by rw [← hW0]; simp <;> omega
  have cf0 : W0.cell? ⟨w.heap.size + 1, 0, none⟩ = some (.int .i64 a) := by rw [← hW0]; simp [go_sem]
  have cf1 : W0.cell? ⟨w.heap.size + 1, 1, none⟩ = some (.int .i64 p) := by rw [← hW0]; simp [go_sem]
  have zcr : w.heap.size + 1 + 1 < W0.heap.size := by rw [← hW0]; simp
  have cr0 : W0.cell? ⟨w.heap.size + 1 + 1, 0, none⟩ = some (.slice none 0 0) := by rw [← hW0]; simp [go_sem]
  have fcr0 : W0.frozen? ⟨w.heap.size + 1 + 1, 0, none⟩ = false := by rw [← hW0]; simp [go_sem]
  have hat := l5at_any (some ⟨b, off, none⟩) c l a p W0 (.inr ⟨b, off, rfl, Nat.lt_of_lt_of_le hbl HB.out.size, (fun i hi j hj => (HB.out.cell (p := ⟨b, off + i * layS.k + j, none⟩) hbl).trans (HC.out i hi j hj))⟩) hn hl hf
  have HZ := hide zcr
  rcases endL_cases l hn a p with hE | ⟨i0, hi0, ⟨hE, _⟩ | ⟨hE, _⟩⟩
  · skip
    have HP := hide (dropL_no (l := l) (a := a) (p := p) (by rw [hE]))
    have HD := hide (show (endL l a p).2 = false by rw [hE])
    rw [hE] at hat
    clear hE
    go_enter Tryz.func75, Tryz.ntmps75
    go_wp2_with fail
    refine (hat).mono ?_
    rintro e v1 ⟨rfl, hb⟩
    replace ct0 : v1.cell? ⟨w.heap.size, 0, none⟩ = some (.slice (some ⟨b, off, none⟩) l.length c) := (hb.cell (p := ⟨w.heap.size, 0, none⟩) zct).trans ct0
    replace zct : w.heap.size < v1.heap.size := Nat.lt_of_lt_of_le zct hb.size
    replace cf0 : v1.cell? ⟨w.heap.size + 1, 0, none⟩ = some (.int .i64 a) := (hb.cell (p := ⟨w.heap.size + 1, 0, none⟩) zcf).trans cf0
    replace cf1 : v1.cell? ⟨w.heap.size + 1, 1, none⟩ = some (.int .i64 p) := (hb.cell (p := ⟨w.heap.size + 1, 1, none⟩) zcf).trans cf1
    replace zcf : w.heap.size + 1 < v1.heap.size := Nat.lt_of_lt_of_le zcf hb.size
    replace cr0 : v1.cell? ⟨w.heap.size + 1 + 1, 0, none⟩ = some (.slice none 0 0) := (hb.cell (p := ⟨w.heap.size + 1 + 1, 0, none⟩) zcr).trans cr0
    replace fcr0 : v1.frozen? ⟨w.heap.size + 1 + 1, 0, none⟩ = false := (hb.frozen (p := ⟨w.heap.size + 1 + 1, 0, none⟩) zcr).trans fcr0
    replace zcr : w.heap.size + 1 + 1 < v1.heap.size := Nat.lt_of_lt_of_le zcr hb.size
    replace HB := hide (HB.out.trans (hb.mono HB.out.size))
    clear hb
    clear hat
    go_wp2
    refine bodyPost_ret (v := .tuple #[tab (.slice (some ⟨b, off, none⟩) l.length c), .bool false]) (by simp [results, Tryz.results75, go_sem, cr0]) rfl ⟨b, off, c, by rw [HD.out], ?_, ?_, ?_, .inl rfl⟩
    · have := HB.out.size; simp; omega
    · rw [HP.out]
      intro i hi j hj
      have hB2 := HB.out.setCell (p := ⟨w.heap.size + 1 + 1, 0, none⟩) (by simp <;> omega) (.slice (some ⟨b, off, none⟩) l.length c)
      exact (hB2.cell (p := ⟨b, off + i * layS.k + j, none⟩) hbl).trans (HC.out i hi j hj)
    · exact HB.out.setCell (p := ⟨w.heap.size + 1 + 1, 0, none⟩) (by simp <;> omega) _
  · skip
    have HP := hide (dropL_no (l := l) (a := a) (p := p) (by rw [hE]))
    have HD := hide (show (endL l a p).2 = false by rw [hE])
    rw [hE] at hat
    clear hE
    go_enter Tryz.func75, Tryz.ntmps75
    go_wp2_with fail
    refine (hat).mono ?_
    rintro e v1 ⟨rfl, hb⟩
    replace ct0 : v1.cell? ⟨w.heap.size, 0, none⟩ = some (.slice (some ⟨b, off, none⟩) l.length c) := (hb.cell (p := ⟨w.heap.size, 0, none⟩) zct).trans ct0
    replace zct : w.heap.size < v1.heap.size := Nat.lt_of_lt_of_le zct hb.size
    replace cf0 : v1.cell? ⟨w.heap.size + 1, 0, none⟩ = some (.int .i64 a) := (hb.cell (p := ⟨w.heap.size + 1, 0, none⟩) zcf).trans cf0
    replace cf1 : v1.cell? ⟨w.heap.size + 1, 1, none⟩ = some (.int .i64 p) := (hb.cell (p := ⟨w.heap.size + 1, 1, none⟩) zcf).trans cf1
    replace zcf : w.heap.size + 1 < v1.heap.size := Nat.lt_of_lt_of_le zcf hb.size
    replace cr0 : v1.cell? ⟨w.heap.size + 1 + 1, 0, none⟩ = some (.slice none 0 0) := (hb.cell (p := ⟨w.heap.size + 1 + 1, 0, none⟩) zcr).trans cr0
    replace fcr0 : v1.frozen? ⟨w.heap.size + 1 + 1, 0, none⟩ = false := (hb.frozen (p := ⟨w.heap.size + 1 + 1, 0, none⟩) zcr).trans fcr0
    replace zcr : w.heap.size + 1 + 1 < v1.heap.size := Nat.lt_of_lt_of_le zcr hb.size
    replace HB := hide (HB.out.trans (hb.mono HB.out.size))
    clear hb
    clear hat
    go_wp2
    refine bodyPost_ret (v := .tuple #[tab (.slice (some ⟨b, off, none⟩) l.length c), .bool false]) (by simp [results, Tryz.results75, go_sem, cr0]) rfl ⟨b, off, c, by rw [HD.out], ?_, ?_, ?_, .inl rfl⟩
    · have := HB.out.size; simp; omega
    · rw [HP.out]
      intro i hi j hj
      have hB2 := HB.out.setCell (p := ⟨w.heap.size + 1 + 1, 0, none⟩) (by simp <;> omega) (.slice (some ⟨b, off, none⟩) l.length c)
      exact (hB2.cell (p := ⟨b, off + i * layS.k + j, none⟩) hbl).trans (HC.out i hi j hj)
    · exact HB.out.setCell (p := ⟨w.heap.size + 1 + 1, 0, none⟩) (by simp <;> omega) _
  · skip
    have HP := hide (dropL_yes hE)
    have HD := hide (show (endL l a p).2 = true by rw [hE])
    rw [hE] at hat
    clear hE
    have HInv0 := hide (DropInv.start (l := l) (i := i0) h16 hi0 hok)
    have i1 : (i0 : Int) < (l.length : Int) := by omega
    go_enter Tryz.func75, Tryz.ntmps75
    go_wp2_with fail
    refine (hat).mono ?_
    rintro e v1 ⟨rfl, hb⟩
    replace ct0 : v1.cell? ⟨w.heap.size, 0, none⟩ = some (.slice (some ⟨b, off, none⟩) l.length c) := (hb.cell (p := ⟨w.heap.size, 0, none⟩) zct).trans ct0
    replace zct : w.heap.size < v1.heap.size := Nat.lt_of_lt_of_le zct hb.size
    replace cf0 : v1.cell? ⟨w.heap.size + 1, 0, none⟩ = some (.int .i64 a) := (hb.cell (p := ⟨w.heap.size + 1, 0, none⟩) zcf).trans cf0
    replace cf1 : v1.cell? ⟨w.heap.size + 1, 1, none⟩ = some (.int .i64 p) := (hb.cell (p := ⟨w.heap.size + 1, 1, none⟩) zcf).trans cf1
    replace zcf : w.heap.size + 1 < v1.heap.size := Nat.lt_of_lt_of_le zcf hb.size
    replace cr0 : v1.cell? ⟨w.heap.size + 1 + 1, 0, none⟩ = some (.slice none 0 0) := (hb.cell (p := ⟨w.heap.size + 1 + 1, 0, none⟩) zcr).trans cr0
    replace fcr0 : v1.frozen? ⟨w.heap.size + 1 + 1, 0, none⟩ = false := (hb.frozen (p := ⟨w.heap.size + 1 + 1, 0, none⟩) zcr).trans fcr0
    replace zcr : w.heap.size + 1 + 1 < v1.heap.size := Nat.lt_of_lt_of_le zcr hb.size
    replace HB := hide (HB.out.trans (hb.mono HB.out.size))
    clear hb
    go_wp2_with fail
    refine (l5own_any b off c l v1 (Nat.lt_of_lt_of_le hbl HB.out.size) (fun i hi j hj => (HB.out.cell (p := ⟨b, off + i * layS.k + j, none⟩) hbl).trans (HC.out i hi j hj)) hl).mono ?_
    rintro e v2 ⟨o2, c2, rfl, hown, hb⟩
    have HV1 := hide zcr
    obtain ⟨g, c3, hve⟩ : ∃ g c3, Value.slice o2 l.length c2 = .slice (some ⟨g, 0, none⟩) l.length c3 := by
      rcases hown.2 with ⟨_, h0⟩ | ⟨g, c3, _, h0, _⟩
      · exact absurd h0 (by omega)
      · exact ⟨g, c3, h0⟩
    injection hve with hv1 hv2 hv3
    subst hv1 hv3
    have HO := hide hown
    clear hown
    replace ct0 : v2.cell? ⟨w.heap.size, 0, none⟩ = some (.slice (some ⟨b, off, none⟩) l.length c) := (hb.cell (p := ⟨w.heap.size, 0, none⟩) zct).trans ct0
    replace zct : w.heap.size < v2.heap.size := Nat.lt_of_lt_of_le zct hb.size
    replace cf0 : v2.cell? ⟨w.heap.size + 1, 0, none⟩ = some (.int .i64 a) := (hb.cell (p := ⟨w.heap.size + 1, 0, none⟩) zcf).trans cf0
    replace cf1 : v2.cell? ⟨w.heap.size + 1, 1, none⟩ = some (.int .i64 p) := (hb.cell (p := ⟨w.heap.size + 1, 1, none⟩) zcf).trans cf1
    replace zcf : w.heap.size + 1 < v2.heap.size := Nat.lt_of_lt_of_le zcf hb.size
    replace cr0 : v2.cell? ⟨w.heap.size + 1 + 1, 0, none⟩ = some (.slice none 0 0) := (hb.cell (p := ⟨w.heap.size + 1 + 1, 0, none⟩) zcr).trans cr0
    replace fcr0 : v2.frozen? ⟨w.heap.size + 1 + 1, 0, none⟩ = false := (hb.frozen (p := ⟨w.heap.size + 1 + 1, 0, none⟩) zcr).trans fcr0
    replace zcr : w.heap.size + 1 + 1 < v2.heap.size := Nat.lt_of_lt_of_le zcr hb.size
    replace HB := hide (HB.out.trans (hb.mono HB.out.size))
    clear hb
    have HOv := HO
    obtain ⟨W2, hW2⟩ : ∃ W, (v2.alloc (.cells #[.slice (some ⟨g, 0, none⟩) l.length c2] 39)) = W := ⟨_, rfl⟩
    have hb_W2 : Below v2.heap.size v2 W2 := by rw [← hW2]; exact ((Below.refl _ _).alloc (Nat.le_refl _) _)
    replace ct0 : W2.cell? ⟨w.heap.size, 0, none⟩ = some (.slice (some ⟨b, off, none⟩) l.length c) := (hb_W2.cell (p := ⟨w.heap.size, 0, none⟩) zct).trans ct0
    replace zct : w.heap.size < W2.heap.size := Nat.lt_of_lt_of_le zct hb_W2.size
    replace cf0 : W2.cell? ⟨w.heap.size + 1, 0, none⟩ = some (.int .i64 a) := (hb_W2.cell (p := ⟨w.heap.size + 1, 0, none⟩) zcf).trans cf0
    replace cf1 : W2.cell? ⟨w.heap.size + 1, 1, none⟩ = some (.int .i64 p) := (hb_W2.cell (p := ⟨w.heap.size + 1, 1, none⟩) zcf).trans cf1
    replace zcf : w.heap.size + 1 < W2.heap.size := Nat.lt_of_lt_of_le zcf hb_W2.size
    replace cr0 : W2.cell? ⟨w.heap.size + 1 + 1, 0, none⟩ = some (.slice none 0 0) := (hb_W2.cell (p := ⟨w.heap.size + 1 + 1, 0, none⟩) zcr).trans cr0
    replace fcr0 : W2.frozen? ⟨w.heap.size + 1 + 1, 0, none⟩ = false := (hb_W2.frozen (p := ⟨w.heap.size + 1 + 1, 0, none⟩) zcr).trans fcr0
    replace zcr : w.heap.size + 1 + 1 < W2.heap.size := Nat.lt_of_lt_of_le zcr hb_W2.size
    replace HO := hide (own_kept HO.out hb_W2)
    replace HB := hide (HB.out.trans (hb_W2.mono HB.out.size))
    clear hb_W2
    have zco : v2.heap.size < W2.heap.size := by rw [← hW2]; simp
    have co0 : W2.cell? ⟨v2.heap.size, 0, none⟩ = some (.slice (some ⟨g, 0, none⟩) l.length c2) := by rw [← hW2]; simp [go_sem]
    have hgb := (HOv.out.lt g rfl)
    have hgv : v1.heap.size ≤ g := hgb.1
    have hg2 : g + 1 ≤ v2.heap.size := hgb.2
    have hz1 := HV1.out
    have hzo2 := zco
    have ho : W2.ownsRow v1.heap.size 95 5 (.slice (some ⟨g, 0, none⟩) l.length c2) l.length (l.flatMap layS.cs) := HO.out
    have hln : (l.flatMap layS.cs).length = l.length * 5 := by rw [flat_length]; rfl
    obtain ⟨u0, hu0⟩ : ∃ u, W2.cell? ⟨g, i0 * 5, none⟩ = some u := ⟨_, (ho.cellAt (i0 * 5) (by omega)).trans (List.getElem?_eq_getElem (by omega))⟩
    have fu0 := ho.frozenAt (i0 * 5)
    obtain ⟨u1, hu1⟩ : ∃ u, W2.cell? ⟨g, i0 * 5 + 1, none⟩ = some u := ⟨_, (ho.cellAt (i0 * 5 + 1) (by omega)).trans (List.getElem?_eq_getElem (by omega))⟩
    have fu1 := ho.frozenAt (i0 * 5 + 1)
    obtain ⟨u2, hu2⟩ : ∃ u, W2.cell? ⟨g, i0 * 5 + 2, none⟩ = some u := ⟨_, (ho.cellAt (i0 * 5 + 2) (by omega)).trans (List.getElem?_eq_getElem (by omega))⟩
    have fu2 := ho.frozenAt (i0 * 5 + 2)
    obtain ⟨u3, hu3⟩ : ∃ u, W2.cell? ⟨g, i0 * 5 + 3, none⟩ = some u := ⟨_, (ho.cellAt (i0 * 5 + 3) (by omega)).trans (List.getElem?_eq_getElem (by omega))⟩
    have fu3 := ho.frozenAt (i0 * 5 + 3)
    obtain ⟨u4, hu4⟩ : ∃ u, W2.cell? ⟨g, i0 * 5 + 4, none⟩ = some u := ⟨_, (ho.cellAt (i0 * 5 + 4) (by omega)).trans (List.getElem?_eq_getElem (by omega))⟩
    have fu4 := ho.frozenAt (i0 * 5 + 4)
    obtain ⟨W3, hW3⟩ : ∃ W, (((((W2.setCell ⟨g, i0 * 5, none⟩ (.bool false)).setCell ⟨g, i0 * 5 + 1, none⟩ (.int .i64 0)).setCell ⟨g, i0 * 5 + 2, none⟩ (.int .i64 0)).setCell ⟨g, i0 * 5 + 3, none⟩ (.int .i64 0)).setCell ⟨g, i0 * 5 + 4, none⟩ (.int .i64 0)) = W := ⟨_, rfl⟩
    have HO3 : Hid (W3.ownsRow v1.heap.size 95 5 (.slice (some ⟨g, 0, none⟩) l.length c2) l.length ((l.set i0 sl0).flatMap layS.cs)) := by rw [← hW3]; exact (stored5 (k := i0) sl0 (Nat.le_refl g) ho (Below.refl g W2)).1
    have HSt3 : Hid (Stp g (g + 1) W2 W3) := by rw [← hW3]; exact stp_set5 W2 g i0 sl0
    have co3 := HSt3.out.cell co0 zco (.inr hg2)
    have hm0 := next_tmod l.length i0
    have hne0 : ((l.length : Int) == 0) = false := beq_eq_false_iff_ne.2 (by omega)
    clear ho hln hat
    go_wp2
    go_loopg [6, 10] (meas (l.set i0 sl0) i0 ((i0 + 1) % l.length)) (fun gk iv kv wr => ∃ (m : List Sl) (i k : Nat), iv = .int .i64 i ∧ kv = .int .i64 k ∧ Hid (DropInv l.length (dropAtL l i0) gk m i k) ∧ Hid (wr.ownsRow v1.heap.size 95 5 (.slice (some ⟨g, 0, none⟩) l.length c2) l.length (m.flatMap layS.cs)) ∧ Hid (Stp g (g + 1) W2 wr))
    case atStart => exact ⟨_, i0, (i0 + 1) % l.length, rfl, by simp, HInv0, HO3, HSt3⟩
    case round =>
      clear co3 HO3 HSt3 hW3 HInv0 hu0 fu0 hu1 fu1 hu2 fu2 hu3 fu3 hu4 fu4 hm0
      obtain ⟨m, i, k, rfl, rfl, HI, HOr, HSt⟩ := hrel
      have hml := hide HI.out.len
      have hik := HI.out.hi
      have hkk := HI.out.hk
      have ho : wr.ownsRow v1.heap.size 95 5 (.slice (some ⟨g, 0, none⟩) l.length c2) l.length (m.flatMap layS.cs) := HOr.out
      have hszr : W2.heap.size ≤ wr.heap.size := HSt.out.size
      have cor := HSt.out.cell co0 zco (.inr hg2)
      have crr := HSt.out.cell cr0 zcr (.inl (show w.heap.size + 1 + 1 < g by omega))
      have fcrr := HSt.out.frozen fcr0 zcr (.inl (show w.heap.size + 1 + 1 < g by omega))
      have hk1 : (k : Int) < (l.length : Int) := by omega
      have hi1 : (i : Int) < (l.length : Int) := by omega
      obtain ⟨s, hxy⟩ : ∃ s, m.getD k sl0 = s := ⟨_, rfl⟩
      have hrk := rd_row ho hml.out.symm k hkk
      rw [hxy] at hrk
      have e0 := hrk.1
      have e1 := hrk.2.1
      have e2 := hrk.2.2.1
      have e3 := hrk.2.2.2.1
      have e4 := hrk.2.2.2.2
      have HX := hide hxy
      clear hrk hxy
      have hsz3 : w.heap.size + 1 + 1 < v1.heap.size := hz1
      by_cases hki : k = i
      · have HDn := hide (HI.out.done (by rw [hki]; exact HI.out.free))
        subst hki
        clear ho
        go_wp2
        refine bodyPost_ret (v := .tuple #[tab (.slice (some ⟨g, 0, none⟩) l.length c2), .bool true]) (by simp [results, Tryz.results75, go_sem, crr]) rfl ⟨g, 0, c2, by rw [HD.out], ?_, ?_, ?_, .inr (by omega)⟩
        · have h := (HOr.out.lt g rfl).2; simpa using h
        · rw [HP.out, ← HDn.out]
          have h := ownsRow_setCell_below HOr.out (a := ⟨w.heap.size + 1 + 1, 0, none⟩) hsz3 (.slice (some ⟨g, 0, none⟩) l.length c2)
          exact rd_of_own h hml.out.symm
        · exact (HB.out.trans (HSt.out.below (by omega) (by omega))).setCell (p := ⟨w.heap.size + 1 + 1, 0, none⟩) (by simp <;> omega) _
      · have hki2 : ((k : Int) == (i : Int)) = false := beq_eq_false_iff_ne.2 (by omega)
        have hki3 : ¬ (k : Int) = (i : Int) := by omega
        obtain ⟨su, sa, sp, sv, st⟩ := s
        simp only at e0 e1 e2 e3 e4
        cases su with
        | false =>
          have HDn := hide (HI.out.done (by rw [HX.out]))
          clear ho
          go_wp2
          refine bodyPost_ret (v := .tuple #[tab (.slice (some ⟨g, 0, none⟩) l.length c2), .bool true]) (by simp [results, Tryz.results75, go_sem, crr]) rfl ⟨g, 0, c2, by rw [HD.out], ?_, ?_, ?_, .inr (by omega)⟩
          · have h := (HOr.out.lt g rfl).2; simpa using h
          · rw [HP.out, ← HDn.out]
            have h := ownsRow_setCell_below HOr.out (a := ⟨w.heap.size + 1 + 1, 0, none⟩) hsz3 (.slice (some ⟨g, 0, none⟩) l.length c2)
            exact rd_of_own h hml.out.symm
          · exact (HB.out.trans (HSt.out.below (by omega) (by omega))).setCell (p := ⟨w.heap.size + 1 + 1, 0, none⟩) (by simp <;> omega) _
        | true =>
          have hfo : flowOkB sa sp = true := by have h := HI.out.ok k (by have := hml.out; omega) (by rw [HX.out]); rw [HX.out] at h; exact h
          have hhl := homeN_lt hn sa sp
          have HMv := hide (show moves l.length m i k = decide (farN l.length i k ≤ farN l.length (homeN l.length sa sp) k) by unfold moves; rw [HX.out])
          have HOx := hide ho
          clear ho
          go_wp2_with fail
          refine (l5home_any l.length sa sp wr hn hl hfo).mono ?_
          rintro e W6 ⟨rfl, hb6⟩
          generalize homeN l.length sa sp = hm at *
          have hm1 : (hm : Int) < (l.length : Int) := by omega
          have hf1 := far_tmod hhl hkk
          have hf2 := far_tmod hik hkk
          have hnx := next_tmod l.length k
          have ho6 : W6.ownsRow v1.heap.size 95 5 (.slice (some ⟨g, 0, none⟩) l.length c2) l.length (m.flatMap layS.cs) := own_kept HOx.out hb6
          have zcor : v2.heap.size < wr.heap.size := by omega
          have co6 : W6.cell? ⟨v2.heap.size, 0, none⟩ = some (.slice (some ⟨g, 0, none⟩) l.length c2) := (hb6.cell (p := ⟨v2.heap.size, 0, none⟩) zcor).trans cor
          have HSt6 := hide (HSt.out.trans (Stp.of hb6))
          clear hb6 cor crr fcrr
          generalize farN l.length hm k = d1 at *
          generalize farN l.length i k = d2 at *
          by_cases hmv : (d2 : Int) ≤ (d1 : Int)
          · skip
            have HNx := hide (HI.out.move (by rw [HX.out]) (by rw [HMv.out]; exact decide_eq_true (by omega)))
            rw [HX.out] at HNx
            have hln : (m.flatMap layS.cs).length = l.length * 5 := by rw [flat_length, hml.out]; rfl
            have hrk := rd_row ho6 hml.out.symm k hkk
            rw [HX.out] at hrk
            have g0 := hrk.1
            have g1 := hrk.2.1
            have g2 := hrk.2.2.1
            have g3 := hrk.2.2.2.1
            have g4 := hrk.2.2.2.2
            simp only at g0 g1 g2 g3 g4
            clear hrk e0 e1 e2 e3 e4
            obtain ⟨u0, hu0⟩ : ∃ u, W6.cell? ⟨g, i * 5, none⟩ = some u := ⟨_, (ho6.cellAt (i * 5) (by omega)).trans (List.getElem?_eq_getElem (by omega))⟩
            have fu0 := ho6.frozenAt (i * 5)
            obtain ⟨u1, hu1⟩ : ∃ u, W6.cell? ⟨g, i * 5 + 1, none⟩ = some u := ⟨_, (ho6.cellAt (i * 5 + 1) (by omega)).trans (List.getElem?_eq_getElem (by omega))⟩
            have fu1 := ho6.frozenAt (i * 5 + 1)
            obtain ⟨u2, hu2⟩ : ∃ u, W6.cell? ⟨g, i * 5 + 2, none⟩ = some u := ⟨_, (ho6.cellAt (i * 5 + 2) (by omega)).trans (List.getElem?_eq_getElem (by omega))⟩
            have fu2 := ho6.frozenAt (i * 5 + 2)
            obtain ⟨u3, hu3⟩ : ∃ u, W6.cell? ⟨g, i * 5 + 3, none⟩ = some u := ⟨_, (ho6.cellAt (i * 5 + 3) (by omega)).trans (List.getElem?_eq_getElem (by omega))⟩
            have fu3 := ho6.frozenAt (i * 5 + 3)
            obtain ⟨u4, hu4⟩ : ∃ u, W6.cell? ⟨g, i * 5 + 4, none⟩ = some u := ⟨_, (ho6.cellAt (i * 5 + 4) (by omega)).trans (List.getElem?_eq_getElem (by omega))⟩
            have fu4 := ho6.frozenAt (i * 5 + 4)
            obtain ⟨W4, hW4⟩ : ∃ W, (((((W6.setCell ⟨g, i * 5, none⟩ (.bool true)).setCell ⟨g, i * 5 + 1, none⟩ (.int .i64 sa)).setCell ⟨g, i * 5 + 2, none⟩ (.int .i64 sp)).setCell ⟨g, i * 5 + 3, none⟩ (.int .i64 sv)).setCell ⟨g, i * 5 + 4, none⟩ (.int .i64 st)) = W := ⟨_, rfl⟩
            have ho4 : W4.ownsRow v1.heap.size 95 5 (.slice (some ⟨g, 0, none⟩) l.length c2) l.length ((m.set i ⟨true, sa, sp, sv, st⟩).flatMap layS.cs) := by rw [← hW4]; exact (stored5 (k := i) ⟨true, sa, sp, sv, st⟩ (Nat.le_refl g) ho6 (Below.refl g W6)).1
            have HSt4 : Hid (Stp g (g + 1) W6 W4) := by rw [← hW4]; exact stp_set5 W6 g i ⟨true, sa, sp, sv, st⟩
            have hln4 : ((m.set i ⟨true, sa, sp, sv, st⟩).flatMap layS.cs).length = l.length * 5 := by rw [flat_length, List.length_set, hml.out]; rfl
            have zco6 : v2.heap.size < W6.heap.size := Nat.lt_of_lt_of_le hzo2 HSt6.out.size
            have co4 := HSt4.out.cell co6 zco6 (.inr hg2)
            obtain ⟨y0, hy0⟩ : ∃ u, W4.cell? ⟨g, k * 5, none⟩ = some u := ⟨_, (ho4.cellAt (k * 5) (by omega)).trans (List.getElem?_eq_getElem (by omega))⟩
            have fy0 := ho4.frozenAt (k * 5)
            obtain ⟨y1, hy1⟩ : ∃ u, W4.cell? ⟨g, k * 5 + 1, none⟩ = some u := ⟨_, (ho4.cellAt (k * 5 + 1) (by omega)).trans (List.getElem?_eq_getElem (by omega))⟩
            have fy1 := ho4.frozenAt (k * 5 + 1)
            obtain ⟨y2, hy2⟩ : ∃ u, W4.cell? ⟨g, k * 5 + 2, none⟩ = some u := ⟨_, (ho4.cellAt (k * 5 + 2) (by omega)).trans (List.getElem?_eq_getElem (by omega))⟩
            have fy2 := ho4.frozenAt (k * 5 + 2)
            obtain ⟨y3, hy3⟩ : ∃ u, W4.cell? ⟨g, k * 5 + 3, none⟩ = some u := ⟨_, (ho4.cellAt (k * 5 + 3) (by omega)).trans (List.getElem?_eq_getElem (by omega))⟩
            have fy3 := ho4.frozenAt (k * 5 + 3)
            obtain ⟨y4, hy4⟩ : ∃ u, W4.cell? ⟨g, k * 5 + 4, none⟩ = some u := ⟨_, (ho4.cellAt (k * 5 + 4) (by omega)).trans (List.getElem?_eq_getElem (by omega))⟩
            have fy4 := ho4.frozenAt (k * 5 + 4)
            obtain ⟨W5, hW5⟩ : ∃ W, (((((W4.setCell ⟨g, k * 5, none⟩ (.bool false)).setCell ⟨g, k * 5 + 1, none⟩ (.int .i64 0)).setCell ⟨g, k * 5 + 2, none⟩ (.int .i64 0)).setCell ⟨g, k * 5 + 3, none⟩ (.int .i64 0)).setCell ⟨g, k * 5 + 4, none⟩ (.int .i64 0)) = W := ⟨_, rfl⟩
            have HO5 : Hid (W5.ownsRow v1.heap.size 95 5 (.slice (some ⟨g, 0, none⟩) l.length c2) l.length (((m.set i ⟨true, sa, sp, sv, st⟩).set k sl0).flatMap layS.cs)) := by rw [← hW5]; exact (stored5 (k := k) sl0 (Nat.le_refl g) ho4 (Below.refl g W4)).1
            have HSt5 : Hid (Stp g (g + 1) W4 W5) := by rw [← hW5]; exact stp_set5 W4 g k sl0
            have HStA := hide (HSt6.out.trans (HSt4.out.trans HSt5.out))
            clear ho6 ho4 hln hln4
            go_wp2
            go_region
            go_wp2
            go_region
            go_wp2
            go_roundg (gk - 1)
            case measure => have := HNx.out.1; omega
            case rel => exact ⟨_, k, (k + 1) % l.length, rfl, by simp, HNx.out.2, HO5, HStA.out.drew.drew⟩
          · skip
            have HNx := hide (HI.out.stay (by rw [HX.out]) (by rw [HMv.out]; exact decide_eq_false (by omega)))
            have hmv' : decide (d2 ≤ d1) = false := decide_eq_false (by omega)
            have hmv2 : decide ((d2 : Int) ≤ (d1 : Int)) = false := decide_eq_false hmv
            have HO6 := hide ho6
            clear ho6
            go_wp2
            go_region
            go_wp2
            go_roundg (gk - 1)
            case measure => have := HNx.out.1; omega
            case rel => exact ⟨m, i, (k + 1) % l.length, rfl, by simp, HNx.out.2, HO6, HSt6.out.drew⟩

theorem l5drop_any (b off c : Nat) (l : List Sl) (a p : Int) (w : World) (hn : 0 < l.length) (h16 : l.length ≤ 16) (hf : flowOkB a p = true) (hok : flowsOk l) (hbl : b < w.heap.size) (hc : ∀ i, i < l.length → ∀ j, j < layS.k → w.cell? ⟨b, off + i * layS.k + j, none⟩ = (layS.cs (l.getD i layS.d))[j]?) :
    Calls Tryz.prog 75 #[tab (.slice (some ⟨b, off, none⟩) l.length c), flow a p] w fun e w' => ∃ b' off' c', e = .returned (.tuple #[tab (.slice (some ⟨b', off', none⟩) l.length c'), .bool (endL l a p).2]) ∧ b' < w'.heap.size ∧ (∀ i, i < (dropL l a p).length → ∀ j, j < layS.k → w'.cell? ⟨b', off' + i * layS.k + j, none⟩ = (layS.cs ((dropL l a p).getD i layS.d))[j]?) ∧ Below w.heap.size w w' := by
  refine (l5dropW_any b off c l a p w hn h16 hf hok hbl hc).mono ?_
  rintro e w' ⟨b', off', c', h1, h2, h3, h4, _⟩
  exact ⟨b', off', c', h1, h2, h3, h4⟩

end Go.Proofs.YtmkgbmmibjgeaaaGreat

/- Drop, the model's and the program's. -/
namespace Go.Proofs.YtmkgbmmibjgeaaaGreat
open Go.ChangeShapes Go.WideShapes Go.ChangeAt Go.RowKit Go.Joins
set_option linter.unusedVariables false
set_option linter.unusedSimpArgs false

def dropM (l : List Sl) (a p : Int) : List Sl := if (tableOkB l && flowOkB a p) = true then dropL l a p else []
theorem dropM_len (l : List Sl) (a p : Int) : (dropM l a p).length ≤ 16 := by
  unfold dropM
  split
  · next h =>
    rw [dropL_length]
    exact (tableOkB_iff.1 ((Bool.and_eq_true _ _).mp h).1).2.1
  · exact Nat.zero_le _
set_option maxHeartbeats 2000000 in
theorem drop_any (g c base : Nat) (l : List Sl) (a p : Int) (w : World) (hn : 0 < l.length) (h16 : l.length ≤ 16) (hf : flowOkB a p = true) (hok : flowsOk l) (ho : w.ownsRow base CellT 5 (.slice (some ⟨g, 0, none⟩) l.length c) l.length (l.flatMap layS.cs)) :
    Calls Tryz.prog 92 #[tab (.slice (some ⟨g, 0, none⟩) l.length c), flow a p] w fun e w' => e = .returned (.bool (endL l a p).2) ∧ w'.ownsRow base CellT 5 (.slice (some ⟨g, 0, none⟩) l.length c) l.length ((dropL l a p).flatMap layS.cs) ∧ Stp g (g + 1) w w' := by
  have HO := hide ho
  have hl : l.length ≤ 1048576 := by omega
  clear ho
  obtain ⟨W0, hW0⟩ : ∃ W, ((w.alloc (.cells #[.slice (some ⟨g, 0, none⟩) l.length c] 69)).alloc (.cells #[.int .i64 a, .int .i64 p] 45)) = W := ⟨_, rfl⟩
  have hb_W0 : Below w.heap.size w W0 := by rw [← hW0]; exact (((Below.refl _ _).alloc (Nat.le_refl _) _).alloc (by simp <;> omega) _)
  replace HO := hide (own_kept HO.out hb_W0)
  have HB := hide hb_W0
  clear hb_W0
  have zct : w.heap.size < W0.heap.size := by rw [← hW0]; simp <;> omega
  have ct0 : W0.cell? ⟨w.heap.size, 0, none⟩ = some (.slice (some ⟨g, 0, none⟩) l.length c) := by rw [← hW0]; simp [go_sem]
  have zcf : w.heap.size + 1 < W0.heap.size := by rw [← hW0]; simp
  have cf0 : W0.cell? ⟨w.heap.size + 1, 0, none⟩ = some (.int .i64 a) := by rw [← hW0]; simp [go_sem]
  have cf1 : W0.cell? ⟨w.heap.size + 1, 1, none⟩ = some (.int .i64 p) := by rw [← hW0]; simp [go_sem]
  have hat := endOfWay_any g 0 c l a p W0 hn hl hf (HO.out.lt g rfl).2 (rd_of_own HO.out rfl)
  rcases endL_cases l hn a p with hE | ⟨i0, hi0, ⟨hE, _⟩ | ⟨hE, _⟩⟩
  · skip
    have HP := hide (dropL_no (l := l) (a := a) (p := p) (by rw [hE]))
    have HD := hide (show (endL l a p).2 = false by rw [hE])
    rw [hE] at hat
    clear hE
    go_enter Tryz.func92, Tryz.ntmps92
    go_wp2_with fail
    refine (hat).mono ?_
    rintro e v1 ⟨rfl, hb⟩
    replace ct0 : v1.cell? ⟨w.heap.size, 0, none⟩ = some (.slice (some ⟨g, 0, none⟩) l.length c) := (hb.cell (p := ⟨w.heap.size, 0, none⟩) zct).trans ct0
    replace zct : w.heap.size < v1.heap.size := Nat.lt_of_lt_of_le zct hb.size
    replace cf0 : v1.cell? ⟨w.heap.size + 1, 0, none⟩ = some (.int .i64 a) := (hb.cell (p := ⟨w.heap.size + 1, 0, none⟩) zcf).trans cf0
    replace cf1 : v1.cell? ⟨w.heap.size + 1, 1, none⟩ = some (.int .i64 p) := (hb.cell (p := ⟨w.heap.size + 1, 1, none⟩) zcf).trans cf1
    replace zcf : w.heap.size + 1 < v1.heap.size := Nat.lt_of_lt_of_le zcf hb.size
    replace HO := hide (own_kept HO.out hb)
    replace HB := hide (HB.out.trans (hb.mono HB.out.size))
    clear hb
    clear hat
    go_wp2
    go_ret
    exact ⟨by rw [HD.out]; rfl, by rw [HP.out]; exact HO.out, Stp.of HB.out⟩
  · skip
    have HP := hide (dropL_no (l := l) (a := a) (p := p) (by rw [hE]))
    have HD := hide (show (endL l a p).2 = false by rw [hE])
    rw [hE] at hat
    clear hE
    go_enter Tryz.func92, Tryz.ntmps92
    go_wp2_with fail
    refine (hat).mono ?_
    rintro e v1 ⟨rfl, hb⟩
    replace ct0 : v1.cell? ⟨w.heap.size, 0, none⟩ = some (.slice (some ⟨g, 0, none⟩) l.length c) := (hb.cell (p := ⟨w.heap.size, 0, none⟩) zct).trans ct0
    replace zct : w.heap.size < v1.heap.size := Nat.lt_of_lt_of_le zct hb.size
    replace cf0 : v1.cell? ⟨w.heap.size + 1, 0, none⟩ = some (.int .i64 a) := (hb.cell (p := ⟨w.heap.size + 1, 0, none⟩) zcf).trans cf0
    replace cf1 : v1.cell? ⟨w.heap.size + 1, 1, none⟩ = some (.int .i64 p) := (hb.cell (p := ⟨w.heap.size + 1, 1, none⟩) zcf).trans cf1
    replace zcf : w.heap.size + 1 < v1.heap.size := Nat.lt_of_lt_of_le zcf hb.size
    replace HO := hide (own_kept HO.out hb)
    replace HB := hide (HB.out.trans (hb.mono HB.out.size))
    clear hb
    clear hat
    go_wp2
    go_ret
    exact ⟨by rw [HD.out]; rfl, by rw [HP.out]; exact HO.out, Stp.of HB.out⟩
  · skip
    have HP := hide (dropL_yes hE)
    have HD := hide (show (endL l a p).2 = true by rw [hE])
    rw [hE] at hat
    clear hE
    go_enter Tryz.func92, Tryz.ntmps92
    go_wp2_with fail
    refine (hat).mono ?_
    rintro e v1 ⟨rfl, hb⟩
    replace ct0 : v1.cell? ⟨w.heap.size, 0, none⟩ = some (.slice (some ⟨g, 0, none⟩) l.length c) := (hb.cell (p := ⟨w.heap.size, 0, none⟩) zct).trans ct0
    replace zct : w.heap.size < v1.heap.size := Nat.lt_of_lt_of_le zct hb.size
    replace cf0 : v1.cell? ⟨w.heap.size + 1, 0, none⟩ = some (.int .i64 a) := (hb.cell (p := ⟨w.heap.size + 1, 0, none⟩) zcf).trans cf0
    replace cf1 : v1.cell? ⟨w.heap.size + 1, 1, none⟩ = some (.int .i64 p) := (hb.cell (p := ⟨w.heap.size + 1, 1, none⟩) zcf).trans cf1
    replace zcf : w.heap.size + 1 < v1.heap.size := Nat.lt_of_lt_of_le zcf hb.size
    replace HO := hide (own_kept HO.out hb)
    replace HB := hide (HB.out.trans (hb.mono HB.out.size))
    clear hb
    go_wp2_with fail
    refine (dropAt_any g c base l.length i0 l v1 rfl h16 hi0 hok HO.out).mono ?_
    rintro e W2 ⟨⟨v, rfl⟩, ho2, hst⟩
    have HO2 := hide ho2
    have HSt := hide ((Stp.of (lo := g) (hi := g + 1) HB.out).trans hst)
    clear ho2 hst hat
    go_wp2
    go_ret
    exact ⟨by rw [HD.out]; rfl, by rw [HP.out]; exact HO2.out, HSt.out⟩

end Go.Proofs.YtmkgbmmibjgeaaaGreat

/- Tables that may be, said without ways: nobody stands behind a gap; what is dropped leaves one. -/
namespace Go.Proofs.YtmkgbmmibjgeaaaGreat
open Go.ChangeShapes Go.WideShapes Go.ChangeAt Go.RowKit Go.Joins
set_option linter.unusedVariables false
set_option linter.unusedSimpArgs false

theorem far_of_add {n h d : Nat} (hh : h < n) (hd : d < n) : farN n h ((h + d) % n) = d := by
  by_cases e : h + d < n
  · rw [mod_small e, farN_eq hh e, if_pos (by omega)]; omega
  · rw [mod_wrap (by omega) (by omega), farN_eq hh (by omega)]
    split <;> omega
theorem add_of_far {n h x : Nat} (hh : h < n) (hx : x < n) : (h + farN n h x) % n = x := by
  rw [farN_eq hh hx]
  split
  · rw [mod_small (by omega)]; omega
  · rw [mod_wrap (by omega) (by omega)]; omega
theorem far_lt {n h x : Nat} (hh : h < n) (hx : x < n) : farN n h x < n := Nat.mod_lt _ (by omega)
theorem far_inj {n h x y : Nat} (hh : h < n) (hx : x < n) (hy : y < n) (e : farN n h x = farN n h y) : x = y := by
  rw [← add_of_far hh hx, e, add_of_far hh hy]
/-- i lies on the way from h to k just if it is no further from i to k than from h to k. -/
theorem far_on {n h i k : Nat} (hh : h < n) (hi : i < n) (hk : k < n) (hne : i ≠ k) : farN n h i < farN n h k ↔ farN n i k ≤ farN n h k := by
  rw [farN_eq hh hi, farN_eq hh hk, farN_eq hi hk]
  (repeat' split) <;> omega
theorem far_add {n h i k : Nat} (hh : h < n) (hi : i < n) (hk : k < n) (h1 : farN n h i < farN n h k) : farN n h k = farN n h i + farN n i k := by
  rw [farN_eq hh hi, farN_eq hh hk] at h1
  rw [farN_eq hh hi, farN_eq hh hk, farN_eq hi hk]
  (repeat' split at h1) <;> (repeat' split) <;> omega
theorem far_self {n i : Nat} (hi : i < n) : farN n i i = 0 := by rw [farN_eq hi hi, if_pos (Nat.le_refl _)]; omega
theorem far_pos {n i j : Nat} (hi : i < n) (hj : j < n) (hne : i ≠ j) : 1 ≤ farN n i j := by
  rw [farN_eq hi hj]; split <;> omega

abbrev at' (m : List Sl) (j : Nat) : Sl := m.getD j sl0
abbrev hm (m : List Sl) (j : Nat) : Nat := homeN m.length (at' m j).a (at' m j).p
/-- Nobody stands behind a gap, and nobody twice; but for the hole i. -/
structure Gapless (m : List Sl) (i : Nat) : Prop where
  slots : slotTo m m.length
  dist : ∀ x y, x < m.length → y < m.length → (at' m x).u = true → (at' m y).u = true → (at' m x).a = (at' m y).a → (at' m x).p = (at' m y).p → x = y
  gap : ∀ j x, j < m.length → x < m.length → (at' m j).u = true → farN m.length (hm m j) x < farN m.length (hm m j) j → (at' m x).u = true ∨ x = i

theorem scan_some {a p : Int} : ∀ {L : List Met} {E : Int × Bool}, scan a p L = some E → ∃ x, x ∈ L ∧ scanX a p x = some E
  | [], E, h => by simp [scan] at h
  | x :: L, E, h => by
    unfold scan at h
    rw [List.findSome?_cons] at h
    cases hx : scanX a p x with
    | none => rw [hx] at h; obtain ⟨y, hy, e⟩ := scan_some (L := L) (E := E) h; exact ⟨y, List.mem_cons_of_mem _ hy, e⟩
    | some E' => rw [hx] at h; exact ⟨x, List.mem_cons_self, by rw [hx]; exact h⟩
theorem scan_none {a p : Int} : ∀ {L : List Met}, (∀ x, x ∈ L → scanX a p x = none) → scan a p L = none
  | [], _ => rfl
  | x :: L, h => by
    unfold scan
    rw [List.findSome?_cons, h x List.mem_cons_self]
    exact scan_none (L := L) (fun y hy => h y (List.mem_cons_of_mem _ hy))
theorem mem_uptoM {f : Nat → Met} {k : Nat} {x : Met} : x ∈ uptoM f k ↔ ∃ d, d < k ∧ f d = x := by simp [uptoM]
theorem scanX_place {a p : Int} {x : Met} {E : Int × Bool} (h : scanX a p x = some E) : E.1 = (x.1 : Int) := by
  unfold scanX at h
  split at h
  · split at h
    · cases h; rfl
    · cases h
  · cases h; rfl
theorem scanX_none {a p : Int} {x : Met} : scanX a p x = none ↔ x.2.u = true ∧ ¬ (x.2.a = a ∧ x.2.p = p) := by
  unfold scanX
  by_cases h1 : x.2.u = true
  · rw [if_pos h1]
    by_cases h2 : x.2.a = a ∧ x.2.p = p
    · rw [if_pos h2]; simp [h1, h2]
    · rw [if_neg h2]; simp [h1, h2]
  · rw [if_neg h1]; simp [h1]
/-- A way that ends at its own meets others alone ahead of it. -/
theorem endL_before {l : List Sl} (hn : 0 < l.length) {a p : Int} {j : Nat} (hj : j < l.length) {f : Bool} (h : endL l a p = ((j : Int), f)) (x : Nat) (hx : x < l.length) (hd : farN l.length (homeN l.length a p) x < farN l.length (homeN l.length a p) j) : (at' l x).u = true ∧ ¬ ((at' l x).a = a ∧ (at' l x).p = p) := by
  have hh := homeN_lt hn a p
  generalize hhe : homeN l.length a p = h0 at *
  have hfx := far_lt hh hx
  have hme : metAt l h0 (farN l.length h0 x) = (x, at' l x) := by unfold metAt; rw [add_of_far hh hx]
  cases hs : scanX a p (x, at' l x) with
  | none => exact scanX_none.1 hs
  | some E0 =>
    exfalso
    cases hsc : scan a p (uptoM (metAt l h0) (farN l.length h0 x + 1)) with
    | none =>
      rw [uptoM_succ] at hsc
      have h1 : scan a p (uptoM (metAt l h0) (farN l.length h0 x)) = none := by
        cases hq : scan a p (uptoM (metAt l h0) (farN l.length h0 x)) with
        | none => rfl
        | some E => rw [scan_more _ _ _ _ hq] at hsc; cases hsc
      rw [scan_snoc _ _ _ _ h1, hme, hs] at hsc
      cases hsc
    | some E1 =>
      have he := endL_some (l := l) hn (a := a) (p := p) (k := farN l.length h0 x + 1) (E := E1) (by omega) (by rw [hhe]; exact hsc)
      obtain ⟨y, hy, hy2⟩ := scan_some hsc
      obtain ⟨d, hdl, rfl⟩ := mem_uptoM.1 hy
      have hpl := scanX_place hy2
      rw [← he, h] at hpl
      have hjd : j = (h0 + d) % l.length := by have : (j : Int) = ((h0 + d) % l.length : Nat) := hpl; omega
      have := far_of_add hh (show d < l.length by omega)
      rw [← hjd] at this
      omega
theorem endL_own {l : List Sl} (hn : 0 < l.length) {a p : Int} {j : Nat} (hj : j < l.length) (hu : (at' l j).u = true) (ha : (at' l j).a = a) (hp : (at' l j).p = p) (hb : ∀ x, x < l.length → farN l.length (homeN l.length a p) x < farN l.length (homeN l.length a p) j → (at' l x).u = true ∧ ¬ ((at' l x).a = a ∧ (at' l x).p = p)) : endL l a p = ((j : Int), true) := by
  have hh := homeN_lt hn a p
  have hfj := far_lt hh hj
  refine endL_some hn (k := farN l.length (homeN l.length a p) j + 1) (by omega) ?_
  rw [uptoM_succ, scan_snoc]
  · unfold metAt scanX
    rw [add_of_far hh hj]
    simp only
    rw [if_pos hu, if_pos ⟨ha, hp⟩]
  · refine scan_none ?_
    intro y hy
    obtain ⟨d, hd, rfl⟩ := mem_uptoM.1 hy
    have hx := Nat.mod_lt (homeN l.length a p + d) hn
    refine scanX_none.2 (hb _ hx ?_)
    rw [far_of_add hh (by omega)]
    exact hd
/-- A table that may be has no gaps. -/
theorem gapless_of {l : List Sl} (h : tableOkB l = true) (i : Nat) : Gapless l i := by
  obtain ⟨h1, h2, h3⟩ := tableOkB_iff.1 h
  have hw : ∀ j, j < l.length → (at' l j).u = true → endL l (at' l j).a (at' l j).p = ((j : Int), true) := fun j hj hu => by
    have ht := ((Bool.and_eq_true _ _).mp (h3 j hj)).2
    unfold wayB at ht
    rw [hu] at ht
    simpa using ht
  refine ⟨fun j hj => ((Bool.and_eq_true _ _).mp (h3 j hj)).1, ?_, ?_⟩
  · intro x y hx hy hux huy ha hp
    have e1 := hw x hx hux
    have e2 := hw y hy huy
    rw [ha, hp, e2] at e1
    have : (y : Int) = x := congrArg Prod.fst e1
    omega
  · intro j x hj hx hu hd
    exact .inl (endL_before (by omega) hj (hw j hj hu) x hx hd).1
/-- And a list with no gaps may be. -/
theorem ok_of_gapless {l : List Sl} (h1 : 1 ≤ l.length) (h2 : l.length ≤ 16) (hs : slotTo l l.length)
    (hd : ∀ x y, x < l.length → y < l.length → (at' l x).u = true → (at' l y).u = true → (at' l x).a = (at' l y).a → (at' l x).p = (at' l y).p → x = y)
    (hg : ∀ j x, j < l.length → x < l.length → (at' l j).u = true → farN l.length (hm l j) x < farN l.length (hm l j) j → (at' l x).u = true) : tableOkB l = true := by
  refine tableOkB_iff.2 ⟨h1, h2, fun j hj => ?_⟩
  cases hu : (at' l j).u with
  | false => exact tabAt_free hu (hs j hj)
  | true =>
    refine tabAt_used (hs j hj) (endL_own (by omega) hj hu rfl rfl ?_)
    intro x hx hfx
    refine ⟨hg j x hj hx hu hfx, fun ⟨e1, e2⟩ => ?_⟩
    have := hd x j hx hj (hg j x hj hx hu hfx) hu e1 e2
    subst this
    omega

end Go.Proofs.YtmkgbmmibjgeaaaGreat

/- What is dropped of a table that may be leaves one. -/
namespace Go.Proofs.YtmkgbmmibjgeaaaGreat
open Go.ChangeShapes Go.WideShapes Go.ChangeAt Go.RowKit Go.Joins
set_option linter.unusedVariables false
set_option linter.unusedSimpArgs false

/-- The hole is at i; the c slots behind it were looked at, and stay. -/
structure WInv (m : List Sl) (i c : Nat) : Prop where
  gl : Gapless m i
  lt : c < m.length
  seen : ∀ j, j < m.length → (at' m j).u = true → farN m.length i j ≤ c → ¬ farN m.length (hm m j) i < farN m.length (hm m j) j

theorem at_set_self {m : List Sl} {i : Nat} (s : Sl) (h : i < m.length) : at' (m.set i s) i = s := getD_set_self m i s h
theorem at_set_ne {m : List Sl} {i j : Nat} (s : Sl) (h : i ≠ j) : at' (m.set i s) j = at' m j := getD_set_ne m i j s h
theorem hm_set_ne {m : List Sl} {i j : Nat} (s : Sl) (h : i ≠ j) : hm (m.set i s) j = hm m j := by unfold hm; rw [at_set_ne s h, List.length_set]
theorem hm_lt {m : List Sl} (hn : 0 < m.length) (j : Nat) : hm m j < m.length := homeN_lt hn _ _

theorem WInv.start {l : List Sl} {i : Nat} (h : tableOkB l = true) (hi : i < l.length) : WInv (l.set i sl0) i 0 := by
  have hg := gapless_of h i
  obtain ⟨h1, _, _⟩ := tableOkB_iff.1 h
  have hne : ∀ j, (at' (l.set i sl0) j).u = true → i ≠ j := fun j hu e => by rw [← e, at_set_self _ hi] at hu; cases hu
  refine ⟨⟨?_, ?_, ?_⟩, (by rw [List.length_set]; omega), ?_⟩
  · intro j hj
    rw [List.length_set] at hj
    by_cases e : i = j
    · subst e; rw [getD_set_self _ _ _ hi]; rfl
    · rw [getD_set_ne _ _ _ _ e]; exact hg.slots j hj
  · intro x y hx hy hux huy ha hp
    have ex := hne x hux
    have ey := hne y huy
    rw [List.length_set] at hx hy
    rw [at_set_ne _ ex] at hux ha hp
    rw [at_set_ne _ ey] at huy ha hp
    exact hg.dist x y hx hy hux huy ha hp
  · intro j x hj hx hu hd
    have ej := hne j hu
    rw [List.length_set] at hj hx hd
    rw [hm_set_ne _ ej] at hd
    rw [at_set_ne _ ej] at hu
    by_cases e : i = x
    · exact .inr e.symm
    · left
      rw [at_set_ne _ e]
      rcases hg.gap j x hj hx hu hd with hq | hq
      · exact hq
      · exact absurd hq.symm e
  · intro j hj hu hd
    have ej := hne j hu
    rw [List.length_set] at hj hd
    have := far_pos hi hj ej
    omega

theorem WInv.stay {m : List Sl} {i c k : Nat} (h : WInv m i c) (hi : i < m.length) (hk : k = (i + 1 + c) % m.length) (hu : (at' m k).u = true) (hfree : (at' m i).u = false) (hmv : ¬ farN m.length i k ≤ farN m.length (hm m k) k) : WInv m i (c + 1) := by
  have hn : 0 < m.length := by omega
  have hkl : k < m.length := by rw [hk]; exact Nat.mod_lt _ hn
  have hne : i ≠ k := fun e => by rw [e, hu] at hfree; cases hfree
  have hc1 : c + 1 < m.length := by
    rcases Nat.lt_or_ge (c + 1) m.length with h1 | h1
    · exact h1
    · exfalso
      have := h.lt
      have e : i + 1 + c = i + m.length := by omega
      rw [e, Nat.add_mod_right, mod_small hi] at hk
      exact hne hk.symm
  have hfk : farN m.length i k = c + 1 := by rw [hk, Nat.add_assoc, Nat.add_comm 1 c]; exact far_of_add hi hc1
  refine ⟨h.gl, hc1, fun j hj huj hd => ?_⟩
  rcases Nat.lt_or_ge c (farN m.length i j) with h1 | h1
  · have e : j = k := far_inj hi hj hkl (by omega)
    subst e
    intro hq
    exact hmv ((far_on (hm_lt hn j) hi hkl hne).1 hq)
  · exact h.seen j hj huj h1

theorem WInv.move {m : List Sl} {i c k : Nat} (h : WInv m i c) (hi : i < m.length) (hkl : k < m.length) (hu : (at' m k).u = true) (hfree : (at' m i).u = false) (hmv : farN m.length i k ≤ farN m.length (hm m k) k) : WInv ((m.set i (at' m k)).set k sl0) k 0 := by
  have hn : 0 < m.length := by omega
  have hne : i ≠ k := fun e => by rw [e, hu] at hfree; cases hfree
  have hlen : ((m.set i (at' m k)).set k sl0).length = m.length := by simp
  have hon := (far_on (hm_lt hn k) hi hkl hne).2 hmv
  have ai : at' ((m.set i (at' m k)).set k sl0) i = at' m k := by rw [at_set_ne _ (fun e => hne e.symm), at_set_self _ hi]
  have ak : at' ((m.set i (at' m k)).set k sl0) k = sl0 := at_set_self _ (by simpa using hkl)
  have ao : ∀ x, x ≠ i → x ≠ k → at' ((m.set i (at' m k)).set k sl0) x = at' m x := fun x h1 h2 => by rw [at_set_ne _ (fun e => h2 e.symm), at_set_ne _ (fun e => h1 e.symm)]
  have hmi : hm ((m.set i (at' m k)).set k sl0) i = hm m k := by unfold hm; rw [ai, hlen]
  have hmo : ∀ x, x ≠ i → x ≠ k → hm ((m.set i (at' m k)).set k sl0) x = hm m x := fun x h1 h2 => by unfold hm; rw [ao x h1 h2, hlen]
  have hnk : ∀ x, (at' ((m.set i (at' m k)).set k sl0) x).u = true → x ≠ k := fun x hq e => by rw [e, ak] at hq; cases hq
  refine ⟨⟨?_, ?_, ?_⟩, by rw [hlen]; exact hn, ?_⟩
  · intro j hj
    rw [hlen] at hj
    by_cases e1 : j = k
    · subst e1; show slotB (at' _ j) = true; rw [ak]; rfl
    · by_cases e2 : j = i
      · subst e2; show slotB (at' _ j) = true; rw [ai]; exact h.gl.slots k hkl
      · show slotB (at' _ j) = true; rw [ao j e2 e1]; exact h.gl.slots j hj
  · intro x y hx hy hux huy ha hp
    have ex := hnk x hux
    have ey := hnk y huy
    rw [hlen] at hx hy
    by_cases e1 : x = i
    · by_cases e2 : y = i
      · rw [e1, e2]
      · rw [e1, ai] at ha hp
        rw [ao y e2 ey] at huy ha hp
        exact absurd (h.gl.dist k y hkl hy hu huy ha hp).symm ey
    · by_cases e2 : y = i
      · rw [e2, ai] at ha hp
        rw [ao x e1 ex] at hux ha hp
        exact absurd (h.gl.dist x k hx hkl hux hu ha hp) ex
      · rw [ao x e1 ex] at hux ha hp
        rw [ao y e2 ey] at huy ha hp
        exact h.gl.dist x y hx hy hux huy ha hp
  · intro j x hj hx huj hd
    have ej := hnk j huj
    rw [hlen] at hj hx hd
    by_cases e1 : x = k
    · exact .inr e1
    · left
      by_cases e2 : x = i
      · rw [e2, ai]; exact hu
      · rw [ao x e2 e1]
        by_cases e3 : j = i
        · rw [e3, hmi] at hd
          rcases h.gl.gap k x hkl hx hu (by omega) with hq | hq
          · exact hq
          · exact absurd hq e2
        · rw [hmo j e3 ej] at hd
          rw [ao j e3 ej] at huj
          rcases h.gl.gap j x hj hx huj hd with hq | hq
          · exact hq
          · exact absurd hq e2
  · intro j hj huj hd
    rw [hlen] at hj hd
    have := far_pos hkl hj (fun e => hnk j huj e.symm)
    omega

theorem WInv.done {m : List Sl} {i c k : Nat} (h : WInv m i c) (h16 : m.length ≤ 16) (hi : i < m.length) (hk : k = (i + 1 + c) % m.length) (hfree : (at' m k).u = false) : tableOkB m = true := by
  have hn : 0 < m.length := by omega
  have hkl : k < m.length := by rw [hk]; exact Nat.mod_lt _ hn
  refine ok_of_gapless (by omega) h16 h.gl.slots h.gl.dist ?_
  intro j x hj hx hu hd
  rcases h.gl.gap j x hj hx hu hd with hq | hq
  · exact hq
  · exfalso
    subst hq
    have hs : c < farN m.length x j := Nat.lt_of_not_le fun hle => h.seen j hj hu hle hd
    have hlt := far_lt hi hj
    have hfk : farN m.length x k = c + 1 := by rw [hk, Nat.add_assoc, Nat.add_comm 1 c]; exact far_of_add hi (by omega)
    have hjk : j ≠ k := fun e => by rw [e, hfree] at hu; cases hu
    have hlt2 : farN m.length x k < farN m.length x j := by
      rcases Nat.lt_or_ge (c + 1) (farN m.length x j) with h1 | h1
      · omega
      · exact absurd (far_inj hi hj hkl (by omega)) hjk
    have e1 := far_add (hm_lt hn j) hi hj hd
    have hxk : x ≠ k := fun e => by rw [e, far_self hkl] at hfk; omega
    have hk2 : farN m.length (hm m j) k < farN m.length (hm m j) j := by
      have := hm_lt hn j
      have a1 := farN_eq this hkl
      have a2 := farN_eq this hi
      have a3 := farN_eq this hj
      have a4 := farN_eq hi hkl
      have a5 := farN_eq hi hj
      (repeat' split at a1) <;> (repeat' split at a2) <;> (repeat' split at a3) <;> (repeat' split at a4) <;> (repeat' split at a5) <;> omega
    rcases h.gl.gap j k hj hkl hu hk2 with h1 | h1
    · rw [h1] at hfree; cases hfree
    · exact hxk h1.symm

theorem drop_keeps {n : Nat} {R : List Sl} : ∀ (g : Nat) (m : List Sl) (i c k : Nat), k = (i + 1 + c) % n → DropInv n R g m i k → WInv m i c → tableOkB R = true
  | g, m, i, c, k, hk, hD, hW => by
    have hlen := hD.len
    have hi := hD.hi
    have hkl := hD.hk
    have hf := hD.free
    cases hu : (m.getD k sl0).u with
    | false =>
      rw [← hD.done hu]
      exact hW.done (by have := hD.le; omega) (by omega) (by rw [hlen]; exact hk) hu
    | true =>
      cases hm' : moves n m i k with
      | true =>
        obtain ⟨hg, hN⟩ := hD.move hu hm'
        obtain ⟨g', rfl⟩ : ∃ g', g = g' + 1 := ⟨g - 1, by omega⟩
        have hmv := moves_iff.1 hm'
        exact drop_keeps g' _ k 0 _ (by rw [Nat.add_zero]) hN (hW.move (by omega) (by omega) hu hf (by rw [hlen]; unfold hm; rw [hlen]; exact hmv))
      | false =>
        obtain ⟨hg, hN⟩ := hD.stay hu hm'
        obtain ⟨g', rfl⟩ : ∃ g', g = g' + 1 := ⟨g - 1, by omega⟩
        have hmv : ¬ farN n i k ≤ farN n (homeN n (m.getD k sl0).a (m.getD k sl0).p) k := fun hq => by rw [moves_iff.2 hq] at hm'; cases hm'
        refine drop_keeps g' m i (c + 1) _ ?_ hN (hW.stay (by omega) (by rw [hlen]; exact hk) hu hf (by rw [hlen]; unfold hm; rw [hlen]; exact hmv))
        rw [hk, Nat.mod_add_mod]; congr 1
/-- What is dropped of a table that may be leaves one. -/
theorem dropAtL_ok {l : List Sl} {i : Nat} (h : tableOkB l = true) (hi : i < l.length) : tableOkB (dropAtL l i) = true := by
  obtain ⟨h1, h2, _⟩ := tableOkB_iff.1 h
  exact drop_keeps _ _ i 0 _ (by rw [Nat.add_zero]) (DropInv.start h2 hi (flowsOk_of h)) (WInv.start h hi)

end Go.Proofs.YtmkgbmmibjgeaaaGreat

/- What is due goes: as the model has it. -/
namespace Go.Proofs.YtmkgbmmibjgeaaaGreat
open Go.ChangeShapes Go.WideShapes Go.ChangeAt Go.RowKit Go.Joins
set_option linter.unusedVariables false
set_option linter.unusedSimpArgs false

def dueB (s : Sl) (now : Int) : Bool := s.u && decide (s.t ≤ now)
/-- The first that is due. -/
def dueAt (l : List Sl) (now : Int) : Option Nat := (List.range l.length).find? (fun j => dueB (at' l j) now)
def dueTo (l : List Sl) (now : Int) (k : Nat) : Prop := ∀ j, j < k → dueB (at' l j) now = false
theorem dueTo_succ {l : List Sl} {now : Int} {k : Nat} (h : dueTo l now k) (hk : dueB (at' l k) now = false) : dueTo l now (k + 1) := fun j hj => by
  rcases Nat.lt_succ_iff_lt_or_eq.1 hj with h1 | h1
  · exact h j h1
  · rw [h1]; exact hk
theorem dueAt_none {l : List Sl} {now : Int} (h : dueTo l now l.length) : dueAt l now = none := by
  unfold dueAt
  rw [List.find?_eq_none]
  intro x hx
  rw [h x (List.mem_range.1 hx)]; decide
theorem dueAt_some {l : List Sl} {now : Int} {k : Nat} (hk : k < l.length) (h : dueTo l now k) (hd : dueB (at' l k) now = true) : dueAt l now = some k := by
  unfold dueAt
  rw [List.find?_range_eq_some]
  refine ⟨hd, List.mem_range.2 hk, fun j hj => ?_⟩
  rw [h j hj]; rfl
theorem dueAt_spec {l : List Sl} {now : Int} {k : Nat} (h : dueAt l now = some k) : k < l.length ∧ dueB (at' l k) now = true :=
  ⟨List.mem_range.1 (List.mem_of_find?_eq_some h), by have := List.find?_some h; simpa using this⟩
/-- How many are there. -/
def cntW (m : List Sl) (j : Nat) : Nat := if (at' m j).u = true then 1 else 0
def cnt (m : List Sl) : Nat := sumTo m.length (cntW m)
theorem sumTo_le : ∀ (n : Nat) {f : Nat → Nat}, (∀ x, f x ≤ 1) → sumTo n f ≤ n
  | 0, _, _ => Nat.le_refl _
  | n + 1, f, h => by simp only [sumTo]; have := sumTo_le n h; have := h n; omega
theorem cnt_le (m : List Sl) : cnt m ≤ m.length := sumTo_le _ (fun x => by unfold cntW; split <;> omega)
theorem cnt_set {m : List Sl} {i : Nat} (hi : i < m.length) (s : Sl) : cnt (m.set i s) + cntW m i = cnt m + (if s.u = true then 1 else 0) := by
  unfold cnt
  rw [List.length_set]
  have h := sumTo_upd m.length (f := cntW (m.set i s)) (g := cntW m) hi (fun x hx => by unfold cntW; rw [at_set_ne s (fun e => hx e.symm)])
  rw [show cntW (m.set i s) i = if s.u = true then 1 else 0 by unfold cntW; rw [at_set_self s hi]] at h
  exact h
theorem cnt_drop {n : Nat} {R : List Sl} : ∀ (g : Nat) (m : List Sl) (i k : Nat), DropInv n R g m i k → cnt R = cnt m
  | g, m, i, k, hD => by
    have hlen := hD.len
    have hi := hD.hi
    have hkl := hD.hk
    cases hu : (m.getD k sl0).u with
    | false => rw [← hD.done hu]
    | true =>
      cases hm' : moves n m i k with
      | true =>
        obtain ⟨hg, hN⟩ := hD.move hu hm'
        obtain ⟨g', rfl⟩ : ∃ g', g = g' + 1 := ⟨g - 1, by omega⟩
        rw [cnt_drop g' _ _ _ hN]
        have hne : i ≠ k := fun e => by have h := hD.free; rw [e, hu] at h; cases h
        have e1 := cnt_set (m := m) (i := i) (by omega) (m.getD k sl0)
        have e2 := cnt_set (m := m.set i (m.getD k sl0)) (i := k) (by rw [List.length_set]; omega) sl0
        have c1 : cntW m i = 0 := by unfold cntW; rw [show (at' m i).u = false from hD.free]; rfl
        have c2 : cntW (m.set i (m.getD k sl0)) k = 1 := by unfold cntW; rw [at_set_ne _ hne, show (at' m k).u = true from hu]; rfl
        rw [hu, if_pos rfl] at e1
        rw [if_neg (by decide)] at e2
        omega
      | false =>
        obtain ⟨hg, hN⟩ := hD.stay hu hm'
        obtain ⟨g', rfl⟩ : ∃ g', g = g' + 1 := ⟨g - 1, by omega⟩
        exact cnt_drop g' _ _ _ hN
theorem cnt_dropAt {l : List Sl} {i : Nat} (h : tableOkB l = true) (hi : i < l.length) (hu : (at' l i).u = true) : cnt (dropAtL l i) + 1 = cnt l := by
  obtain ⟨h1, h2, _⟩ := tableOkB_iff.1 h
  rw [cnt_drop _ _ _ _ (DropInv.start h2 hi (flowsOk_of h))]
  have e := cnt_set (m := l) hi sl0
  have c1 : cntW l i = 1 := by unfold cntW; rw [hu]; rfl
  rw [if_neg (by decide)] at e
  omega
def expGo (now : Int) : Nat → List Sl → Nat → List Sl × Nat
  | 0, l, c => (l, c)
  | f + 1, l, c => match dueAt l now with
    | none => (l, c)
    | some i => expGo now f (dropAtL l i) (c + 1)
/-- What is left, and how many went. -/
def expL (l : List Sl) (now : Int) : List Sl × Nat := expGo now (cnt l + 1) l 0
structure ExpInv (n : Nat) (now : Int) (R : List Sl × Nat) (g : Nat) (m : List Sl) (c : Nat) : Prop where
  ok : tableOkB m = true
  len : m.length = n
  ms : cnt m ≤ g
  go : expGo now (g + 1) m c = R
  bd : c + cnt m ≤ 16
theorem ExpInv.start {l : List Sl} {now : Int} (h : tableOkB l = true) : ExpInv l.length now (expL l now) (cnt l) l 0 :=
  ⟨h, rfl, Nat.le_refl _, rfl, by have := cnt_le l; have := (tableOkB_iff.1 h).2.1; omega⟩
theorem ExpInv.done {n g c : Nat} {now : Int} {R : List Sl × Nat} {m : List Sl} (h : ExpInv n now R g m c) (hd : dueAt m now = none) : R = (m, c) := by
  rw [← h.go]; unfold expGo; rw [hd]
theorem ExpInv.step {n g c i : Nat} {now : Int} {R : List Sl × Nat} {m : List Sl} (h : ExpInv n now R g m c) (hd : dueAt m now = some i) : 1 ≤ g ∧ i < n ∧ (at' m i).u = true ∧ c + 1 ≤ 16 ∧ ExpInv n now R (g - 1) (dropAtL m i) (c + 1) := by
  obtain ⟨h1, h2⟩ := dueAt_spec hd
  have hu : (at' m i).u = true := by unfold dueB at h2; exact ((Bool.and_eq_true _ _).mp h2).1
  have hc := cnt_dropAt h.ok h1 hu
  have hms := h.ms
  have hbd := h.bd
  have hg : 1 ≤ g := by omega
  refine ⟨hg, by rw [← h.len]; exact h1, hu, by omega, dropAtL_ok h.ok h1, by rw [dropAtL_length]; exact h.len, by omega, ?_, by omega⟩
  rw [← h.go, show g - 1 + 1 = g by omega]
  conv => rhs; unfold expGo
  rw [hd]
theorem way_at {m : List Sl} {i : Nat} (h : tableOkB m = true) (hi : i < m.length) (hu : (at' m i).u = true) : endL m (at' m i).a (at' m i).p = ((i : Int), true) := by
  have ht := ((Bool.and_eq_true _ _).mp ((tableOkB_iff.1 h).2.2 i hi)).2
  unfold wayB at ht
  rw [show (m.getD i sl0).u = true from hu] at ht
  simpa using ht
def expM (l : List Sl) (now : Int) : List Sl := if tableOkB l = true then (expL l now).1 else []
def expN (l : List Sl) (now : Int) : Int := if tableOkB l = true then ((expL l now).2 : Nat) else -1
theorem expGo_length (now : Int) : ∀ (f : Nat) (l : List Sl) (c : Nat), (expGo now f l c).1.length = l.length
  | 0, l, c => rfl
  | f + 1, l, c => by
    unfold expGo
    cases hd : dueAt l now with
    | none => rfl
    | some i => rw [expGo_length now f]; exact dropAtL_length l i
theorem expL_length (l : List Sl) (now : Int) : (expL l now).1.length = l.length := expGo_length now _ l 0
theorem expM_len (l : List Sl) (now : Int) : (expM l now).length ≤ 16 := by
  unfold expM
  split
  · next h => rw [expL_length]; exact (tableOkB_iff.1 h).2.1
  · exact Nat.zero_le _

end Go.Proofs.YtmkgbmmibjgeaaaGreat

/- What is due first, on both sides; the program's dropDue. -/
namespace Go.Proofs.YtmkgbmmibjgeaaaGreat
open Go.ChangeShapes Go.WideShapes Go.ChangeAt Go.RowKit Go.Joins
set_option linter.unusedVariables false
set_option linter.unusedSimpArgs false

/-- The place of the first that is due; -1: there is none. -/
def dueV (l : List Sl) (now : Int) : Int := match dueAt l now with
  | some i => (i : Int)
  | none => -1
end Go.Proofs.YtmkgbmmibjgeaaaGreat

/- Expire, the model's and the program's. -/
namespace Go.Proofs.YtmkgbmmibjgeaaaGreat
open Go.ChangeShapes Go.WideShapes Go.ChangeAt Go.RowKit Go.Joins
set_option linter.unusedVariables false
set_option linter.unusedSimpArgs false

/-- A row of slots is no box that holds a slice. -/
theorem row_ne_box {W : World} {B b off n c : Nat} {o : Option Addr} {T : TypeId} {m : List Sl} (hm : 0 < m.length) (hB : W.heap[B]? = some (.cells #[.slice o n c] T (0, 0))) (hr : (∀ i, i < m.length → ∀ j, j < layS.k → W.cell? ⟨b, off + i * layS.k + j, none⟩ = (layS.cs (m.getD i layS.d))[j]?)) : b ≠ B := by
  rintro rfl
  have h : W.cell? ⟨b, off + 0 * layS.k + 0, none⟩ = some (.bool (m.getD 0 layS.d).u) := hr 0 hm 0 (by decide)
  simp only [World.cell?, hB, Nat.zero_mul, Nat.add_zero] at h
  rcases off with _ | off <;> simp at h

end Go.Proofs.YtmkgbmmibjgeaaaGreat

/- AgentTick, on both sides. -/
namespace Go.Proofs.YtmkgbmmibjgeaaaGreat
open Go.ChangeShapes Go.WideShapes Go.ChangeAt Go.RowKit Go.Joins
set_option linter.unusedVariables false
set_option linter.unusedSimpArgs false

theorem Stp.same {lo hi b j : Nat} {w w' : World} (s : Stp lo hi w w') (hb : b < w.heap.size) (hd : b < lo ∨ hi ≤ b) : w'.cell? ⟨b, j, none⟩ = w.cell? ⟨b, j, none⟩ := by
  simp only [World.cell?, s.block b hb hd]
theorem Stp.wide' {a b lo hi : Nat} {w w' : World} (h : Stp a b w w') (h1 : lo ≤ a) (h2 : b ≤ hi) : Stp lo hi w w' := ⟨h.os, h.tape, h.output, h.size, fun k hk hn => h.block k hk (by omega)⟩
theorem expGo_le (now : Int) : ∀ (f : Nat) (l : List Sl) (c : Nat), (expGo now f l c).2 ≤ c + f
  | 0, l, c => Nat.le_refl _
  | f + 1, l, c => by
    unfold expGo
    cases dueAt l now with
    | none => simp
    | some i => exact Nat.le_trans (expGo_le now f (dropAtL l i) (c + 1)) (by omega)
theorem expL_le {l : List Sl} (now : Int) (h : l.length ≤ 16) : (expL l now).2 ≤ 17 := by
  have h1 := expGo_le now (cnt l + 1) l 0
  have h2 := cnt_le l
  unfold expL
  omega
def tickA (m : Am) (now : Int) : Am := { m with c := (expL m.c now).1, t := (expL m.t now).1 }
def tickB (m : Am) (now : Int) : Bool := agentOkB m && (decide (0 ≤ now) && decide (now ≤ 100000))
def tickM (m : Am) (now : Int) : Am := if tickB m now = true then tickA m now else am0
def tickN (m : Am) (now : Int) : Int := if tickB m now = true then ((expL m.c now).2 : Nat) + ((expL m.t now).2 : Nat) else -1
theorem tickM_fit {m : Am} (now : Int) (h : m.c.length + m.t.length ≤ 1048576) : (tickM m now).c.length + (tickM m now).t.length ≤ 1048576 := by
  unfold tickM
  split
  · unfold tickA; simp only [expL_length]; exact h
  · decide
theorem agent_tabs {m : Am} (h : agentOkB m = true) : tableOkB m.c = true ∧ tableOkB m.t = true ∧ m.c.length ≤ 16 ∧ m.t.length ≤ 16 := by
  have h := agentOkB_parts.1 h
  exact ⟨h.2.2.2.2.1, h.2.2.2.2.2.1, (tableOkB_iff.1 h.2.2.2.2.1).2.1, (tableOkB_iff.1 h.2.2.2.2.2.1).2.1⟩
theorem l6now_any (n : Int) (w : World) : Calls Tryz.prog 19 #[.int .i64 n] w fun e w' => e = .returned (.bool (decide (0 ≤ n) && decide (n ≤ 100000))) ∧ w = w' := by
  go_enter Tryz.func19, Tryz.ntmps19
  go_wp2
  all_goals go_ret
  all_goals refine ⟨ret_bool ?_, rfl⟩
  all_goals first | (simp [*]; done) | (simp; omega)
theorem isStampA_any (n : Int) (w : World) : Calls Tryz.prog 27 #[.int .i64 n] w fun e w' => e = .returned (.bool (decide (0 ≤ n) && decide (n ≤ 100000))) ∧ w = w' := by
  go_enter Tryz.func27, Tryz.ntmps27
  go_wp2
  all_goals go_ret
  all_goals refine ⟨ret_bool ?_, rfl⟩
  all_goals first | (simp [*]; done) | (simp; omega)

end Go.Proofs.YtmkgbmmibjgeaaaGreat

/- The model's way with what is taken, and with what is shunned. -/
namespace Go.Proofs.YtmkgbmmibjgeaaaGreat
open Go.ChangeShapes Go.WideShapes Go.ChangeAt Go.RowKit Go.Joins
set_option linter.unusedVariables false
set_option linter.unusedSimpArgs false

theorem bC {C b j : Nat} {w w' : World} {u : Value} (h : Below C w w') (hc : w.cell? ⟨b, j, none⟩ = some u) (hz : b < C) : w'.cell? ⟨b, j, none⟩ = some u := (h.cell (p := ⟨b, j, none⟩) hz).trans hc
theorem bF {C b j : Nat} {w w' : World} (h : Below C w w') (hc : w.frozen? ⟨b, j, none⟩ = false) (hz : b < C) : w'.frozen? ⟨b, j, none⟩ = false := (h.frozen (p := ⟨b, j, none⟩) hz).trans hc
abbrev Row (w : World) (b off : Nat) (l : List Sl) : Prop := ∀ i, i < l.length → ∀ j, j < layS.k → w.cell? ⟨b, off + i * layS.k + j, none⟩ = (layS.cs (l.getD i layS.d))[j]?
theorem Row.kept {C : Nat} {w w' : World} {b off : Nat} {l : List Sl} (h : Row w b off l) (hb : Below C w w') (hz : b < C) : Row w' b off l := fun i hi j hj => (hb.cell (p := ⟨b, off + i * layS.k + j, none⟩) hz).trans (h i hi j hj)
theorem Row.step {lo hi : Nat} {w w' : World} {b off : Nat} {l : List Sl} (h : Row w b off l) (s : Stp lo hi w w') (hz : b < w.heap.size) (hd : b < lo ∨ hi ≤ b) : Row w' b off l := fun i hi j hj => (s.same hz hd).trans (h i hi j hj)

set_option maxHeartbeats 4000000 in
theorem l6tomb_any (m : Am) (bc fc cc bt ft ct : Nat) (now a p : Int) (w : World) (hn0 : 0 ≤ now) (hn1 : now ≤ 100000) (hfl : flowOkB a p = true) (hc0 : 0 < m.c.length) (hc16 : m.c.length ≤ 16) (ht0 : 0 < m.t.length) (ht16 : m.t.length ≤ 16) (zc : bc < w.heap.size) (zt : bt < w.heap.size) (hC : Row w bc fc m.c) (hT : Row w bt ft m.t) :
    Calls Tryz.prog 76 #[agt m.id m.lim m.dr (.slice (some ⟨bc, fc, none⟩) m.c.length cc) (.slice (some ⟨bt, ft, none⟩) m.t.length ct), .int .i64 now, flow a p] w fun e w' => ∃ bt' ft' ct', e = .returned (.tuple #[agt m.id m.lim m.dr (.slice (some ⟨bc, fc, none⟩) m.c.length cc) (.slice (some ⟨bt', ft', none⟩) m.t.length ct'), .bool (decide (0 ≤ (endL m.t a p).1))]) ∧ bt' < w'.heap.size ∧ Row w' bt' ft' (putL m.t a p 0 (now + 20 + 1)) ∧ Below w.heap.size w w' ∧ (bt' = bt ∨ w.heap.size ≤ bt') := by
  have HT := hide hT
  clear hC hT
  obtain ⟨W0, hW0⟩ : ∃ W, (((w.alloc (.cells #[.int .i64 m.id, .int .i64 m.lim, .bool m.dr, .slice (some ⟨bc, fc, none⟩) m.c.length cc, .slice (some ⟨bt, ft, none⟩) m.t.length ct] 41)).alloc (.cells #[.int .i64 a, .int .i64 p] 45)).alloc (.cells #[.int .i64 0, .int .i64 0, .bool false, .slice none 0 0, .slice none 0 0] 41)) = W := ⟨_, rfl⟩
  have hb_W0 : Below w.heap.size w W0 := by rw [← hW0]; exact ((((Below.refl _ _).alloc (Nat.le_refl _) _).alloc (by simp <;> omega) _).alloc (by simp <;> omega) _)
  have HB := hide hb_W0
  clear hb_W0
  have zz : w.heap.size < W0.heap.size := by rw [← hW0]; simp <;> omega
  have z0 : W0.cell? ⟨w.heap.size, 0, none⟩ = some (.int .i64 m.id) := by rw [← hW0]; simp [go_sem]
  have z1 : W0.cell? ⟨w.heap.size, 1, none⟩ = some (.int .i64 m.lim) := by rw [← hW0]; simp [go_sem]
  have z2 : W0.cell? ⟨w.heap.size, 2, none⟩ = some (.bool m.dr) := by rw [← hW0]; simp [go_sem]
  have z3 : W0.cell? ⟨w.heap.size, 3, none⟩ = some (.slice (some ⟨bc, fc, none⟩) m.c.length cc) := by rw [← hW0]; simp [go_sem]
  have z4 : W0.cell? ⟨w.heap.size, 4, none⟩ = some (.slice (some ⟨bt, ft, none⟩) m.t.length ct) := by rw [← hW0]; simp [go_sem]
  have fz0 : W0.frozen? ⟨w.heap.size, 0, none⟩ = false := by rw [← hW0]; simp [go_sem]
  have fz1 : W0.frozen? ⟨w.heap.size, 1, none⟩ = false := by rw [← hW0]; simp [go_sem]
  have fz2 : W0.frozen? ⟨w.heap.size, 2, none⟩ = false := by rw [← hW0]; simp [go_sem]
  have fz3 : W0.frozen? ⟨w.heap.size, 3, none⟩ = false := by rw [← hW0]; simp [go_sem]
  have fz4 : W0.frozen? ⟨w.heap.size, 4, none⟩ = false := by rw [← hW0]; simp [go_sem]
  have zf : w.heap.size + 1 < W0.heap.size := by rw [← hW0]; simp <;> omega
  have f0 : W0.cell? ⟨w.heap.size + 1, 0, none⟩ = some (.int .i64 a) := by rw [← hW0]; simp [go_sem]
  have f1 : W0.cell? ⟨w.heap.size + 1, 1, none⟩ = some (.int .i64 p) := by rw [← hW0]; simp [go_sem]
  have zr : w.heap.size + 1 + 1 < W0.heap.size := by rw [← hW0]; simp
  have r0 : W0.cell? ⟨w.heap.size + 1 + 1, 0, none⟩ = some (.int .i64 0) := by rw [← hW0]; simp [go_sem]
  have r1 : W0.cell? ⟨w.heap.size + 1 + 1, 1, none⟩ = some (.int .i64 0) := by rw [← hW0]; simp [go_sem]
  have r2 : W0.cell? ⟨w.heap.size + 1 + 1, 2, none⟩ = some (.bool false) := by rw [← hW0]; simp [go_sem]
  have r3 : W0.cell? ⟨w.heap.size + 1 + 1, 3, none⟩ = some (.slice none 0 0) := by rw [← hW0]; simp [go_sem]
  have r4 : W0.cell? ⟨w.heap.size + 1 + 1, 4, none⟩ = some (.slice none 0 0) := by rw [← hW0]; simp [go_sem]
  have fr0 : W0.frozen? ⟨w.heap.size + 1 + 1, 0, none⟩ = false := by rw [← hW0]; simp [go_sem]
  have fr1 : W0.frozen? ⟨w.heap.size + 1 + 1, 1, none⟩ = false := by rw [← hW0]; simp [go_sem]
  have fr2 : W0.frozen? ⟨w.heap.size + 1 + 1, 2, none⟩ = false := by rw [← hW0]; simp [go_sem]
  have fr3 : W0.frozen? ⟨w.heap.size + 1 + 1, 3, none⟩ = false := by rw [← hW0]; simp [go_sem]
  have fr4 : W0.frozen? ⟨w.heap.size + 1 + 1, 4, none⟩ = false := by rw [← hW0]; simp [go_sem]
  have hz0 := zr
  have H1 := hide (l5putW_any bt ft ct m.t a p 0 (now + 20 + 1) W0 ht0 (by omega) hfl (Nat.lt_of_lt_of_le zt HB.out.size) (HT.out.kept HB.out zt))
  have hpl := putL_length m.t a p 0 (now + 20 + 1)
  generalize putL m.t a p 0 (now + 20 + 1) = tl at *
  generalize decide (0 ≤ (endL m.t a p).1) = tb at *
  have hw1 : IntKind.i64.wrap (now + 20) = now + 20 := by rw [IntKind.wrap_i64]; omega
  have hw2 : IntKind.i64.wrap (now + 20 + 1) = now + 20 + 1 := by rw [IntKind.wrap_i64]; omega
  go_enter Tryz.func76, Tryz.ntmps76
  go_wp2_with fail
  refine (H1.out).mono ?_
  rintro e v1 ⟨b2, f2, c2, rfl, hz2, hrd, hb, hq⟩
  have HR := hide hrd
  have hs1 := hb.size
  clear hrd
  replace z0 := bC hb z0 zz
  replace z1 := bC hb z1 zz
  replace z2 := bC hb z2 zz
  replace z3 := bC hb z3 zz
  replace z4 := bC hb z4 zz
  replace fz0 := bF hb fz0 zz
  replace fz1 := bF hb fz1 zz
  replace fz2 := bF hb fz2 zz
  replace fz3 := bF hb fz3 zz
  replace fz4 := bF hb fz4 zz
  replace zz := Nat.lt_of_lt_of_le zz hb.size
  replace f0 := bC hb f0 zf
  replace f1 := bC hb f1 zf
  replace zf := Nat.lt_of_lt_of_le zf hb.size
  replace r0 := bC hb r0 zr
  replace r1 := bC hb r1 zr
  replace r2 := bC hb r2 zr
  replace r3 := bC hb r3 zr
  replace r4 := bC hb r4 zr
  replace fr0 := bF hb fr0 zr
  replace fr1 := bF hb fr1 zr
  replace fr2 := bF hb fr2 zr
  replace fr3 := bF hb fr3 zr
  replace fr4 := bF hb fr4 zr
  replace zr := Nat.lt_of_lt_of_le zr hb.size
  replace HB := hide (HB.out.trans (hb.mono HB.out.size))
  clear hb
  obtain ⟨W2, hW2⟩ : ∃ W, (v1.alloc (.cells #[.slice (some ⟨b2, f2, none⟩) m.t.length c2] 39)) = W := ⟨_, rfl⟩
  have hb_W2 : Below v1.heap.size v1 W2 := by rw [← hW2]; exact ((Below.refl _ _).alloc (Nat.le_refl _) _)
  replace z0 := bC hb_W2 z0 zz
  replace z1 := bC hb_W2 z1 zz
  replace z2 := bC hb_W2 z2 zz
  replace z3 := bC hb_W2 z3 zz
  replace z4 := bC hb_W2 z4 zz
  replace fz0 := bF hb_W2 fz0 zz
  replace fz1 := bF hb_W2 fz1 zz
  replace fz2 := bF hb_W2 fz2 zz
  replace fz3 := bF hb_W2 fz3 zz
  replace fz4 := bF hb_W2 fz4 zz
  replace zz := Nat.lt_of_lt_of_le zz hb_W2.size
  replace f0 := bC hb_W2 f0 zf
  replace f1 := bC hb_W2 f1 zf
  replace zf := Nat.lt_of_lt_of_le zf hb_W2.size
  replace r0 := bC hb_W2 r0 zr
  replace r1 := bC hb_W2 r1 zr
  replace r2 := bC hb_W2 r2 zr
  replace r3 := bC hb_W2 r3 zr
  replace r4 := bC hb_W2 r4 zr
  replace fr0 := bF hb_W2 fr0 zr
  replace fr1 := bF hb_W2 fr1 zr
  replace fr2 := bF hb_W2 fr2 zr
  replace fr3 := bF hb_W2 fr3 zr
  replace fr4 := bF hb_W2 fr4 zr
  replace zr := Nat.lt_of_lt_of_le zr hb_W2.size
  replace HB := hide (HB.out.trans (hb_W2.mono HB.out.size))
  clear hb_W2
  have zx : v1.heap.size < W2.heap.size := by rw [← hW2]; simp
  have x0 : W2.cell? ⟨v1.heap.size, 0, none⟩ = some (.slice (some ⟨b2, f2, none⟩) m.t.length c2) := by rw [← hW2]; simp [go_sem]
  have hb2 := (show Below v1.heap.size v1 W2 by rw [← hW2]; exact (Below.refl _ _).alloc (Nat.le_refl _) _)
  have HR2 := hide (Row.kept HR.out hb2 hz2)
  have hs2 := hb2.size
  clear HR hb2 H1
  have hne1 : v1.heap.size ≠ w.heap.size := by omega
  have hne2 : w.heap.size ≠ v1.heap.size := by omega
  have hqa : b2 < w.heap.size ∨ w.heap.size + 1 + 1 + 1 ≤ b2 := by omega
  go_wp2
  refine bodyPost_ret (v := .tuple #[agt m.id m.lim m.dr (.slice (some ⟨bc, fc, none⟩) m.c.length cc) (.slice (some ⟨b2, f2, none⟩) m.t.length c2), .bool tb]) (by simp [results, Tryz.results76, go_sem, r0, r1, r2, r3, r4]) rfl ⟨b2, f2, c2, rfl, by simp; omega, ?_, ?_, by omega⟩
  · have hst : Stp w.heap.size (w.heap.size + 1 + 1 + 1) W2 _ := ((stp_set1 W2 w.heap.size 4 (.slice (some ⟨b2, f2, none⟩) m.t.length c2)).wide' (Nat.le_refl _) (by omega)).trans ((stp_set5v _ (w.heap.size + 1 + 1) (.int .i64 m.id) (.int .i64 m.lim) (.bool m.dr) (.slice (some ⟨bc, fc, none⟩) m.c.length cc) (.slice (some ⟨b2, f2, none⟩) m.t.length c2)).wide' (by omega) (Nat.le_refl _))
    exact Row.step HR2.out hst (by omega) hqa
  · exact below_set5v (HB.out.setCell (p := ⟨w.heap.size, 4, none⟩) (Nat.le_refl _) _) (by omega) _ _ _ _ _

def takeC (c : List Sl) (now a p f s : Int) : List Sl := if bits .and .i64 f 12 = 0 then putL c a p s (now + 50) else dropL c a p
def takeT (t : List Sl) (now a p f : Int) : List Sl := if bits .and .i64 f 12 = 0 then t else putL t a p 0 (now + 20 + 1)
theorem takeC_len (c : List Sl) (now a p f s : Int) : (takeC c now a p f s).length = c.length := by
  unfold takeC
  split
  · exact putL_length _ _ _ _ _
  · exact dropL_length _ _ _
theorem takeT_len (t : List Sl) (now a p f : Int) : (takeT t now a p f).length = t.length := by
  unfold takeT
  split
  · rfl
  · exact putL_length _ _ _ _ _

set_option maxHeartbeats 8000000 in
theorem l6take_any (m : Am) (bc fc cc bt ft ct : Nat) (now a p f s : Int) (o : Option Addr) (n cp : Nat) (w : World) (hn0 : 0 ≤ now) (hn1 : now ≤ 100000) (hfl : flowOkB a p = true) (hc0 : 0 < m.c.length) (hc16 : m.c.length ≤ 16) (ht0 : 0 < m.t.length) (ht16 : m.t.length ≤ 16) (zc : bc < w.heap.size) (zt : bt < w.heap.size) (hC : Row w bc fc m.c) (hT : Row w bt ft m.t) (hok : flowsOk m.c) :
    Calls Tryz.prog 45 #[agt m.id m.lim m.dr (.slice (some ⟨bc, fc, none⟩) m.c.length cc) (.slice (some ⟨bt, ft, none⟩) m.t.length ct), .int .i64 now, .agg #[.int .i64 a, .int .i64 p, .int .i64 f, .int .i64 s, .slice o n cp]] w fun e w' => ∃ bc' fc' cc' bt' ft' ct', e = .returned (agt m.id m.lim m.dr (.slice (some ⟨bc', fc', none⟩) m.c.length cc') (.slice (some ⟨bt', ft', none⟩) m.t.length ct')) ∧ bc' < w'.heap.size ∧ bt' < w'.heap.size ∧ Row w' bc' fc' (takeC m.c now a p f s) ∧ Row w' bt' ft' (takeT m.t now a p f) ∧ Below w.heap.size w w' ∧ (bc' = bc ∨ w.heap.size ≤ bc') ∧ (bt' = bt ∨ w.heap.size ≤ bt') := by
  have HC := hide hC
  have HT := hide hT
  clear hC hT
  have hw1 : IntKind.i64.wrap (now + 50) = now + 50 := by rw [IntKind.wrap_i64]; omega
  obtain ⟨W0, hW0⟩ : ∃ W, (((w.alloc (.cells #[.int .i64 m.id, .int .i64 m.lim, .bool m.dr, .slice (some ⟨bc, fc, none⟩) m.c.length cc, .slice (some ⟨bt, ft, none⟩) m.t.length ct] 41)).alloc (.cells #[.int .i64 a, .int .i64 p, .int .i64 f, .int .i64 s, .slice o n cp] 47)).alloc (.cells #[.int .i64 0, .int .i64 0, .bool false, .slice none 0 0, .slice none 0 0] 41)) = W := ⟨_, rfl⟩
  have hb_W0 : Below w.heap.size w W0 := by rw [← hW0]; exact ((((Below.refl _ _).alloc (Nat.le_refl _) _).alloc (by simp <;> omega) _).alloc (by simp <;> omega) _)
  have HB := hide hb_W0
  clear hb_W0
  have zz : w.heap.size < W0.heap.size := by rw [← hW0]; simp <;> omega
  have z0 : W0.cell? ⟨w.heap.size, 0, none⟩ = some (.int .i64 m.id) := by rw [← hW0]; simp [go_sem]
  have z1 : W0.cell? ⟨w.heap.size, 1, none⟩ = some (.int .i64 m.lim) := by rw [← hW0]; simp [go_sem]
  have z2 : W0.cell? ⟨w.heap.size, 2, none⟩ = some (.bool m.dr) := by rw [← hW0]; simp [go_sem]
  have z3 : W0.cell? ⟨w.heap.size, 3, none⟩ = some (.slice (some ⟨bc, fc, none⟩) m.c.length cc) := by rw [← hW0]; simp [go_sem]
  have z4 : W0.cell? ⟨w.heap.size, 4, none⟩ = some (.slice (some ⟨bt, ft, none⟩) m.t.length ct) := by rw [← hW0]; simp [go_sem]
  have fz0 : W0.frozen? ⟨w.heap.size, 0, none⟩ = false := by rw [← hW0]; simp [go_sem]
  have fz1 : W0.frozen? ⟨w.heap.size, 1, none⟩ = false := by rw [← hW0]; simp [go_sem]
  have fz2 : W0.frozen? ⟨w.heap.size, 2, none⟩ = false := by rw [← hW0]; simp [go_sem]
  have fz3 : W0.frozen? ⟨w.heap.size, 3, none⟩ = false := by rw [← hW0]; simp [go_sem]
  have fz4 : W0.frozen? ⟨w.heap.size, 4, none⟩ = false := by rw [← hW0]; simp [go_sem]
  have zk : w.heap.size + 1 < W0.heap.size := by rw [← hW0]; simp <;> omega
  have k0 : W0.cell? ⟨w.heap.size + 1, 0, none⟩ = some (.int .i64 a) := by rw [← hW0]; simp [go_sem]
  have k1 : W0.cell? ⟨w.heap.size + 1, 1, none⟩ = some (.int .i64 p) := by rw [← hW0]; simp [go_sem]
  have k2 : W0.cell? ⟨w.heap.size + 1, 2, none⟩ = some (.int .i64 f) := by rw [← hW0]; simp [go_sem]
  have k3 : W0.cell? ⟨w.heap.size + 1, 3, none⟩ = some (.int .i64 s) := by rw [← hW0]; simp [go_sem]
  have k4 : W0.cell? ⟨w.heap.size + 1, 4, none⟩ = some (.slice o n cp) := by rw [← hW0]; simp [go_sem]
  have zr : w.heap.size + 1 + 1 < W0.heap.size := by rw [← hW0]; simp
  have r0 : W0.cell? ⟨w.heap.size + 1 + 1, 0, none⟩ = some (.int .i64 0) := by rw [← hW0]; simp [go_sem]
  have r1 : W0.cell? ⟨w.heap.size + 1 + 1, 1, none⟩ = some (.int .i64 0) := by rw [← hW0]; simp [go_sem]
  have r2 : W0.cell? ⟨w.heap.size + 1 + 1, 2, none⟩ = some (.bool false) := by rw [← hW0]; simp [go_sem]
  have r3 : W0.cell? ⟨w.heap.size + 1 + 1, 3, none⟩ = some (.slice none 0 0) := by rw [← hW0]; simp [go_sem]
  have r4 : W0.cell? ⟨w.heap.size + 1 + 1, 4, none⟩ = some (.slice none 0 0) := by rw [← hW0]; simp [go_sem]
  have fr0 : W0.frozen? ⟨w.heap.size + 1 + 1, 0, none⟩ = false := by rw [← hW0]; simp [go_sem]
  have fr1 : W0.frozen? ⟨w.heap.size + 1 + 1, 1, none⟩ = false := by rw [← hW0]; simp [go_sem]
  have fr2 : W0.frozen? ⟨w.heap.size + 1 + 1, 2, none⟩ = false := by rw [← hW0]; simp [go_sem]
  have fr3 : W0.frozen? ⟨w.heap.size + 1 + 1, 3, none⟩ = false := by rw [← hW0]; simp [go_sem]
  have fr4 : W0.frozen? ⟨w.heap.size + 1 + 1, 4, none⟩ = false := by rw [← hW0]; simp [go_sem]
  have hz0 := zr
  by_cases hb12 : bits .and .i64 f 12 = 0
  · have HTC := hide (show takeC m.c now a p f s = putL m.c a p s (now + 50) by unfold takeC; rw [if_pos hb12])
    have HTT := hide (show takeT m.t now a p f = m.t by unfold takeT; rw [if_pos hb12])
    have H1 := hide (l5putW_any bc fc cc m.c a p s (now + 50) W0 hc0 (by omega) hfl (Nat.lt_of_lt_of_le zc HB.out.size) (HC.out.kept HB.out zc))
    have hpl := putL_length m.c a p s (now + 50)
    generalize putL m.c a p s (now + 50) = tl at *
    generalize decide (0 ≤ (endL m.c a p).1) = tb at *
    go_enter Tryz.func45, Tryz.ntmps45
    go_wp2_with fail
    refine (H1.out).mono ?_
    rintro e v1 ⟨b2, f2, c2, rfl, hz2, hrd, hb, hq⟩
    have HR := hide hrd
    have hs1 := hb.size
    clear hrd
    replace z0 := bC hb z0 zz
    replace z1 := bC hb z1 zz
    replace z2 := bC hb z2 zz
    replace z3 := bC hb z3 zz
    replace z4 := bC hb z4 zz
    replace fz0 := bF hb fz0 zz
    replace fz1 := bF hb fz1 zz
    replace fz2 := bF hb fz2 zz
    replace fz3 := bF hb fz3 zz
    replace fz4 := bF hb fz4 zz
    replace zz := Nat.lt_of_lt_of_le zz hb.size
    replace k0 := bC hb k0 zk
    replace k1 := bC hb k1 zk
    replace k2 := bC hb k2 zk
    replace k3 := bC hb k3 zk
    replace k4 := bC hb k4 zk
    replace zk := Nat.lt_of_lt_of_le zk hb.size
    replace r0 := bC hb r0 zr
    replace r1 := bC hb r1 zr
    replace r2 := bC hb r2 zr
    replace r3 := bC hb r3 zr
    replace r4 := bC hb r4 zr
    replace fr0 := bF hb fr0 zr
    replace fr1 := bF hb fr1 zr
    replace fr2 := bF hb fr2 zr
    replace fr3 := bF hb fr3 zr
    replace fr4 := bF hb fr4 zr
    replace zr := Nat.lt_of_lt_of_le zr hb.size
    replace HB := hide (HB.out.trans (hb.mono HB.out.size))
    clear hb
    have hqa : b2 < w.heap.size ∨ w.heap.size + 1 + 1 + 1 ≤ b2 := by omega
    clear H1 hW0
    have HT1 := hide (HT.out.kept HB.out zt)
    go_wp2
    refine bodyPost_ret (v := agt m.id m.lim m.dr (.slice (some ⟨b2, f2, none⟩) m.c.length c2) (.slice (some ⟨bt, ft, none⟩) m.t.length ct)) (by simp [results, Tryz.results45, go_sem, r0, r1, r2, r3, r4]) rfl ⟨b2, f2, c2, bt, ft, ct, rfl, by simp; omega, by simp; omega, ?_, ?_, ?_, by omega, .inl rfl⟩
    · rw [HTC.out]
      have hst : Stp w.heap.size (w.heap.size + 1 + 1 + 1) v1 _ := ((stp_set1 v1 w.heap.size 3 (.slice (some ⟨b2, f2, none⟩) m.c.length c2)).wide' (Nat.le_refl _) (by omega)).trans ((stp_set5v _ (w.heap.size + 1 + 1) (.int .i64 m.id) (.int .i64 m.lim) (.bool m.dr) (.slice (some ⟨b2, f2, none⟩) m.c.length c2) (.slice (some ⟨bt, ft, none⟩) m.t.length ct)).wide' (by omega) (Nat.le_refl _))
      exact Row.step HR.out hst hz2 hqa
    · rw [HTT.out]
      have hst : Stp w.heap.size (w.heap.size + 1 + 1 + 1) v1 _ := ((stp_set1 v1 w.heap.size 3 (.slice (some ⟨b2, f2, none⟩) m.c.length c2)).wide' (Nat.le_refl _) (by omega)).trans ((stp_set5v _ (w.heap.size + 1 + 1) (.int .i64 m.id) (.int .i64 m.lim) (.bool m.dr) (.slice (some ⟨b2, f2, none⟩) m.c.length c2) (.slice (some ⟨bt, ft, none⟩) m.t.length ct)).wide' (by omega) (Nat.le_refl _))
      exact Row.step HT1.out hst (by omega) (.inl zt)
    · exact below_set5v (HB.out.setCell (p := ⟨w.heap.size, 3, none⟩) (Nat.le_refl _) _) (by omega) _ _ _ _ _
  · have HTC := hide (show takeC m.c now a p f s = dropL m.c a p by unfold takeC; rw [if_neg hb12])
    have HTT := hide (show takeT m.t now a p f = putL m.t a p 0 (now + 20 + 1) by unfold takeT; rw [if_neg hb12])
    have H1 := hide (l5dropW_any bc fc cc m.c a p W0 hc0 hc16 hfl hok (Nat.lt_of_lt_of_le zc HB.out.size) (HC.out.kept HB.out zc))
    have hpl := dropL_length m.c a p
    obtain ⟨mc, hmc⟩ : ∃ q, dropL m.c a p = q := ⟨_, rfl⟩
    rw [hmc] at H1 hpl HTC
    generalize (endL m.c a p).2 = tb at *
    clear hmc
    go_enter Tryz.func45, Tryz.ntmps45
    go_wp2_with fail
    refine (H1.out).mono ?_
    rintro e v1 ⟨b2, f2, c2, rfl, hz2, hrd, hb, hq⟩
    have HR := hide hrd
    have hs1 := hb.size
    clear hrd
    replace z0 := bC hb z0 zz
    replace z1 := bC hb z1 zz
    replace z2 := bC hb z2 zz
    replace z3 := bC hb z3 zz
    replace z4 := bC hb z4 zz
    replace fz0 := bF hb fz0 zz
    replace fz1 := bF hb fz1 zz
    replace fz2 := bF hb fz2 zz
    replace fz3 := bF hb fz3 zz
    replace fz4 := bF hb fz4 zz
    replace zz := Nat.lt_of_lt_of_le zz hb.size
    replace k0 := bC hb k0 zk
    replace k1 := bC hb k1 zk
    replace k2 := bC hb k2 zk
    replace k3 := bC hb k3 zk
    replace k4 := bC hb k4 zk
    replace zk := Nat.lt_of_lt_of_le zk hb.size
    replace r0 := bC hb r0 zr
    replace r1 := bC hb r1 zr
    replace r2 := bC hb r2 zr
    replace r3 := bC hb r3 zr
    replace r4 := bC hb r4 zr
    replace fr0 := bF hb fr0 zr
    replace fr1 := bF hb fr1 zr
    replace fr2 := bF hb fr2 zr
    replace fr3 := bF hb fr3 zr
    replace fr4 := bF hb fr4 zr
    replace zr := Nat.lt_of_lt_of_le zr hb.size
    replace HB := hide (HB.out.trans (hb.mono HB.out.size))
    clear hb
    have hqa : b2 < w.heap.size ∨ w.heap.size + 1 + 1 + 1 ≤ b2 := by omega
    clear H1 hW0
    have HT1 := hide (HT.out.kept HB.out zt)
    go_wp2_with fail
    obtain ⟨W2, hW2⟩ : ∃ W, (v1.setCell ⟨w.heap.size, 3, none⟩ (.slice (some ⟨b2, f2, none⟩) m.c.length c2)) = W := ⟨_, rfl⟩
    have hst : Stp (w.heap.size) (w.heap.size + 1) v1 W2 := by rw [← hW2]; exact stp_set1 v1 (w.heap.size) 3 _
    rw [hW2]
    have z0' : W2.cell? ⟨w.heap.size, 0, none⟩ = some (.int .i64 m.id) := by rw [← hW2]; simp [go_sem, z0, z1, z2, z3, z4]
    have fz0' : W2.frozen? ⟨w.heap.size, 0, none⟩ = false := by rw [← hW2]; simp [go_sem, fz0, fz1, fz2, fz3, fz4]
    have z1' : W2.cell? ⟨w.heap.size, 1, none⟩ = some (.int .i64 m.lim) := by rw [← hW2]; simp [go_sem, z0, z1, z2, z3, z4]
    have fz1' : W2.frozen? ⟨w.heap.size, 1, none⟩ = false := by rw [← hW2]; simp [go_sem, fz0, fz1, fz2, fz3, fz4]
    have z2' : W2.cell? ⟨w.heap.size, 2, none⟩ = some (.bool m.dr) := by rw [← hW2]; simp [go_sem, z0, z1, z2, z3, z4]
    have fz2' : W2.frozen? ⟨w.heap.size, 2, none⟩ = false := by rw [← hW2]; simp [go_sem, fz0, fz1, fz2, fz3, fz4]
    have z3' : W2.cell? ⟨w.heap.size, 3, none⟩ = some (.slice (some ⟨b2, f2, none⟩) m.c.length c2) := by rw [← hW2]; simp [go_sem, z0, z1, z2, z3, z4]
    have fz3' : W2.frozen? ⟨w.heap.size, 3, none⟩ = false := by rw [← hW2]; simp [go_sem, fz0, fz1, fz2, fz3, fz4]
    have z4' : W2.cell? ⟨w.heap.size, 4, none⟩ = some (.slice (some ⟨bt, ft, none⟩) m.t.length ct) := by rw [← hW2]; simp [go_sem, z0, z1, z2, z3, z4]
    have fz4' : W2.frozen? ⟨w.heap.size, 4, none⟩ = false := by rw [← hW2]; simp [go_sem, fz0, fz1, fz2, fz3, fz4]
    replace z0 := z0'
    replace fz0 := fz0'
    replace z1 := z1'
    replace fz1 := fz1'
    replace z2 := z2'
    replace fz2 := fz2'
    replace z3 := z3'
    replace fz3 := fz3'
    replace z4 := z4'
    replace fz4 := fz4'
    replace zz : w.heap.size < W2.heap.size := Nat.lt_of_lt_of_le zz hst.size
    replace k0 : W2.cell? ⟨w.heap.size + 1, 0, none⟩ = some (.int .i64 a) := hst.cell k0 zk (by omega)
    replace k1 : W2.cell? ⟨w.heap.size + 1, 1, none⟩ = some (.int .i64 p) := hst.cell k1 zk (by omega)
    replace k2 : W2.cell? ⟨w.heap.size + 1, 2, none⟩ = some (.int .i64 f) := hst.cell k2 zk (by omega)
    replace k3 : W2.cell? ⟨w.heap.size + 1, 3, none⟩ = some (.int .i64 s) := hst.cell k3 zk (by omega)
    replace k4 : W2.cell? ⟨w.heap.size + 1, 4, none⟩ = some (.slice o n cp) := hst.cell k4 zk (by omega)
    replace zk : w.heap.size + 1 < W2.heap.size := Nat.lt_of_lt_of_le zk hst.size
    replace r0 : W2.cell? ⟨w.heap.size + 1 + 1, 0, none⟩ = some (.int .i64 0) := hst.cell r0 zr (by omega)
    replace r1 : W2.cell? ⟨w.heap.size + 1 + 1, 1, none⟩ = some (.int .i64 0) := hst.cell r1 zr (by omega)
    replace r2 : W2.cell? ⟨w.heap.size + 1 + 1, 2, none⟩ = some (.bool false) := hst.cell r2 zr (by omega)
    replace r3 : W2.cell? ⟨w.heap.size + 1 + 1, 3, none⟩ = some (.slice none 0 0) := hst.cell r3 zr (by omega)
    replace r4 : W2.cell? ⟨w.heap.size + 1 + 1, 4, none⟩ = some (.slice none 0 0) := hst.cell r4 zr (by omega)
    replace fr0 : W2.frozen? ⟨w.heap.size + 1 + 1, 0, none⟩ = false := hst.frozen fr0 zr (by omega)
    replace fr1 : W2.frozen? ⟨w.heap.size + 1 + 1, 1, none⟩ = false := hst.frozen fr1 zr (by omega)
    replace fr2 : W2.frozen? ⟨w.heap.size + 1 + 1, 2, none⟩ = false := hst.frozen fr2 zr (by omega)
    replace fr3 : W2.frozen? ⟨w.heap.size + 1 + 1, 3, none⟩ = false := hst.frozen fr3 zr (by omega)
    replace fr4 : W2.frozen? ⟨w.heap.size + 1 + 1, 4, none⟩ = false := hst.frozen fr4 zr (by omega)
    replace zr : w.heap.size + 1 + 1 < W2.heap.size := Nat.lt_of_lt_of_le zr hst.size
    have HR2 := hide (Row.step HR.out hst hz2 (by omega))
    have HT2 := hide (Row.step HT1.out hst (by omega) (by omega))
    have hs2 := hst.size
    replace HB := hide (HB.out.trans (hst.below (by omega) HB.out.size))
    clear hst
    have H3 := hide (l6tomb_any ⟨m.id, m.lim, m.dr, mc, m.t⟩ b2 f2 c2 bt ft ct now a p W2 hn0 hn1 hfl (by simp only; omega) (by simp only; omega) ht0 ht16 (by omega) (by omega) HR2.out HT2.out)
    simp only [hpl] at H3
    generalize decide (0 ≤ (endL m.t a p).1) = tb2 at *
    have hpl2 := putL_length m.t a p 0 (now + 20 + 1)
    generalize putL m.t a p 0 (now + 20 + 1) = tl at *
    refine (H3.out).mono ?_
    rintro e v2 ⟨b3, f3, c3, rfl, hz3, hrd, hb, hq3⟩
    have HR3 := hide (Row.kept HR2.out hb (by omega))
    have HS3 := hide hrd
    have hs3 := hb.size
    clear hrd
    replace z0 := bC hb z0 zz
    replace z1 := bC hb z1 zz
    replace z2 := bC hb z2 zz
    replace z3 := bC hb z3 zz
    replace z4 := bC hb z4 zz
    replace fz0 := bF hb fz0 zz
    replace fz1 := bF hb fz1 zz
    replace fz2 := bF hb fz2 zz
    replace fz3 := bF hb fz3 zz
    replace fz4 := bF hb fz4 zz
    replace zz := Nat.lt_of_lt_of_le zz hb.size
    replace k0 := bC hb k0 zk
    replace k1 := bC hb k1 zk
    replace k2 := bC hb k2 zk
    replace k3 := bC hb k3 zk
    replace k4 := bC hb k4 zk
    replace zk := Nat.lt_of_lt_of_le zk hb.size
    replace r0 := bC hb r0 zr
    replace r1 := bC hb r1 zr
    replace r2 := bC hb r2 zr
    replace r3 := bC hb r3 zr
    replace r4 := bC hb r4 zr
    replace fr0 := bF hb fr0 zr
    replace fr1 := bF hb fr1 zr
    replace fr2 := bF hb fr2 zr
    replace fr3 := bF hb fr3 zr
    replace fr4 := bF hb fr4 zr
    replace zr := Nat.lt_of_lt_of_le zr hb.size
    replace HB := hide (HB.out.trans (hb.mono HB.out.size))
    clear hb
    have hqb : b3 < w.heap.size ∨ w.heap.size + 1 + 1 + 1 ≤ b3 := by omega
    clear H3 hW2
    go_wp2
    refine bodyPost_ret (v := agt m.id m.lim m.dr (.slice (some ⟨b2, f2, none⟩) m.c.length c2) (.slice (some ⟨b3, f3, none⟩) m.t.length c3)) (by simp [results, Tryz.results45, go_sem, r0, r1, r2, r3, r4]) rfl ⟨b2, f2, c2, b3, f3, c3, rfl, by simp; omega, by simp; omega, ?_, ?_, ?_, by omega, by omega⟩
    · rw [HTC.out]
      have hst : Stp w.heap.size (w.heap.size + 1 + 1 + 1) v2 _ := ((stp_set5v v2 w.heap.size (.int .i64 m.id) (.int .i64 m.lim) (.bool m.dr) (.slice (some ⟨b2, f2, none⟩) m.c.length c2) (.slice (some ⟨b3, f3, none⟩) m.t.length c3)).wide' (Nat.le_refl _) (by omega)).trans ((stp_set5v _ (w.heap.size + 1 + 1) (.int .i64 m.id) (.int .i64 m.lim) (.bool m.dr) (.slice (some ⟨b2, f2, none⟩) m.c.length c2) (.slice (some ⟨b3, f3, none⟩) m.t.length c3)).wide' (by omega) (Nat.le_refl _))
      exact Row.step HR3.out hst (by omega) hqa
    · rw [HTT.out]
      have hst : Stp w.heap.size (w.heap.size + 1 + 1 + 1) v2 _ := ((stp_set5v v2 w.heap.size (.int .i64 m.id) (.int .i64 m.lim) (.bool m.dr) (.slice (some ⟨b2, f2, none⟩) m.c.length c2) (.slice (some ⟨b3, f3, none⟩) m.t.length c3)).wide' (Nat.le_refl _) (by omega)).trans ((stp_set5v _ (w.heap.size + 1 + 1) (.int .i64 m.id) (.int .i64 m.lim) (.bool m.dr) (.slice (some ⟨b2, f2, none⟩) m.c.length c2) (.slice (some ⟨b3, f3, none⟩) m.t.length c3)).wide' (by omega) (Nat.le_refl _))
      exact Row.step HS3.out hst hz3 hqb
    · exact below_set5v (below_set5v HB.out (Nat.le_refl _) _ _ _ _ _) (by omega) _ _ _ _ _

end Go.Proofs.YtmkgbmmibjgeaaaGreat

