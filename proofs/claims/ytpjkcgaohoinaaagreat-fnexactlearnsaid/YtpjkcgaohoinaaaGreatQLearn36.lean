/- Several texts in one: SDropI, SDropS. -/
import Derived.Deep.LoopGhost
import Derived.Test.YtpjkcgaohoinaaaGreatQLearn32
import Derived.Test.YtpjkcgaohoinaaaGreatQLearn09
namespace Go.Proofs.YtpjkcgaohoinaaaGreat
open Go.ChangeShapes Go.WideShapes Go.ChangeAt Go.RowKit Go.Joins
set_option linter.unusedVariables false
set_option linter.unusedSimpArgs false

theorem rd_row {e : TypeId} {w : World} {base g n c : Nat} {m : List Sl} (h : w.ownsRow base e 5 (.slice (some ⟨g, 0, none⟩) n c) n (m.flatMap layS.cs)) (hn : n = m.length) (i : Nat) (hi : i < n) :
  w.cell? ⟨g, i * 5, none⟩ = some (.bool (m.getD i sl0).u) ∧ w.cell? ⟨g, i * 5 + 1, none⟩ = some (.int .i64 (m.getD i sl0).a) ∧ w.cell? ⟨g, i * 5 + 2, none⟩ = some (.int .i64 (m.getD i sl0).p) ∧ w.cell? ⟨g, i * 5 + 3, none⟩ = some (.int .i64 (m.getD i sl0).v) ∧ w.cell? ⟨g, i * 5 + 4, none⟩ = some (.int .i64 (m.getD i sl0).t) := by
 have h1 := rd_of_own h hn
 have h2 := RdL.slot (C := w.heap.size) h1 i (by omega)
 simpa only [Nat.zero_add] using h2
set_option maxHeartbeats 8000000 in
theorem dropAt_any (g c base n i0 : Nat) (l : List Sl) (w : World) (hn : l.length = n) (h16 : n ≤ 16) (hi0 : i0 < n) (hok : flowsOk l) (ho : w.ownsRow base CellT 5 (.slice (some ⟨g, 0, none⟩) n c) n (l.flatMap layS.cs)) :
  Calls Tryz.prog 68 #[tab (.slice (some ⟨g, 0, none⟩) n c), .int .i64 i0] w fun e w' => (∃ v, e = .returned v) ∧ w'.ownsRow base CellT 5 (.slice (some ⟨g, 0, none⟩) n c) n ((dropAtL l i0).flatMap layS.cs) ∧ Stp g (g + 1) w w' := by
 have hgw := (ho.lt g rfl).2
 have HO := hide ho
 clear ho
 obtain ⟨W0, hW0⟩ : ∃ W, (w.alloc (.cells #[.slice (some ⟨g, 0, none⟩) n c] 72)) = W := ⟨_, rfl⟩
 have hb_W0 : Below w.heap.size w W0 := by rw [← hW0]; exact ((Below.refl _ _).alloc (Nat.le_refl _) _)
 replace HO := hide (own_kept HO.out hb_W0)
 have HB := hide hb_W0
 clear hb_W0
 have zct : w.heap.size < W0.heap.size := by rw [← hW0]; simp
 have ct0 : W0.cell? ⟨w.heap.size, 0, none⟩ = some (.slice (some ⟨g, 0, none⟩) n c) := by rw [← hW0]; simp [go_sem]
 have ho : W0.ownsRow base CellT 5 (.slice (some ⟨g, 0, none⟩) n c) n (l.flatMap layS.cs) := HO.out
 have hln : (l.flatMap layS.cs).length = n * 5 := by rw [flat_length, hn]; rfl
 obtain ⟨u0, hu0⟩ : ∃ u, W0.cell? ⟨g, i0 * 5, none⟩ = some u := ⟨_, (ho.cellAt (i0 * 5) (by omega)).trans (List.getElem?_eq_getElem (by omega))⟩
 have fu0 := ho.frozenAt (i0 * 5)
 obtain ⟨u1, hu1⟩ : ∃ u, W0.cell? ⟨g, i0 * 5 + 1, none⟩ = some u := ⟨_, (ho.cellAt (i0 * 5 + 1) (by omega)).trans (List.getElem?_eq_getElem (by omega))⟩
 have fu1 := ho.frozenAt (i0 * 5 + 1)
 obtain ⟨u2, hu2⟩ : ∃ u, W0.cell? ⟨g, i0 * 5 + 2, none⟩ = some u := ⟨_, (ho.cellAt (i0 * 5 + 2) (by omega)).trans (List.getElem?_eq_getElem (by omega))⟩
 have fu2 := ho.frozenAt (i0 * 5 + 2)
 obtain ⟨u3, hu3⟩ : ∃ u, W0.cell? ⟨g, i0 * 5 + 3, none⟩ = some u := ⟨_, (ho.cellAt (i0 * 5 + 3) (by omega)).trans (List.getElem?_eq_getElem (by omega))⟩
 have fu3 := ho.frozenAt (i0 * 5 + 3)
 obtain ⟨u4, hu4⟩ : ∃ u, W0.cell? ⟨g, i0 * 5 + 4, none⟩ = some u := ⟨_, (ho.cellAt (i0 * 5 + 4) (by omega)).trans (List.getElem?_eq_getElem (by omega))⟩
 have fu4 := ho.frozenAt (i0 * 5 + 4)
 obtain ⟨W1, hW1⟩ : ∃ W, (((((W0.setCell ⟨g, i0 * 5, none⟩ (.bool false)).setCell ⟨g, i0 * 5 + 1, none⟩ (.int .i64 0)).setCell ⟨g, i0 * 5 + 2, none⟩ (.int .i64 0)).setCell ⟨g, i0 * 5 + 3, none⟩ (.int .i64 0)).setCell ⟨g, i0 * 5 + 4, none⟩ (.int .i64 0)) = W := ⟨_, rfl⟩
 have HO1 : Hid (W1.ownsRow base CellT 5 (.slice (some ⟨g, 0, none⟩) n c) n ((l.set i0 sl0).flatMap layS.cs)) := by rw [← hW1]; exact (stored5 (k := i0) sl0 (Nat.le_refl g) ho (Below.refl g W0)).1
 have HSt1 : Hid (Stp g (g + 1) W0 W1) := by rw [← hW1]; exact stp_set5 W0 g i0 sl0
 have hgz : g < W0.heap.size := (ho.lt g rfl).2
 have ct1 : W1.cell? ⟨w.heap.size, 0, none⟩ = some (.slice (some ⟨g, 0, none⟩) n c) := HSt1.out.cell ct0 zct (.inr (by omega))
 have zct1 : w.heap.size < W1.heap.size := Nat.lt_of_lt_of_le zct HSt1.out.size
 have i1 : (i0 : Int) < (n : Int) := by omega
 have HInv0 := hide (DropInv.start (l := l) (i := i0) (by omega) (by omega) hok)
 rw [hn] at HInv0
 clear ho hln hok
 go_enter Tryz.func68, Tryz.ntmps68
 go_wp2_with fail
 refine (behind_any (some ⟨g, 0, none⟩) n c i0 W1 (by omega) (by omega) hi0).mono ?_
 rintro e W2 ⟨rfl, hb2⟩
 have HO2 := hide (own_kept HO1.out hb2)
 have ct2 : W2.cell? ⟨w.heap.size, 0, none⟩ = some (.slice (some ⟨g, 0, none⟩) n c) := (hb2.cell (p := ⟨w.heap.size, 0, none⟩) zct1).trans ct1
 have HSt2 := hide ((Stp.of (lo := g) (hi := g + 1) HB.out).trans (HSt1.out.trans (Stp.of hb2)))
 have zct2 : w.heap.size < W2.heap.size := Nat.lt_of_lt_of_le zct1 hb2.size
 clear hb2 hu0 fu0 hu1 fu1 hu2 fu2 hu3 fu3 hu4 fu4 hW1 ct0 ct1 HO HO1 HSt1
 go_wp2
 go_loopg [1, 4] (meas (l.set i0 sl0) i0 ((i0 + 1) % n)) (fun gk hv kv wr => ∃ (m : List Sl) (i k : Nat), hv = .int .i64 i ∧ kv = .int .i64 k ∧ Hid (DropInv n (dropAtL l i0) gk m i k) ∧ Hid (wr.ownsRow base CellT 5 (.slice (some ⟨g, 0, none⟩) n c) n (m.flatMap layS.cs)) ∧ Hid (wr.cell? ⟨w.heap.size, 0, none⟩ = some (.slice (some ⟨g, 0, none⟩) n c)) ∧ w.heap.size < wr.heap.size ∧ Hid (Stp g (g + 1) w wr))
 case atStart => exact ⟨_, i0, (i0 + 1) % n, rfl, by simp, HInv0, HO2, ct2, zct2, HSt2⟩
 case round =>
  obtain ⟨m, i, k, rfl, rfl, HI, HO, HC, zct, HSt⟩ := hrel
  clear HInv0 HO2 ct2 zct2 HSt2 HB
  have hml := HI.out.len
  have hik := HI.out.hi
  have hkk := HI.out.hk
  have ho : wr.ownsRow base CellT 5 (.slice (some ⟨g, 0, none⟩) n c) n (m.flatMap layS.cs) := HO.out
  have ct0 := HC.out
  have hgr : g < wr.heap.size := (ho.lt g rfl).2
  obtain ⟨s, hxy⟩ : ∃ s, m.getD k sl0 = s := ⟨_, rfl⟩
  have hrk := rd_row ho hml.symm k hkk
  rw [hxy] at hrk
  have e0 := hrk.1
  have e1 := hrk.2.1
  have e2 := hrk.2.2.1
  have e3 := hrk.2.2.2.1
  have e4 := hrk.2.2.2.2
  have hk1 : (k : Int) < (n : Int) := by omega
  have hi1 : (i : Int) < (n : Int) := by omega
  have HX := hide hxy
  clear hrk hxy
  obtain ⟨su, sa, sp, sv, st⟩ := s
  simp only at e0 e1 e2 e3 e4
  cases su with
  | false =>
   have HD := hide (HI.out.done (by rw [HX.out]))
   clear ho
   go_wp2
   go_end0
   exact ⟨⟨_, rfl⟩, by rw [← HD.out]; exact HO.out, HSt.out⟩
  | true =>
  have hfo : flowOkB sa sp = true := by have h := HI.out.ok k (by omega) (by rw [HX.out]); rw [HX.out] at h; exact h
  have hne : i ≠ k := fun e => by have h := HI.out.free; rw [e, HX.out] at h; cases h
  obtain ⟨W3, hW3⟩ : ∃ W, wr.alloc (.cells #[.bool true, .int .i64 sa, .int .i64 sp, .int .i64 sv, .int .i64 st] 164) = W := ⟨_, rfl⟩
  have hb3 : Below wr.heap.size wr W3 := by rw [← hW3]; exact (Below.refl _ _).alloc (Nat.le_refl _) _
  have ct3 : W3.cell? ⟨w.heap.size, 0, none⟩ = some (.slice (some ⟨g, 0, none⟩) n c) := (hb3.cell (p := ⟨w.heap.size, 0, none⟩) zct).trans ct0
  have zct3 : w.heap.size < W3.heap.size := Nat.lt_of_lt_of_le zct hb3.size
  have zs3 : wr.heap.size < W3.heap.size := by rw [← hW3]; simp
  have s0 : W3.cell? ⟨wr.heap.size, 0, none⟩ = some (.bool true) := by rw [← hW3]; simp [go_sem]
  have s1 : W3.cell? ⟨wr.heap.size, 1, none⟩ = some (.int .i64 sa) := by rw [← hW3]; simp [go_sem]
  have s2 : W3.cell? ⟨wr.heap.size, 2, none⟩ = some (.int .i64 sp) := by rw [← hW3]; simp [go_sem]
  have s3 : W3.cell? ⟨wr.heap.size, 3, none⟩ = some (.int .i64 sv) := by rw [← hW3]; simp [go_sem]
  have s4 : W3.cell? ⟨wr.heap.size, 4, none⟩ = some (.int .i64 st) := by rw [← hW3]; simp [go_sem]
  have HO3 := hide (own_kept ho hb3)
  have HSt3 := hide (HSt.out.trans (Stp.of hb3))
  clear hb3
  have G0 := Grown.cell ct3 zct3
  have G1 := Grown.cell s1 zs3
  have G2 := Grown.cell s2 zs3
  have hhl := homeN_lt (show 0 < n by omega) sa sp
  have hA := fun (P : Grown W3) => grown_of P (home_any (some ⟨g, 0, none⟩) n c sa sp P.v (by omega) (by omega) hfo)
  have hmvx : moves n m i k = decide (farN n i k ≤ farN n (homeN n sa sp) k) := by unfold moves; rw [HX.out]
  have HMv := hide hmvx
  clear hmvx
  generalize homeN n sa sp = hm at *
  have hB := fun (P : Grown W3) => grown_of P (far_any (some ⟨g, 0, none⟩) n c hm k P.v (by omega) hhl hkk)
  have hC := fun (P : Grown W3) => grown_of P (far_any (some ⟨g, 0, none⟩) n c i k P.v (by omega) hik hkk)
  generalize farN n hm k = d1 at *
  generalize farN n i k = d2 at *
  by_cases hmv : (d2 : Int) ≤ (d1 : Int)
  ·skip
   have HNx := hide (HI.out.move (by rw [HX.out]) (by rw [HMv.out]; exact decide_eq_true (by omega)))
   rw [HX.out] at HNx
   clear ho
   have Gs0 := Grown.cell s0 zs3
   have Gs1 := Grown.cell s1 zs3
   have Gs2 := Grown.cell s2 zs3
   have Gs3 := Grown.cell s3 zs3
   have Gs4 := Grown.cell s4 zs3
   go_wp2
   (refine wp_region_grown (by kernel_rfl) (by kernel_rfl) ?_; intro hne9; (repeat (go_big_quiet_step ((first | (go_at_call 109; exact hA _) | (go_at_call 108; first | with_reducible exact hB _ | with_reducible exact hC _))))); (with_reducible refine wpQuiet_nil ?_); intro _ hw9; obtain ⟨pq, hw8⟩ := hw9; subst hw8)
   have ho : pq.v.ownsRow base CellT 5 (.slice (some ⟨g, 0, none⟩) n c) n (m.flatMap layS.cs) := own_kept HO3.out pq.b
   have cp0 : pq.v.cell? ⟨w.heap.size, 0, none⟩ = some (.slice (some ⟨g, 0, none⟩) n c) := G0 pq
   have zp : w.heap.size < pq.v.heap.size := Nat.lt_of_lt_of_le zct3 pq.b.size
   have HStp := hide (HSt3.out.trans (Stp.of pq.b))
   have sp0 : pq.v.cell? ⟨wr.heap.size, 0, none⟩ = some (.bool true) := Gs0 pq
   have sp1 : pq.v.cell? ⟨wr.heap.size, 1, none⟩ = some (.int .i64 sa) := Gs1 pq
   have sp2 : pq.v.cell? ⟨wr.heap.size, 2, none⟩ = some (.int .i64 sp) := Gs2 pq
   have sp3 : pq.v.cell? ⟨wr.heap.size, 3, none⟩ = some (.int .i64 sv) := Gs3 pq
   have sp4 : pq.v.cell? ⟨wr.heap.size, 4, none⟩ = some (.int .i64 st) := Gs4 pq
   have hln : (m.flatMap layS.cs).length = n * 5 := by rw [flat_length, hml]; rfl
   obtain ⟨u0, hu0⟩ : ∃ u, pq.v.cell? ⟨g, i * 5, none⟩ = some u := ⟨_, (ho.cellAt (i * 5) (by omega)).trans (List.getElem?_eq_getElem (by omega))⟩
   have fu0 := ho.frozenAt (i * 5)
   obtain ⟨u1, hu1⟩ : ∃ u, pq.v.cell? ⟨g, i * 5 + 1, none⟩ = some u := ⟨_, (ho.cellAt (i * 5 + 1) (by omega)).trans (List.getElem?_eq_getElem (by omega))⟩
   have fu1 := ho.frozenAt (i * 5 + 1)
   obtain ⟨u2, hu2⟩ : ∃ u, pq.v.cell? ⟨g, i * 5 + 2, none⟩ = some u := ⟨_, (ho.cellAt (i * 5 + 2) (by omega)).trans (List.getElem?_eq_getElem (by omega))⟩
   have fu2 := ho.frozenAt (i * 5 + 2)
   obtain ⟨u3, hu3⟩ : ∃ u, pq.v.cell? ⟨g, i * 5 + 3, none⟩ = some u := ⟨_, (ho.cellAt (i * 5 + 3) (by omega)).trans (List.getElem?_eq_getElem (by omega))⟩
   have fu3 := ho.frozenAt (i * 5 + 3)
   obtain ⟨u4, hu4⟩ : ∃ u, pq.v.cell? ⟨g, i * 5 + 4, none⟩ = some u := ⟨_, (ho.cellAt (i * 5 + 4) (by omega)).trans (List.getElem?_eq_getElem (by omega))⟩
   have fu4 := ho.frozenAt (i * 5 + 4)
   obtain ⟨W4, hW4⟩ : ∃ W, (((((pq.v.setCell ⟨g, i * 5, none⟩ (.bool true)).setCell ⟨g, i * 5 + 1, none⟩ (.int .i64 sa)).setCell ⟨g, i * 5 + 2, none⟩ (.int .i64 sp)).setCell ⟨g, i * 5 + 3, none⟩ (.int .i64 sv)).setCell ⟨g, i * 5 + 4, none⟩ (.int .i64 st)) = W := ⟨_, rfl⟩
   have ho4 : W4.ownsRow base CellT 5 (.slice (some ⟨g, 0, none⟩) n c) n ((m.set i ⟨true, sa, sp, sv, st⟩).flatMap layS.cs) := by rw [← hW4]; exact (stored5 (k := i) ⟨true, sa, sp, sv, st⟩ (Nat.le_refl g) ho (Below.refl g pq.v)).1
   have HSt4 : Hid (Stp g (g + 1) pq.v W4) := by rw [← hW4]; exact stp_set5 pq.v g i ⟨true, sa, sp, sv, st⟩
   have hln4 : ((m.set i ⟨true, sa, sp, sv, st⟩).flatMap layS.cs).length = n * 5 := by rw [flat_length, List.length_set, hml]; rfl
   obtain ⟨y0, hy0⟩ : ∃ u, W4.cell? ⟨g, k * 5, none⟩ = some u := ⟨_, (ho4.cellAt (k * 5) (by omega)).trans (List.getElem?_eq_getElem (by omega))⟩
   have fy0 := ho4.frozenAt (k * 5)
   obtain ⟨y1, hy1⟩ : ∃ u, W4.cell? ⟨g, k * 5 + 1, none⟩ = some u := ⟨_, (ho4.cellAt (k * 5 + 1) (by omega)).trans (List.getElem?_eq_getElem (by omega))⟩
   have fy1 := ho4.frozenAt (k * 5 + 1)
   obtain ⟨y2, hy2⟩ : ∃ u, W4.cell? ⟨g, k * 5 + 2, none⟩ = some u := ⟨_, (ho4.cellAt (k * 5 + 2) (by omega)).trans (List.getElem?_eq_getElem (by omega))⟩
   have fy2 := ho4.frozenAt (k * 5 + 2)
   obtain ⟨y3, hy3⟩ : ∃ u, W4.cell? ⟨g, k * 5 + 3, none⟩ = some u := ⟨_, (ho4.cellAt (k * 5 + 3) (by omega)).trans (List.getElem?_eq_getElem (by omega))⟩
   have fy3 := ho4.frozenAt (k * 5 + 3)
   obtain ⟨y4, hy4⟩ : ∃ u, W4.cell? ⟨g, k * 5 + 4, none⟩ = some u := ⟨_, (ho4.cellAt (k * 5 + 4) (by omega)).trans (List.getElem?_eq_getElem (by omega))⟩
   have fy4 := ho4.frozenAt (k * 5 + 4)
   obtain ⟨W5, hW5⟩ : ∃ W, (((((W4.setCell ⟨g, k * 5, none⟩ (.bool false)).setCell ⟨g, k * 5 + 1, none⟩ (.int .i64 0)).setCell ⟨g, k * 5 + 2, none⟩ (.int .i64 0)).setCell ⟨g, k * 5 + 3, none⟩ (.int .i64 0)).setCell ⟨g, k * 5 + 4, none⟩ (.int .i64 0)) = W := ⟨_, rfl⟩
   have HO5 : Hid (W5.ownsRow base CellT 5 (.slice (some ⟨g, 0, none⟩) n c) n (((m.set i ⟨true, sa, sp, sv, st⟩).set k sl0).flatMap layS.cs)) := by rw [← hW5]; exact (stored5 (k := k) sl0 (Nat.le_refl g) ho4 (Below.refl g W4)).1
   have HSt5 : Hid (Stp g (g + 1) W4 W5) := by rw [← hW5]; exact stp_set5 W4 g k sl0
   have HStA := hide (HSt4.out.trans HSt5.out)
   have hgp : g < w.heap.size := hgw
   have cp4 : W4.cell? ⟨w.heap.size, 0, none⟩ = some (.slice (some ⟨g, 0, none⟩) n c) := HSt4.out.cell cp0 zp (.inr (by omega))
   have cp5 : W5.cell? ⟨w.heap.size, 0, none⟩ = some (.slice (some ⟨g, 0, none⟩) n c) := HStA.out.cell cp0 zp (.inr (by omega))
   have zp5 : w.heap.size < W5.heap.size := Nat.lt_of_lt_of_le zp HStA.out.size
   clear ho ho4 hln hln4 G0 G1 G2 hA hB hC Gs0 Gs1 Gs2 Gs3 Gs4
   go_wp2
   go_region
   go_wp2_with fail
   refine (behind_any (some ⟨g, 0, none⟩) n c k _ (by omega) (by omega) hkk).mono ?_
   rintro e W6 ⟨rfl, hb6⟩
   have HO6 : Hid (W6.ownsRow base CellT 5 (.slice (some ⟨g, 0, none⟩) n c) n (((m.set i ⟨true, sa, sp, sv, st⟩).set k sl0).flatMap layS.cs)) := own_kept (show World.ownsRow W5.drew _ _ _ _ _ _ from HO5.out) hb6
   have HC6 : Hid (W6.cell? ⟨w.heap.size, 0, none⟩ = some (.slice (some ⟨g, 0, none⟩) n c)) := (hb6.cell (p := ⟨w.heap.size, 0, none⟩) zp5).trans cp5
   have zc6 : w.heap.size < W6.heap.size := Nat.lt_of_lt_of_le zp5 hb6.size
   have HSt6 := hide (HStp.out.trans ((HStA.out.drew).trans (Stp.of hb6)))
   clear hb6 hu0 fu0 hy0 fy0 sp0 hu1 fu1 hy1 fy1 sp1 hu2 fu2 hy2 fy2 sp2 hu3 fu3 hy3 fy3 sp3 hu4 fu4 hy4 fy4 sp4
   go_wp2
   go_roundg (gk - 1)
   case measure => have := HNx.out.1; omega
   case rel => exact ⟨_, k, (k + 1) % n, rfl, by simp, HNx.out.2, HO6, HC6, zc6, HSt6⟩
  ·skip
   have HNx := hide (HI.out.stay (by rw [HX.out]) (by rw [HMv.out]; exact decide_eq_false (by omega)))
   have hmv' : decide (d2 ≤ d1) = false := decide_eq_false (by omega)
   have hmv2 : decide ((d2 : Int) ≤ (d1 : Int)) = false := decide_eq_false hmv
   clear ho
   go_wp2
   (refine wp_region_grown (by kernel_rfl) (by kernel_rfl) ?_; intro hne9; (repeat (go_big_quiet_step ((first | (go_at_call 109; exact hA _) | (go_at_call 108; first | with_reducible exact hB _ | with_reducible exact hC _))))); (with_reducible refine wpQuiet_nil ?_); intro _ hw9; obtain ⟨pq, hw8⟩ := hw9; subst hw8)
   have HOp := hide (own_kept HO3.out pq.b)
   have cp0 : pq.v.cell? ⟨w.heap.size, 0, none⟩ = some (.slice (some ⟨g, 0, none⟩) n c) := G0 pq
   have zp : w.heap.size < pq.v.heap.size := Nat.lt_of_lt_of_le zct3 pq.b.size
   have HStp := hide (HSt3.out.trans (Stp.of pq.b))
   clear G0 G1 G2 hA hB hC
   go_wp2_with fail
   refine (behind_any (some ⟨g, 0, none⟩) n c k _ (by omega) (by omega) hkk).mono ?_
   rintro e W6 ⟨rfl, hb6⟩
   have HO6 : Hid (W6.ownsRow base CellT 5 (.slice (some ⟨g, 0, none⟩) n c) n (m.flatMap layS.cs)) := own_kept HOp.out hb6
   have HC6 : Hid (W6.cell? ⟨w.heap.size, 0, none⟩ = some (.slice (some ⟨g, 0, none⟩) n c)) := (hb6.cell (p := ⟨w.heap.size, 0, none⟩) zp).trans cp0
   have zc6 : w.heap.size < W6.heap.size := Nat.lt_of_lt_of_le zp hb6.size
   have HSt6 := hide (HStp.out.trans (Stp.of hb6))
   clear hb6 cp0
   go_wp2
   go_roundg (gk - 1)
   case measure => have := HNx.out.1; omega
   case rel => exact ⟨m, i, (k + 1) % n, rfl, by simp, HNx.out.2, HO6, HC6, zc6, HSt6⟩

end Go.Proofs.YtpjkcgaohoinaaaGreat

namespace Go.Proofs.YtpjkcgaohoinaaaGreat
open Go.ChangeShapes Go.WideShapes Go.ChangeAt Go.RowKit Go.Joins
set_option linter.unusedVariables false
set_option linter.unusedSimpArgs false

set_option maxHeartbeats 8000000 in
theorem l5dropW_any (b off c : Nat) (l : List Sl) (a p : Int) (w : World) (hn : 0 < l.length) (h16 : l.length ≤ 16) (hf : flowOkB a p = true) (hok : flowsOk l) (hbl : b < w.heap.size) (hc : ∀ i, i < l.length → ∀ j, j < layS.k → w.cell? ⟨b, off + i * layS.k + j, none⟩ = (layS.cs (l.getD i layS.d))[j]?) :
  Calls Tryz.prog 56 #[tab (.slice (some ⟨b, off, none⟩) l.length c), flow a p] w fun e w' => ∃ b' off' c', e = .returned (.tuple #[tab (.slice (some ⟨b', off', none⟩) l.length c'), .bool (endL l a p).2]) ∧ b' < w'.heap.size ∧ (∀ i, i < (dropL l a p).length → ∀ j, j < layS.k → w'.cell? ⟨b', off' + i * layS.k + j, none⟩ = (layS.cs ((dropL l a p).getD i layS.d))[j]?) ∧ Below w.heap.size w w' ∧ (b' = b ∨ w.heap.size ≤ b') := by
 have HC := hide hc
 have hl : l.length ≤ 1048576 := by omega
 clear hc
 obtain ⟨W0, hW0⟩ : ∃ W, (((w.alloc (.cells #[.slice (some ⟨b, off, none⟩) l.length c] 45)).alloc (.cells #[.int .i64 a, .int .i64 p] 51)).alloc (.cells #[.slice none 0 0] 45)) = W := ⟨_, rfl⟩
 have hb_W0 : Below w.heap.size w W0 := by rw [← hW0]; exact ((((Below.refl _ _).alloc (Nat.le_refl _) _).alloc (by simp <;> omega) _).alloc (by simp <;> omega) _)
 have HB := hide hb_W0
 clear hb_W0
 have zct : w.heap.size < W0.heap.size := by rw [← hW0]; simp <;> omega
 have ct0 : W0.cell? ⟨w.heap.size, 0, none⟩ = some (.slice (some ⟨b, off, none⟩) l.length c) := by rw [← hW0]; simp [go_sem]
 have zcf : w.heap.size + 1 < W0.heap.size := by rw [← hW0]; simp <;> omega
 have cf0 : W0.cell? ⟨w.heap.size + 1, 0, none⟩ = some (.int .i64 a) := by rw [← hW0]; simp [go_sem]
 have cf1 : W0.cell? ⟨w.heap.size + 1, 1, none⟩ = some (.int .i64 p) := by rw [← hW0]; simp [go_sem]
 have zcr : w.heap.size + 1 + 1 < W0.heap.size := by rw [← hW0]; simp
 have cr0 : W0.cell? ⟨w.heap.size + 1 + 1, 0, none⟩ = some (.slice none 0 0) := by rw [← hW0]; simp [go_sem]
 have fcr0 : W0.frozen? ⟨w.heap.size + 1 + 1, 0, none⟩ = false := by rw [← hW0]; simp [go_sem]
 have hat := l5at_any (some ⟨b, off, none⟩) c l a p W0 (.inr ⟨b, off, rfl, Nat.lt_of_lt_of_le hbl HB.out.size, (fun i hi j hj => (HB.out.cell (p := ⟨b, off + i * layS.k + j, none⟩) hbl).trans (HC.out i hi j hj))⟩) hn hl hf
 have HZ := hide zcr
 rcases endL_cases l hn a p with hE | ⟨i0, hi0, ⟨hE, _⟩ | ⟨hE, _⟩⟩
 ·skip
  have HP := hide (dropL_no (l := l) (a := a) (p := p) (by rw [hE]))
  have HD := hide (show (endL l a p).2 = false by rw [hE])
  rw [hE] at hat
  clear hE
  go_enter Tryz.func56, Tryz.ntmps56
  go_wp2_with fail
  refine (hat).mono ?_
  rintro e v1 ⟨rfl, hb⟩
  replace ct0 : v1.cell? ⟨w.heap.size, 0, none⟩ = some (.slice (some ⟨b, off, none⟩) l.length c) := (hb.cell (p := ⟨w.heap.size, 0, none⟩) zct).trans ct0
  replace zct : w.heap.size < v1.heap.size := Nat.lt_of_lt_of_le zct hb.size
  replace cf0 : v1.cell? ⟨w.heap.size + 1, 0, none⟩ = some (.int .i64 a) := (hb.cell (p := ⟨w.heap.size + 1, 0, none⟩) zcf).trans cf0
  replace cf1 : v1.cell? ⟨w.heap.size + 1, 1, none⟩ = some (.int .i64 p) := (hb.cell (p := ⟨w.heap.size + 1, 1, none⟩) zcf).trans cf1
  replace zcf : w.heap.size + 1 < v1.heap.size := Nat.lt_of_lt_of_le zcf hb.size
  replace cr0 : v1.cell? ⟨w.heap.size + 1 + 1, 0, none⟩ = some (.slice none 0 0) := (hb.cell (p := ⟨w.heap.size + 1 + 1, 0, none⟩) zcr).trans cr0
  replace fcr0 : v1.frozen? ⟨w.heap.size + 1 + 1, 0, none⟩ = false := (hb.frozen (p := ⟨w.heap.size + 1 + 1, 0, none⟩) zcr).trans fcr0
  replace zcr : w.heap.size + 1 + 1 < v1.heap.size := Nat.lt_of_lt_of_le zcr hb.size
  replace HB := hide (HB.out.trans (hb.mono HB.out.size))
  clear hb
  clear hat
  go_wp2
  refine bodyPost_ret (v := .tuple #[tab (.slice (some ⟨b, off, none⟩) l.length c), .bool false]) (by simp [results, Tryz.results56, go_sem, cr0]) rfl ⟨b, off, c, by rw [HD.out], ?_, ?_, ?_, .inl rfl⟩
  ·have := HB.out.size; simp; omega
  ·rw [HP.out]
   intro i hi j hj
   have hB2 := HB.out.setCell (p := ⟨w.heap.size + 1 + 1, 0, none⟩) (by simp <;> omega) (.slice (some ⟨b, off, none⟩) l.length c)
   exact (hB2.cell (p := ⟨b, off + i * layS.k + j, none⟩) hbl).trans (HC.out i hi j hj)
  ·exact HB.out.setCell (p := ⟨w.heap.size + 1 + 1, 0, none⟩) (by simp <;> omega) _
 ·skip
  have HP := hide (dropL_no (l := l) (a := a) (p := p) (by rw [hE]))
  have HD := hide (show (endL l a p).2 = false by rw [hE])
  rw [hE] at hat
  clear hE
  go_enter Tryz.func56, Tryz.ntmps56
  go_wp2_with fail
  refine (hat).mono ?_
  rintro e v1 ⟨rfl, hb⟩
  replace ct0 : v1.cell? ⟨w.heap.size, 0, none⟩ = some (.slice (some ⟨b, off, none⟩) l.length c) := (hb.cell (p := ⟨w.heap.size, 0, none⟩) zct).trans ct0
  replace zct : w.heap.size < v1.heap.size := Nat.lt_of_lt_of_le zct hb.size
  replace cf0 : v1.cell? ⟨w.heap.size + 1, 0, none⟩ = some (.int .i64 a) := (hb.cell (p := ⟨w.heap.size + 1, 0, none⟩) zcf).trans cf0
  replace cf1 : v1.cell? ⟨w.heap.size + 1, 1, none⟩ = some (.int .i64 p) := (hb.cell (p := ⟨w.heap.size + 1, 1, none⟩) zcf).trans cf1
  replace zcf : w.heap.size + 1 < v1.heap.size := Nat.lt_of_lt_of_le zcf hb.size
  replace cr0 : v1.cell? ⟨w.heap.size + 1 + 1, 0, none⟩ = some (.slice none 0 0) := (hb.cell (p := ⟨w.heap.size + 1 + 1, 0, none⟩) zcr).trans cr0
  replace fcr0 : v1.frozen? ⟨w.heap.size + 1 + 1, 0, none⟩ = false := (hb.frozen (p := ⟨w.heap.size + 1 + 1, 0, none⟩) zcr).trans fcr0
  replace zcr : w.heap.size + 1 + 1 < v1.heap.size := Nat.lt_of_lt_of_le zcr hb.size
  replace HB := hide (HB.out.trans (hb.mono HB.out.size))
  clear hb
  clear hat
  go_wp2
  refine bodyPost_ret (v := .tuple #[tab (.slice (some ⟨b, off, none⟩) l.length c), .bool false]) (by simp [results, Tryz.results56, go_sem, cr0]) rfl ⟨b, off, c, by rw [HD.out], ?_, ?_, ?_, .inl rfl⟩
  ·have := HB.out.size; simp; omega
  ·rw [HP.out]
   intro i hi j hj
   have hB2 := HB.out.setCell (p := ⟨w.heap.size + 1 + 1, 0, none⟩) (by simp <;> omega) (.slice (some ⟨b, off, none⟩) l.length c)
   exact (hB2.cell (p := ⟨b, off + i * layS.k + j, none⟩) hbl).trans (HC.out i hi j hj)
  ·exact HB.out.setCell (p := ⟨w.heap.size + 1 + 1, 0, none⟩) (by simp <;> omega) _
 ·skip
  have HP := hide (dropL_yes hE)
  have HD := hide (show (endL l a p).2 = true by rw [hE])
  rw [hE] at hat
  clear hE
  have HInv0 := hide (DropInv.start (l := l) (i := i0) h16 hi0 hok)
  have i1 : (i0 : Int) < (l.length : Int) := by omega
  go_enter Tryz.func56, Tryz.ntmps56
  go_wp2_with fail
  refine (hat).mono ?_
  rintro e v1 ⟨rfl, hb⟩
  replace ct0 : v1.cell? ⟨w.heap.size, 0, none⟩ = some (.slice (some ⟨b, off, none⟩) l.length c) := (hb.cell (p := ⟨w.heap.size, 0, none⟩) zct).trans ct0
  replace zct : w.heap.size < v1.heap.size := Nat.lt_of_lt_of_le zct hb.size
  replace cf0 : v1.cell? ⟨w.heap.size + 1, 0, none⟩ = some (.int .i64 a) := (hb.cell (p := ⟨w.heap.size + 1, 0, none⟩) zcf).trans cf0
  replace cf1 : v1.cell? ⟨w.heap.size + 1, 1, none⟩ = some (.int .i64 p) := (hb.cell (p := ⟨w.heap.size + 1, 1, none⟩) zcf).trans cf1
  replace zcf : w.heap.size + 1 < v1.heap.size := Nat.lt_of_lt_of_le zcf hb.size
  replace cr0 : v1.cell? ⟨w.heap.size + 1 + 1, 0, none⟩ = some (.slice none 0 0) := (hb.cell (p := ⟨w.heap.size + 1 + 1, 0, none⟩) zcr).trans cr0
  replace fcr0 : v1.frozen? ⟨w.heap.size + 1 + 1, 0, none⟩ = false := (hb.frozen (p := ⟨w.heap.size + 1 + 1, 0, none⟩) zcr).trans fcr0
  replace zcr : w.heap.size + 1 + 1 < v1.heap.size := Nat.lt_of_lt_of_le zcr hb.size
  replace HB := hide (HB.out.trans (hb.mono HB.out.size))
  clear hb
  go_wp2_with fail
  refine (l5own_any b off c l v1 (Nat.lt_of_lt_of_le hbl HB.out.size) (fun i hi j hj => (HB.out.cell (p := ⟨b, off + i * layS.k + j, none⟩) hbl).trans (HC.out i hi j hj)) hl).mono ?_
  rintro e v2 ⟨o2, c2, rfl, hown, hb⟩
  have HV1 := hide zcr
  obtain ⟨g, c3, hve⟩ : ∃ g c3, Value.slice o2 l.length c2 = .slice (some ⟨g, 0, none⟩) l.length c3 := by
   rcases hown.2 with ⟨_, h0⟩ | ⟨g, c3, _, h0, _⟩
   ·exact absurd h0 (by omega)
   ·exact ⟨g, c3, h0⟩
  injection hve with hv1 hv2 hv3
  subst hv1 hv3
  have HO := hide hown
  clear hown
  replace ct0 : v2.cell? ⟨w.heap.size, 0, none⟩ = some (.slice (some ⟨b, off, none⟩) l.length c) := (hb.cell (p := ⟨w.heap.size, 0, none⟩) zct).trans ct0
  replace zct : w.heap.size < v2.heap.size := Nat.lt_of_lt_of_le zct hb.size
  replace cf0 : v2.cell? ⟨w.heap.size + 1, 0, none⟩ = some (.int .i64 a) := (hb.cell (p := ⟨w.heap.size + 1, 0, none⟩) zcf).trans cf0
  replace cf1 : v2.cell? ⟨w.heap.size + 1, 1, none⟩ = some (.int .i64 p) := (hb.cell (p := ⟨w.heap.size + 1, 1, none⟩) zcf).trans cf1
  replace zcf : w.heap.size + 1 < v2.heap.size := Nat.lt_of_lt_of_le zcf hb.size
  replace cr0 : v2.cell? ⟨w.heap.size + 1 + 1, 0, none⟩ = some (.slice none 0 0) := (hb.cell (p := ⟨w.heap.size + 1 + 1, 0, none⟩) zcr).trans cr0
  replace fcr0 : v2.frozen? ⟨w.heap.size + 1 + 1, 0, none⟩ = false := (hb.frozen (p := ⟨w.heap.size + 1 + 1, 0, none⟩) zcr).trans fcr0
  replace zcr : w.heap.size + 1 + 1 < v2.heap.size := Nat.lt_of_lt_of_le zcr hb.size
  replace HB := hide (HB.out.trans (hb.mono HB.out.size))
  clear hb
  have HOv := HO
  obtain ⟨W2, hW2⟩ : ∃ W, (v2.alloc (.cells #[.slice (some ⟨g, 0, none⟩) l.length c2] 45)) = W := ⟨_, rfl⟩
  have hb_W2 : Below v2.heap.size v2 W2 := by rw [← hW2]; exact ((Below.refl _ _).alloc (Nat.le_refl _) _)
  replace ct0 : W2.cell? ⟨w.heap.size, 0, none⟩ = some (.slice (some ⟨b, off, none⟩) l.length c) := (hb_W2.cell (p := ⟨w.heap.size, 0, none⟩) zct).trans ct0
  replace zct : w.heap.size < W2.heap.size := Nat.lt_of_lt_of_le zct hb_W2.size
  replace cf0 : W2.cell? ⟨w.heap.size + 1, 0, none⟩ = some (.int .i64 a) := (hb_W2.cell (p := ⟨w.heap.size + 1, 0, none⟩) zcf).trans cf0
  replace cf1 : W2.cell? ⟨w.heap.size + 1, 1, none⟩ = some (.int .i64 p) := (hb_W2.cell (p := ⟨w.heap.size + 1, 1, none⟩) zcf).trans cf1
  replace zcf : w.heap.size + 1 < W2.heap.size := Nat.lt_of_lt_of_le zcf hb_W2.size
  replace cr0 : W2.cell? ⟨w.heap.size + 1 + 1, 0, none⟩ = some (.slice none 0 0) := (hb_W2.cell (p := ⟨w.heap.size + 1 + 1, 0, none⟩) zcr).trans cr0
  replace fcr0 : W2.frozen? ⟨w.heap.size + 1 + 1, 0, none⟩ = false := (hb_W2.frozen (p := ⟨w.heap.size + 1 + 1, 0, none⟩) zcr).trans fcr0
  replace zcr : w.heap.size + 1 + 1 < W2.heap.size := Nat.lt_of_lt_of_le zcr hb_W2.size
  replace HO := hide (own_kept HO.out hb_W2)
  replace HB := hide (HB.out.trans (hb_W2.mono HB.out.size))
  clear hb_W2
  have zco : v2.heap.size < W2.heap.size := by rw [← hW2]; simp
  have co0 : W2.cell? ⟨v2.heap.size, 0, none⟩ = some (.slice (some ⟨g, 0, none⟩) l.length c2) := by rw [← hW2]; simp [go_sem]
  have hgb := (HOv.out.lt g rfl)
  have hgv : v1.heap.size ≤ g := hgb.1
  have hg2 : g + 1 ≤ v2.heap.size := hgb.2
  have hz1 := HV1.out
  have hzo2 := zco
  have ho : W2.ownsRow v1.heap.size 96 5 (.slice (some ⟨g, 0, none⟩) l.length c2) l.length (l.flatMap layS.cs) := HO.out
  have hln : (l.flatMap layS.cs).length = l.length * 5 := by rw [flat_length]; rfl
  obtain ⟨u0, hu0⟩ : ∃ u, W2.cell? ⟨g, i0 * 5, none⟩ = some u := ⟨_, (ho.cellAt (i0 * 5) (by omega)).trans (List.getElem?_eq_getElem (by omega))⟩
  have fu0 := ho.frozenAt (i0 * 5)
  obtain ⟨u1, hu1⟩ : ∃ u, W2.cell? ⟨g, i0 * 5 + 1, none⟩ = some u := ⟨_, (ho.cellAt (i0 * 5 + 1) (by omega)).trans (List.getElem?_eq_getElem (by omega))⟩
  have fu1 := ho.frozenAt (i0 * 5 + 1)
  obtain ⟨u2, hu2⟩ : ∃ u, W2.cell? ⟨g, i0 * 5 + 2, none⟩ = some u := ⟨_, (ho.cellAt (i0 * 5 + 2) (by omega)).trans (List.getElem?_eq_getElem (by omega))⟩
  have fu2 := ho.frozenAt (i0 * 5 + 2)
  obtain ⟨u3, hu3⟩ : ∃ u, W2.cell? ⟨g, i0 * 5 + 3, none⟩ = some u := ⟨_, (ho.cellAt (i0 * 5 + 3) (by omega)).trans (List.getElem?_eq_getElem (by omega))⟩
  have fu3 := ho.frozenAt (i0 * 5 + 3)
  obtain ⟨u4, hu4⟩ : ∃ u, W2.cell? ⟨g, i0 * 5 + 4, none⟩ = some u := ⟨_, (ho.cellAt (i0 * 5 + 4) (by omega)).trans (List.getElem?_eq_getElem (by omega))⟩
  have fu4 := ho.frozenAt (i0 * 5 + 4)
  obtain ⟨W3, hW3⟩ : ∃ W, (((((W2.setCell ⟨g, i0 * 5, none⟩ (.bool false)).setCell ⟨g, i0 * 5 + 1, none⟩ (.int .i64 0)).setCell ⟨g, i0 * 5 + 2, none⟩ (.int .i64 0)).setCell ⟨g, i0 * 5 + 3, none⟩ (.int .i64 0)).setCell ⟨g, i0 * 5 + 4, none⟩ (.int .i64 0)) = W := ⟨_, rfl⟩
  have HO3 : Hid (W3.ownsRow v1.heap.size 96 5 (.slice (some ⟨g, 0, none⟩) l.length c2) l.length ((l.set i0 sl0).flatMap layS.cs)) := by rw [← hW3]; exact (stored5 (k := i0) sl0 (Nat.le_refl g) ho (Below.refl g W2)).1
  have HSt3 : Hid (Stp g (g + 1) W2 W3) := by rw [← hW3]; exact stp_set5 W2 g i0 sl0
  have co3 := HSt3.out.cell co0 zco (.inr hg2)
  have hm0 := next_tmod l.length i0
  have hne0 : ((l.length : Int) == 0) = false := beq_eq_false_iff_ne.2 (by omega)
  clear ho hln hat
  go_wp2
  go_loopg [6, 10] (meas (l.set i0 sl0) i0 ((i0 + 1) % l.length)) (fun gk iv kv wr => ∃ (m : List Sl) (i k : Nat), iv = .int .i64 i ∧ kv = .int .i64 k ∧ Hid (DropInv l.length (dropAtL l i0) gk m i k) ∧ Hid (wr.ownsRow v1.heap.size 96 5 (.slice (some ⟨g, 0, none⟩) l.length c2) l.length (m.flatMap layS.cs)) ∧ Hid (Stp g (g + 1) W2 wr))
  case atStart => exact ⟨_, i0, (i0 + 1) % l.length, rfl, by simp, HInv0, HO3, HSt3⟩
  case round =>
   clear co3 HO3 HSt3 hW3 HInv0 hu0 fu0 hu1 fu1 hu2 fu2 hu3 fu3 hu4 fu4 hm0
   obtain ⟨m, i, k, rfl, rfl, HI, HOr, HSt⟩ := hrel
   have hml := hide HI.out.len
   have hik := HI.out.hi
   have hkk := HI.out.hk
   have ho : wr.ownsRow v1.heap.size 96 5 (.slice (some ⟨g, 0, none⟩) l.length c2) l.length (m.flatMap layS.cs) := HOr.out
   have hszr : W2.heap.size ≤ wr.heap.size := HSt.out.size
   have cor := HSt.out.cell co0 zco (.inr hg2)
   have crr := HSt.out.cell cr0 zcr (.inl (show w.heap.size + 1 + 1 < g by omega))
   have fcrr := HSt.out.frozen fcr0 zcr (.inl (show w.heap.size + 1 + 1 < g by omega))
   have hk1 : (k : Int) < (l.length : Int) := by omega
   have hi1 : (i : Int) < (l.length : Int) := by omega
   obtain ⟨s, hxy⟩ : ∃ s, m.getD k sl0 = s := ⟨_, rfl⟩
   have hrk := rd_row ho hml.out.symm k hkk
   rw [hxy] at hrk
   have e0 := hrk.1
   have e1 := hrk.2.1
   have e2 := hrk.2.2.1
   have e3 := hrk.2.2.2.1
   have e4 := hrk.2.2.2.2
   have HX := hide hxy
   clear hrk hxy
   have hsz3 : w.heap.size + 1 + 1 < v1.heap.size := hz1
   by_cases hki : k = i
   ·have HDn := hide (HI.out.done (by rw [hki]; exact HI.out.free))
    subst hki
    clear ho
    go_wp2
    refine bodyPost_ret (v := .tuple #[tab (.slice (some ⟨g, 0, none⟩) l.length c2), .bool true]) (by simp [results, Tryz.results56, go_sem, crr]) rfl ⟨g, 0, c2, by rw [HD.out], ?_, ?_, ?_, .inr (by omega)⟩
    ·have h := (HOr.out.lt g rfl).2; simpa using h
    ·rw [HP.out, ← HDn.out]
     have h := ownsRow_setCell_below HOr.out (a := ⟨w.heap.size + 1 + 1, 0, none⟩) hsz3 (.slice (some ⟨g, 0, none⟩) l.length c2)
     exact rd_of_own h hml.out.symm
    ·exact (HB.out.trans (HSt.out.below (by omega) (by omega))).setCell (p := ⟨w.heap.size + 1 + 1, 0, none⟩) (by simp <;> omega) _
   ·have hki2 : ((k : Int) == (i : Int)) = false := beq_eq_false_iff_ne.2 (by omega)
    have hki3 : ¬ (k : Int) = (i : Int) := by omega
    obtain ⟨su, sa, sp, sv, st⟩ := s
    simp only at e0 e1 e2 e3 e4
    cases su with
    | false =>
     have HDn := hide (HI.out.done (by rw [HX.out]))
     clear ho
     go_wp2
     refine bodyPost_ret (v := .tuple #[tab (.slice (some ⟨g, 0, none⟩) l.length c2), .bool true]) (by simp [results, Tryz.results56, go_sem, crr]) rfl ⟨g, 0, c2, by rw [HD.out], ?_, ?_, ?_, .inr (by omega)⟩
     ·have h := (HOr.out.lt g rfl).2; simpa using h
     ·rw [HP.out, ← HDn.out]
      have h := ownsRow_setCell_below HOr.out (a := ⟨w.heap.size + 1 + 1, 0, none⟩) hsz3 (.slice (some ⟨g, 0, none⟩) l.length c2)
      exact rd_of_own h hml.out.symm
     ·exact (HB.out.trans (HSt.out.below (by omega) (by omega))).setCell (p := ⟨w.heap.size + 1 + 1, 0, none⟩) (by simp <;> omega) _
    | true =>
     have hfo : flowOkB sa sp = true := by have h := HI.out.ok k (by have := hml.out; omega) (by rw [HX.out]); rw [HX.out] at h; exact h
     have hhl := homeN_lt hn sa sp
     have HMv := hide (show moves l.length m i k = decide (farN l.length i k ≤ farN l.length (homeN l.length sa sp) k) by unfold moves; rw [HX.out])
     have HOx := hide ho
     clear ho
     go_wp2_with fail
     refine (l5home_any l.length sa sp wr hn hl hfo).mono ?_
     rintro e W6 ⟨rfl, hb6⟩
     generalize homeN l.length sa sp = hm at *
     have hm1 : (hm : Int) < (l.length : Int) := by omega
     have hf1 := far_tmod hhl hkk
     have hf2 := far_tmod hik hkk
     have hnx := next_tmod l.length k
     have ho6 : W6.ownsRow v1.heap.size 96 5 (.slice (some ⟨g, 0, none⟩) l.length c2) l.length (m.flatMap layS.cs) := own_kept HOx.out hb6
     have zcor : v2.heap.size < wr.heap.size := by omega
     have co6 : W6.cell? ⟨v2.heap.size, 0, none⟩ = some (.slice (some ⟨g, 0, none⟩) l.length c2) := (hb6.cell (p := ⟨v2.heap.size, 0, none⟩) zcor).trans cor
     have HSt6 := hide (HSt.out.trans (Stp.of hb6))
     clear hb6 cor crr fcrr
     generalize farN l.length hm k = d1 at *
     generalize farN l.length i k = d2 at *
     by_cases hmv : (d2 : Int) ≤ (d1 : Int)
     ·skip
      have HNx := hide (HI.out.move (by rw [HX.out]) (by rw [HMv.out]; exact decide_eq_true (by omega)))
      rw [HX.out] at HNx
      have hln : (m.flatMap layS.cs).length = l.length * 5 := by rw [flat_length, hml.out]; rfl
      have hrk := rd_row ho6 hml.out.symm k hkk
      rw [HX.out] at hrk
      have g0 := hrk.1
      have g1 := hrk.2.1
      have g2 := hrk.2.2.1
      have g3 := hrk.2.2.2.1
      have g4 := hrk.2.2.2.2
      simp only at g0 g1 g2 g3 g4
      clear hrk e0 e1 e2 e3 e4
      obtain ⟨u0, hu0⟩ : ∃ u, W6.cell? ⟨g, i * 5, none⟩ = some u := ⟨_, (ho6.cellAt (i * 5) (by omega)).trans (List.getElem?_eq_getElem (by omega))⟩
      have fu0 := ho6.frozenAt (i * 5)
      obtain ⟨u1, hu1⟩ : ∃ u, W6.cell? ⟨g, i * 5 + 1, none⟩ = some u := ⟨_, (ho6.cellAt (i * 5 + 1) (by omega)).trans (List.getElem?_eq_getElem (by omega))⟩
      have fu1 := ho6.frozenAt (i * 5 + 1)
      obtain ⟨u2, hu2⟩ : ∃ u, W6.cell? ⟨g, i * 5 + 2, none⟩ = some u := ⟨_, (ho6.cellAt (i * 5 + 2) (by omega)).trans (List.getElem?_eq_getElem (by omega))⟩
      have fu2 := ho6.frozenAt (i * 5 + 2)
      obtain ⟨u3, hu3⟩ : ∃ u, W6.cell? ⟨g, i * 5 + 3, none⟩ = some u := ⟨_, (ho6.cellAt (i * 5 + 3) (by omega)).trans (List.getElem?_eq_getElem (by omega))⟩
      have fu3 := ho6.frozenAt (i * 5 + 3)
      obtain ⟨u4, hu4⟩ : ∃ u, W6.cell? ⟨g, i * 5 + 4, none⟩ = some u := ⟨_, (ho6.cellAt (i * 5 + 4) (by omega)).trans (List.getElem?_eq_getElem (by omega))⟩
      have fu4 := ho6.frozenAt (i * 5 + 4)
      obtain ⟨W4, hW4⟩ : ∃ W, (((((W6.setCell ⟨g, i * 5, none⟩ (.bool true)).setCell ⟨g, i * 5 + 1, none⟩ (.int .i64 sa)).setCell ⟨g, i * 5 + 2, none⟩ (.int .i64 sp)).setCell ⟨g, i * 5 + 3, none⟩ (.int .i64 sv)).setCell ⟨g, i * 5 + 4, none⟩ (.int .i64 st)) = W := ⟨_, rfl⟩
      have ho4 : W4.ownsRow v1.heap.size 96 5 (.slice (some ⟨g, 0, none⟩) l.length c2) l.length ((m.set i ⟨true, sa, sp, sv, st⟩).flatMap layS.cs) := by rw [← hW4]; exact (stored5 (k := i) ⟨true, sa, sp, sv, st⟩ (Nat.le_refl g) ho6 (Below.refl g W6)).1
      have HSt4 : Hid (Stp g (g + 1) W6 W4) := by rw [← hW4]; exact stp_set5 W6 g i ⟨true, sa, sp, sv, st⟩
      have hln4 : ((m.set i ⟨true, sa, sp, sv, st⟩).flatMap layS.cs).length = l.length * 5 := by rw [flat_length, List.length_set, hml.out]; rfl
      have zco6 : v2.heap.size < W6.heap.size := Nat.lt_of_lt_of_le hzo2 HSt6.out.size
      have co4 := HSt4.out.cell co6 zco6 (.inr hg2)
      obtain ⟨y0, hy0⟩ : ∃ u, W4.cell? ⟨g, k * 5, none⟩ = some u := ⟨_, (ho4.cellAt (k * 5) (by omega)).trans (List.getElem?_eq_getElem (by omega))⟩
      have fy0 := ho4.frozenAt (k * 5)
      obtain ⟨y1, hy1⟩ : ∃ u, W4.cell? ⟨g, k * 5 + 1, none⟩ = some u := ⟨_, (ho4.cellAt (k * 5 + 1) (by omega)).trans (List.getElem?_eq_getElem (by omega))⟩
      have fy1 := ho4.frozenAt (k * 5 + 1)
      obtain ⟨y2, hy2⟩ : ∃ u, W4.cell? ⟨g, k * 5 + 2, none⟩ = some u := ⟨_, (ho4.cellAt (k * 5 + 2) (by omega)).trans (List.getElem?_eq_getElem (by omega))⟩
      have fy2 := ho4.frozenAt (k * 5 + 2)
      obtain ⟨y3, hy3⟩ : ∃ u, W4.cell? ⟨g, k * 5 + 3, none⟩ = some u := ⟨_, (ho4.cellAt (k * 5 + 3) (by omega)).trans (List.getElem?_eq_getElem (by omega))⟩
      have fy3 := ho4.frozenAt (k * 5 + 3)
      obtain ⟨y4, hy4⟩ : ∃ u, W4.cell? ⟨g, k * 5 + 4, none⟩ = some u := ⟨_, (ho4.cellAt (k * 5 + 4) (by omega)).trans (List.getElem?_eq_getElem (by omega))⟩
      have fy4 := ho4.frozenAt (k * 5 + 4)
      obtain ⟨W5, hW5⟩ : ∃ W, (((((W4.setCell ⟨g, k * 5, none⟩ (.bool false)).setCell ⟨g, k * 5 + 1, none⟩ (.int .i64 0)).setCell ⟨g, k * 5 + 2, none⟩ (.int .i64 0)).setCell ⟨g, k * 5 + 3, none⟩ (.int .i64 0)).setCell ⟨g, k * 5 + 4, none⟩ (.int .i64 0)) = W := ⟨_, rfl⟩
      have HO5 : Hid (W5.ownsRow v1.heap.size 96 5 (.slice (some ⟨g, 0, none⟩) l.length c2) l.length (((m.set i ⟨true, sa, sp, sv, st⟩).set k sl0).flatMap layS.cs)) := by rw [← hW5]; exact (stored5 (k := k) sl0 (Nat.le_refl g) ho4 (Below.refl g W4)).1
      have HSt5 : Hid (Stp g (g + 1) W4 W5) := by rw [← hW5]; exact stp_set5 W4 g k sl0
      have HStA := hide (HSt6.out.trans (HSt4.out.trans HSt5.out))
      clear ho6 ho4 hln hln4
      go_wp2
      go_region
      go_wp2
      go_region
      go_wp2
      go_roundg (gk - 1)
      case measure => have := HNx.out.1; omega
      case rel => exact ⟨_, k, (k + 1) % l.length, rfl, by simp, HNx.out.2, HO5, HStA.out.drew.drew⟩
     ·skip
      have HNx := hide (HI.out.stay (by rw [HX.out]) (by rw [HMv.out]; exact decide_eq_false (by omega)))
      have hmv' : decide (d2 ≤ d1) = false := decide_eq_false (by omega)
      have hmv2 : decide ((d2 : Int) ≤ (d1 : Int)) = false := decide_eq_false hmv
      have HO6 := hide ho6
      clear ho6
      go_wp2
      go_region
      go_wp2
      go_roundg (gk - 1)
      case measure => have := HNx.out.1; omega
      case rel => exact ⟨m, i, (k + 1) % l.length, rfl, by simp, HNx.out.2, HO6, HSt6.out.drew⟩

end Go.Proofs.YtpjkcgaohoinaaaGreat

