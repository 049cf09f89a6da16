/- Several texts in one: SDropI, SDropS, RcP, SBOwn, SCrash, ShP2, OpenP. -/
import Derived.Deep.LoopGhost
import Derived.Test.YtmmhgkkcpjhiiaaGreatQLearn38
import Derived.Test.YtmmhgkkcpjhiiaaGreatQLearn10
import Derived.Test.YtmmhgkkcpjhiiaaGreatQLearn32
import Derived.Test.YtmmhgkkcpjhiiaaGreatQLearn36
import Derived.Test.YtmmhgkkcpjhiiaaGreatQLearn29
import Derived.Test.YtmmhgkkcpjhiiaaGreatQLearn30
namespace Go.Proofs.YtmmhgkkcpjhiiaaGreat
open Go.ChangeShapes Go.WideShapes Go.ChangeAt Go.RowKit Go.Joins
set_option linter.unusedVariables false
set_option linter.unusedSimpArgs false

theorem rd_row {e : TypeId} {w : World} {base g n c : Nat} {m : List Sl} (h : w.ownsRow base e 5 (.slice (some ⟨g, 0, none⟩) n c) n (m.flatMap layS.cs)) (hn : n = m.length) (i : Nat) (hi : i < n) :
  w.cell? ⟨g, i * 5, none⟩ = some (.bool (m.getD i sl0).u) ∧ w.cell? ⟨g, i * 5 + 1, none⟩ = some (.int .i64 (m.getD i sl0).a) ∧ w.cell? ⟨g, i * 5 + 2, none⟩ = some (.int .i64 (m.getD i sl0).p) ∧ w.cell? ⟨g, i * 5 + 3, none⟩ = some (.int .i64 (m.getD i sl0).v) ∧ w.cell? ⟨g, i * 5 + 4, none⟩ = some (.int .i64 (m.getD i sl0).t) := by
 have h1 := rd_of_own h hn
 have h2 := RdL.slot (C := w.heap.size) h1 i (by omega)
 simpa only [Nat.zero_add] using h2
set_option maxHeartbeats 8000000 in
theorem dropAt_any (g c base n i0 : Nat) (l : List Sl) (w : World) (hn : l.length = n) (h16 : n ≤ 16) (hi0 : i0 < n) (hok : flowsOk l) (ho : w.ownsRow base CellT 5 (.slice (some ⟨g, 0, none⟩) n c) n (l.flatMap layS.cs)) :
  Calls Tryz.prog 229 #[tab (.slice (some ⟨g, 0, none⟩) n c), .int .i64 i0] w fun e w' => (∃ v, e = .returned v) ∧ w'.ownsRow base CellT 5 (.slice (some ⟨g, 0, none⟩) n c) n ((dropAtL l i0).flatMap layS.cs) ∧ Stp g (g + 1) w w' := by
 have hgw := (ho.lt g rfl).2
 have HO := hide ho
 clear ho
 obtain ⟨W0, hW0⟩ : ∃ W, (w.alloc (.cells #[.slice (some ⟨g, 0, none⟩) n c] 148)) = W := ⟨_, rfl⟩
 have hb_W0 : Below w.heap.size w W0 := by rw [← hW0]; exact ((Below.refl _ _).alloc (Nat.le_refl _) _)
 replace HO := hide (own_kept HO.out hb_W0)
 have HB := hide hb_W0
 clear hb_W0
 have zct : w.heap.size < W0.heap.size := by rw [← hW0]; simp
 have ct0 : W0.cell? ⟨w.heap.size, 0, none⟩ = some (.slice (some ⟨g, 0, none⟩) n c) := by rw [← hW0]; simp [go_sem]
 have ho : W0.ownsRow base CellT 5 (.slice (some ⟨g, 0, none⟩) n c) n (l.flatMap layS.cs) := HO.out
 have hln : (l.flatMap layS.cs).length = n * 5 := by rw [flat_length, hn]; rfl
 obtain ⟨u0, hu0⟩ : ∃ u, W0.cell? ⟨g, i0 * 5, none⟩ = some u := ⟨_, (ho.cellAt (i0 * 5) (by omega)).trans (List.getElem?_eq_getElem (by omega))⟩
 have fu0 := ho.frozenAt (i0 * 5)
 obtain ⟨u1, hu1⟩ : ∃ u, W0.cell? ⟨g, i0 * 5 + 1, none⟩ = some u := ⟨_, (ho.cellAt (i0 * 5 + 1) (by omega)).trans (List.getElem?_eq_getElem (by omega))⟩
 have fu1 := ho.frozenAt (i0 * 5 + 1)
 obtain ⟨u2, hu2⟩ : ∃ u, W0.cell? ⟨g, i0 * 5 + 2, none⟩ = some u := ⟨_, (ho.cellAt (i0 * 5 + 2) (by omega)).trans (List.getElem?_eq_getElem (by omega))⟩
 have fu2 := ho.frozenAt (i0 * 5 + 2)
 obtain ⟨u3, hu3⟩ : ∃ u, W0.cell? ⟨g, i0 * 5 + 3, none⟩ = some u := ⟨_, (ho.cellAt (i0 * 5 + 3) (by omega)).trans (List.getElem?_eq_getElem (by omega))⟩
 have fu3 := ho.frozenAt (i0 * 5 + 3)
 obtain ⟨u4, hu4⟩ : ∃ u, W0.cell? ⟨g, i0 * 5 + 4, none⟩ = some u := ⟨_, (ho.cellAt (i0 * 5 + 4) (by omega)).trans (List.getElem?_eq_getElem (by omega))⟩
 have fu4 := ho.frozenAt (i0 * 5 + 4)
 obtain ⟨W1, hW1⟩ : ∃ W, (((((W0.setCell ⟨g, i0 * 5, none⟩ (.bool false)).setCell ⟨g, i0 * 5 + 1, none⟩ (.int .i64 0)).setCell ⟨g, i0 * 5 + 2, none⟩ (.int .i64 0)).setCell ⟨g, i0 * 5 + 3, none⟩ (.int .i64 0)).setCell ⟨g, i0 * 5 + 4, none⟩ (.int .i64 0)) = W := ⟨_, rfl⟩
 have HO1 : Hid (W1.ownsRow base CellT 5 (.slice (some ⟨g, 0, none⟩) n c) n ((l.set i0 sl0).flatMap layS.cs)) := by rw [← hW1]; exact (stored5 (k := i0) sl0 (Nat.le_refl g) ho (Below.refl g W0)).1
 have HSt1 : Hid (Stp g (g + 1) W0 W1) := by rw [← hW1]; exact stp_set5 W0 g i0 sl0
 have hgz : g < W0.heap.size := (ho.lt g rfl).2
 have ct1 : W1.cell? ⟨w.heap.size, 0, none⟩ = some (.slice (some ⟨g, 0, none⟩) n c) := HSt1.out.cell ct0 zct (.inr (by omega))
 have zct1 : w.heap.size < W1.heap.size := Nat.lt_of_lt_of_le zct HSt1.out.size
 have i1 : (i0 : Int) < (n : Int) := by omega
 have HInv0 := hide (DropInv.start (l := l) (i := i0) (by omega) (by omega) hok)
 rw [hn] at HInv0
 clear ho hln hok
 go_enter Tryz.func229, Tryz.ntmps229
 go_wp2_with fail
 refine (behind_any (some ⟨g, 0, none⟩) n c i0 W1 (by omega) (by omega) hi0).mono ?_
 rintro e W2 ⟨rfl, hb2⟩
 have HO2 := hide (own_kept HO1.out hb2)
 have ct2 : W2.cell? ⟨w.heap.size, 0, none⟩ = some (.slice (some ⟨g, 0, none⟩) n c) := (hb2.cell (p := ⟨w.heap.size, 0, none⟩) zct1).trans ct1
 have HSt2 := hide ((Stp.of (lo := g) (hi := g + 1) HB.out).trans (HSt1.out.trans (Stp.of hb2)))
 have zct2 : w.heap.size < W2.heap.size := Nat.lt_of_lt_of_le zct1 hb2.size
 clear hb2 hu0 fu0 hu1 fu1 hu2 fu2 hu3 fu3 hu4 fu4 hW1 ct0 ct1 HO HO1 HSt1
 go_wp2
 go_loopg [1, 4] (meas (l.set i0 sl0) i0 ((i0 + 1) % n)) (fun gk hv kv wr => ∃ (m : List Sl) (i k : Nat), hv = .int .i64 i ∧ kv = .int .i64 k ∧ Hid (DropInv n (dropAtL l i0) gk m i k) ∧ Hid (wr.ownsRow base CellT 5 (.slice (some ⟨g, 0, none⟩) n c) n (m.flatMap layS.cs)) ∧ Hid (wr.cell? ⟨w.heap.size, 0, none⟩ = some (.slice (some ⟨g, 0, none⟩) n c)) ∧ w.heap.size < wr.heap.size ∧ Hid (Stp g (g + 1) w wr))
 case atStart => exact ⟨_, i0, (i0 + 1) % n, rfl, by simp, HInv0, HO2, ct2, zct2, HSt2⟩
 case round =>
  obtain ⟨m, i, k, rfl, rfl, HI, HO, HC, zct, HSt⟩ := hrel
  clear HInv0 HO2 ct2 zct2 HSt2 HB
  have hml := HI.out.len
  have hik := HI.out.hi
  have hkk := HI.out.hk
  have ho : wr.ownsRow base CellT 5 (.slice (some ⟨g, 0, none⟩) n c) n (m.flatMap layS.cs) := HO.out
  have ct0 := HC.out
  have hgr : g < wr.heap.size := (ho.lt g rfl).2
  obtain ⟨s, hxy⟩ : ∃ s, m.getD k sl0 = s := ⟨_, rfl⟩
  have hrk := rd_row ho hml.symm k hkk
  rw [hxy] at hrk
  have e0 := hrk.1
  have e1 := hrk.2.1
  have e2 := hrk.2.2.1
  have e3 := hrk.2.2.2.1
  have e4 := hrk.2.2.2.2
  have hk1 : (k : Int) < (n : Int) := by omega
  have hi1 : (i : Int) < (n : Int) := by omega
  have HX := hide hxy
  clear hrk hxy
  obtain ⟨su, sa, sp, sv, st⟩ := s
  simp only at e0 e1 e2 e3 e4
  cases su with
  | false =>
   have HD := hide (HI.out.done (by rw [HX.out]))
   clear ho
   go_wp2
   go_end0
   exact ⟨⟨_, rfl⟩, by rw [← HD.out]; exact HO.out, HSt.out⟩
  | true =>
  have hfo : flowOkB sa sp = true := by have h := HI.out.ok k (by omega) (by rw [HX.out]); rw [HX.out] at h; exact h
  have hne : i ≠ k := fun e => by have h := HI.out.free; rw [e, HX.out] at h; cases h
  obtain ⟨W3, hW3⟩ : ∃ W, wr.alloc (.cells #[.bool true, .int .i64 sa, .int .i64 sp, .int .i64 sv, .int .i64 st] 288) = W := ⟨_, rfl⟩
  have hb3 : Below wr.heap.size wr W3 := by rw [← hW3]; exact (Below.refl _ _).alloc (Nat.le_refl _) _
  have ct3 : W3.cell? ⟨w.heap.size, 0, none⟩ = some (.slice (some ⟨g, 0, none⟩) n c) := (hb3.cell (p := ⟨w.heap.size, 0, none⟩) zct).trans ct0
  have zct3 : w.heap.size < W3.heap.size := Nat.lt_of_lt_of_le zct hb3.size
  have zs3 : wr.heap.size < W3.heap.size := by rw [← hW3]; simp
  have s0 : W3.cell? ⟨wr.heap.size, 0, none⟩ = some (.bool true) := by rw [← hW3]; simp [go_sem]
  have s1 : W3.cell? ⟨wr.heap.size, 1, none⟩ = some (.int .i64 sa) := by rw [← hW3]; simp [go_sem]
  have s2 : W3.cell? ⟨wr.heap.size, 2, none⟩ = some (.int .i64 sp) := by rw [← hW3]; simp [go_sem]
  have s3 : W3.cell? ⟨wr.heap.size, 3, none⟩ = some (.int .i64 sv) := by rw [← hW3]; simp [go_sem]
  have s4 : W3.cell? ⟨wr.heap.size, 4, none⟩ = some (.int .i64 st) := by rw [← hW3]; simp [go_sem]
  have HO3 := hide (own_kept ho hb3)
  have HSt3 := hide (HSt.out.trans (Stp.of hb3))
  clear hb3
  have G0 := Grown.cell ct3 zct3
  have G1 := Grown.cell s1 zs3
  have G2 := Grown.cell s2 zs3
  have hhl := homeN_lt (show 0 < n by omega) sa sp
  have hA := fun (P : Grown W3) => grown_of P (home_any (some ⟨g, 0, none⟩) n c sa sp P.v (by omega) (by omega) hfo)
  have hmvx : moves n m i k = decide (farN n i k ≤ farN n (homeN n sa sp) k) := by unfold moves; rw [HX.out]
  have HMv := hide hmvx
  clear hmvx
  generalize homeN n sa sp = hm at *
  have hB := fun (P : Grown W3) => grown_of P (far_any (some ⟨g, 0, none⟩) n c hm k P.v (by omega) hhl hkk)
  have hC := fun (P : Grown W3) => grown_of P (far_any (some ⟨g, 0, none⟩) n c i k P.v (by omega) hik hkk)
  generalize farN n hm k = d1 at *
  generalize farN n i k = d2 at *
  by_cases hmv : (d2 : Int) ≤ (d1 : Int)
  ·skip
   have HNx := hide (HI.out.move (by rw [HX.out]) (by rw [HMv.out]; exact decide_eq_true (by omega)))
   rw [HX.out] at HNx
   clear ho
   have Gs0 := Grown.cell s0 zs3
   have Gs1 := Grown.cell s1 zs3
   have Gs2 := Grown.cell s2 zs3
   have Gs3 := Grown.cell s3 zs3
   have Gs4 := Grown.cell s4 zs3
   go_wp2
   (refine wp_region_grown (by kernel_rfl) (by kernel_rfl) ?_; intro hne9; (repeat (go_big_quiet_step ((first | (go_at_call 331; exact hA _) | (go_at_call 330; first | with_reducible exact hB _ | with_reducible exact hC _))))); (with_reducible refine wpQuiet_nil ?_); intro _ hw9; obtain ⟨pq, hw8⟩ := hw9; subst hw8)
   have ho : pq.v.ownsRow base CellT 5 (.slice (some ⟨g, 0, none⟩) n c) n (m.flatMap layS.cs) := own_kept HO3.out pq.b
   have cp0 : pq.v.cell? ⟨w.heap.size, 0, none⟩ = some (.slice (some ⟨g, 0, none⟩) n c) := G0 pq
   have zp : w.heap.size < pq.v.heap.size := Nat.lt_of_lt_of_le zct3 pq.b.size
   have HStp := hide (HSt3.out.trans (Stp.of pq.b))
   have sp0 : pq.v.cell? ⟨wr.heap.size, 0, none⟩ = some (.bool true) := Gs0 pq
   have sp1 : pq.v.cell? ⟨wr.heap.size, 1, none⟩ = some (.int .i64 sa) := Gs1 pq
   have sp2 : pq.v.cell? ⟨wr.heap.size, 2, none⟩ = some (.int .i64 sp) := Gs2 pq
   have sp3 : pq.v.cell? ⟨wr.heap.size, 3, none⟩ = some (.int .i64 sv) := Gs3 pq
   have sp4 : pq.v.cell? ⟨wr.heap.size, 4, none⟩ = some (.int .i64 st) := Gs4 pq
   have hln : (m.flatMap layS.cs).length = n * 5 := by rw [flat_length, hml]; rfl
   obtain ⟨u0, hu0⟩ : ∃ u, pq.v.cell? ⟨g, i * 5, none⟩ = some u := ⟨_, (ho.cellAt (i * 5) (by omega)).trans (List.getElem?_eq_getElem (by omega))⟩
   have fu0 := ho.frozenAt (i * 5)
   obtain ⟨u1, hu1⟩ : ∃ u, pq.v.cell? ⟨g, i * 5 + 1, none⟩ = some u := ⟨_, (ho.cellAt (i * 5 + 1) (by omega)).trans (List.getElem?_eq_getElem (by omega))⟩
   have fu1 := ho.frozenAt (i * 5 + 1)
   obtain ⟨u2, hu2⟩ : ∃ u, pq.v.cell? ⟨g, i * 5 + 2, none⟩ = some u := ⟨_, (ho.cellAt (i * 5 + 2) (by omega)).trans (List.getElem?_eq_getElem (by omega))⟩
   have fu2 := ho.frozenAt (i * 5 + 2)
   obtain ⟨u3, hu3⟩ : ∃ u, pq.v.cell? ⟨g, i * 5 + 3, none⟩ = some u := ⟨_, (ho.cellAt (i * 5 + 3) (by omega)).trans (List.getElem?_eq_getElem (by omega))⟩
   have fu3 := ho.frozenAt (i * 5 + 3)
   obtain ⟨u4, hu4⟩ : ∃ u, pq.v.cell? ⟨g, i * 5 + 4, none⟩ = some u := ⟨_, (ho.cellAt (i * 5 + 4) (by omega)).trans (List.getElem?_eq_getElem (by omega))⟩
   have fu4 := ho.frozenAt (i * 5 + 4)
   obtain ⟨W4, hW4⟩ : ∃ W, (((((pq.v.setCell ⟨g, i * 5, none⟩ (.bool true)).setCell ⟨g, i * 5 + 1, none⟩ (.int .i64 sa)).setCell ⟨g, i * 5 + 2, none⟩ (.int .i64 sp)).setCell ⟨g, i * 5 + 3, none⟩ (.int .i64 sv)).setCell ⟨g, i * 5 + 4, none⟩ (.int .i64 st)) = W := ⟨_, rfl⟩
   have ho4 : W4.ownsRow base CellT 5 (.slice (some ⟨g, 0, none⟩) n c) n ((m.set i ⟨true, sa, sp, sv, st⟩).flatMap layS.cs) := by rw [← hW4]; exact (stored5 (k := i) ⟨true, sa, sp, sv, st⟩ (Nat.le_refl g) ho (Below.refl g pq.v)).1
   have HSt4 : Hid (Stp g (g + 1) pq.v W4) := by rw [← hW4]; exact stp_set5 pq.v g i ⟨true, sa, sp, sv, st⟩
   have hln4 : ((m.set i ⟨true, sa, sp, sv, st⟩).flatMap layS.cs).length = n * 5 := by rw [flat_length, List.length_set, hml]; rfl
   obtain ⟨y0, hy0⟩ : ∃ u, W4.cell? ⟨g, k * 5, none⟩ = some u := ⟨_, (ho4.cellAt (k * 5) (by omega)).trans (List.getElem?_eq_getElem (by omega))⟩
   have fy0 := ho4.frozenAt (k * 5)
   obtain ⟨y1, hy1⟩ : ∃ u, W4.cell? ⟨g, k * 5 + 1, none⟩ = some u := ⟨_, (ho4.cellAt (k * 5 + 1) (by omega)).trans (List.getElem?_eq_getElem (by omega))⟩
   have fy1 := ho4.frozenAt (k * 5 + 1)
   obtain ⟨y2, hy2⟩ : ∃ u, W4.cell? ⟨g, k * 5 + 2, none⟩ = some u := ⟨_, (ho4.cellAt (k * 5 + 2) (by omega)).trans (List.getElem?_eq_getElem (by omega))⟩
   have fy2 := ho4.frozenAt (k * 5 + 2)
   obtain ⟨y3, hy3⟩ : ∃ u, W4.cell? ⟨g, k * 5 + 3, none⟩ = some u := ⟨_, (ho4.cellAt (k * 5 + 3) (by omega)).trans (List.getElem?_eq_getElem (by omega))⟩
   have fy3 := ho4.frozenAt (k * 5 + 3)
   obtain ⟨y4, hy4⟩ : ∃ u, W4.cell? ⟨g, k * 5 + 4, none⟩ = some u := ⟨_, (ho4.cellAt (k * 5 + 4) (by omega)).trans (List.getElem?_eq_getElem (by omega))⟩
   have fy4 := ho4.frozenAt (k * 5 + 4)
   obtain ⟨W5, hW5⟩ : ∃ W, (((((W4.setCell ⟨g, k * 5, none⟩ (.bool false)).setCell ⟨g, k * 5 + 1, none⟩ (.int .i64 0)).setCell ⟨g, k * 5 + 2, none⟩ (.int .i64 0)).setCell ⟨g, k * 5 + 3, none⟩ (.int .i64 0)).setCell ⟨g, k * 5 + 4, none⟩ (.int .i64 0)) = W := ⟨_, rfl⟩
   have HO5 : Hid (W5.ownsRow base CellT 5 (.slice (some ⟨g, 0, none⟩) n c) n (((m.set i ⟨true, sa, sp, sv, st⟩).set k sl0).flatMap layS.cs)) := by rw [← hW5]; exact (stored5 (k := k) sl0 (Nat.le_refl g) ho4 (Below.refl g W4)).1
   have HSt5 : Hid (Stp g (g + 1) W4 W5) := by rw [← hW5]; exact stp_set5 W4 g k sl0
   have HStA := hide (HSt4.out.trans HSt5.out)
   have hgp : g < w.heap.size := hgw
   have cp4 : W4.cell? ⟨w.heap.size, 0, none⟩ = some (.slice (some ⟨g, 0, none⟩) n c) := HSt4.out.cell cp0 zp (.inr (by omega))
   have cp5 : W5.cell? ⟨w.heap.size, 0, none⟩ = some (.slice (some ⟨g, 0, none⟩) n c) := HStA.out.cell cp0 zp (.inr (by omega))
   have zp5 : w.heap.size < W5.heap.size := Nat.lt_of_lt_of_le zp HStA.out.size
   clear ho ho4 hln hln4 G0 G1 G2 hA hB hC Gs0 Gs1 Gs2 Gs3 Gs4
   go_wp2
   go_region
   go_wp2_with fail
   refine (behind_any (some ⟨g, 0, none⟩) n c k _ (by omega) (by omega) hkk).mono ?_
   rintro e W6 ⟨rfl, hb6⟩
   have HO6 : Hid (W6.ownsRow base CellT 5 (.slice (some ⟨g, 0, none⟩) n c) n (((m.set i ⟨true, sa, sp, sv, st⟩).set k sl0).flatMap layS.cs)) := own_kept (show World.ownsRow W5.drew _ _ _ _ _ _ from HO5.out) hb6
   have HC6 : Hid (W6.cell? ⟨w.heap.size, 0, none⟩ = some (.slice (some ⟨g, 0, none⟩) n c)) := (hb6.cell (p := ⟨w.heap.size, 0, none⟩) zp5).trans cp5
   have zc6 : w.heap.size < W6.heap.size := Nat.lt_of_lt_of_le zp5 hb6.size
   have HSt6 := hide (HStp.out.trans ((HStA.out.drew).trans (Stp.of hb6)))
   clear hb6 hu0 fu0 hy0 fy0 sp0 hu1 fu1 hy1 fy1 sp1 hu2 fu2 hy2 fy2 sp2 hu3 fu3 hy3 fy3 sp3 hu4 fu4 hy4 fy4 sp4
   go_wp2
   go_roundg (gk - 1)
   case measure => have := HNx.out.1; omega
   case rel => exact ⟨_, k, (k + 1) % n, rfl, by simp, HNx.out.2, HO6, HC6, zc6, HSt6⟩
  ·skip
   have HNx := hide (HI.out.stay (by rw [HX.out]) (by rw [HMv.out]; exact decide_eq_false (by omega)))
   have hmv' : decide (d2 ≤ d1) = false := decide_eq_false (by omega)
   have hmv2 : decide ((d2 : Int) ≤ (d1 : Int)) = false := decide_eq_false hmv
   clear ho
   go_wp2
   (refine wp_region_grown (by kernel_rfl) (by kernel_rfl) ?_; intro hne9; (repeat (go_big_quiet_step ((first | (go_at_call 331; exact hA _) | (go_at_call 330; first | with_reducible exact hB _ | with_reducible exact hC _))))); (with_reducible refine wpQuiet_nil ?_); intro _ hw9; obtain ⟨pq, hw8⟩ := hw9; subst hw8)
   have HOp := hide (own_kept HO3.out pq.b)
   have cp0 : pq.v.cell? ⟨w.heap.size, 0, none⟩ = some (.slice (some ⟨g, 0, none⟩) n c) := G0 pq
   have zp : w.heap.size < pq.v.heap.size := Nat.lt_of_lt_of_le zct3 pq.b.size
   have HStp := hide (HSt3.out.trans (Stp.of pq.b))
   clear G0 G1 G2 hA hB hC
   go_wp2_with fail
   refine (behind_any (some ⟨g, 0, none⟩) n c k _ (by omega) (by omega) hkk).mono ?_
   rintro e W6 ⟨rfl, hb6⟩
   have HO6 : Hid (W6.ownsRow base CellT 5 (.slice (some ⟨g, 0, none⟩) n c) n (m.flatMap layS.cs)) := own_kept HOp.out hb6
   have HC6 : Hid (W6.cell? ⟨w.heap.size, 0, none⟩ = some (.slice (some ⟨g, 0, none⟩) n c)) := (hb6.cell (p := ⟨w.heap.size, 0, none⟩) zp).trans cp0
   have zc6 : w.heap.size < W6.heap.size := Nat.lt_of_lt_of_le zp hb6.size
   have HSt6 := hide (HStp.out.trans (Stp.of hb6))
   clear hb6 cp0
   go_wp2
   go_roundg (gk - 1)
   case measure => have := HNx.out.1; omega
   case rel => exact ⟨m, i, (k + 1) % n, rfl, by simp, HNx.out.2, HO6, HC6, zc6, HSt6⟩

end Go.Proofs.YtmmhgkkcpjhiiaaGreat

namespace Go.Proofs.YtmmhgkkcpjhiiaaGreat
open Go.ChangeShapes Go.WideShapes Go.ChangeAt Go.RowKit Go.Joins
set_option linter.unusedVariables false
set_option linter.unusedSimpArgs false

set_option maxHeartbeats 8000000 in
theorem l5dropW_any (b off c : Nat) (l : List Sl) (a p : Int) (w : World) (hn : 0 < l.length) (h16 : l.length ≤ 16) (hf : flowOkB a p = true) (hok : flowsOk l) (hbl : b < w.heap.size) (hc : ∀ i, i < l.length → ∀ j, j < layS.k → w.cell? ⟨b, off + i * layS.k + j, none⟩ = (layS.cs (l.getD i layS.d))[j]?) :
  Calls Tryz.prog 254 #[tab (.slice (some ⟨b, off, none⟩) l.length c), flow a p] w fun e w' => ∃ b' off' c', e = .returned (.tuple #[tab (.slice (some ⟨b', off', none⟩) l.length c'), .bool (endL l a p).2]) ∧ b' < w'.heap.size ∧ (∀ i, i < (dropL l a p).length → ∀ j, j < layS.k → w'.cell? ⟨b', off' + i * layS.k + j, none⟩ = (layS.cs ((dropL l a p).getD i layS.d))[j]?) ∧ Below w.heap.size w w' ∧ (b' = b ∨ w.heap.size ≤ b') := by
 have HC := hide hc
 have hl : l.length ≤ 1048576 := by omega
 clear hc
 obtain ⟨W0, hW0⟩ : ∃ W, (((w.alloc (.cells #[.slice (some ⟨b, off, none⟩) l.length c] 32)).alloc (.cells #[.int .i64 a, .int .i64 p] 36)).alloc (.cells #[.slice none 0 0] 32)) = W := ⟨_, rfl⟩
 have hb_W0 : Below w.heap.size w W0 := by rw [← hW0]; exact ((((Below.refl _ _).alloc (Nat.le_refl _) _).alloc (by simp <;> omega) _).alloc (by simp <;> omega) _)
 have HB := hide hb_W0
 clear hb_W0
 have zct : w.heap.size < W0.heap.size := by rw [← hW0]; simp <;> omega
 have ct0 : W0.cell? ⟨w.heap.size, 0, none⟩ = some (.slice (some ⟨b, off, none⟩) l.length c) := by rw [← hW0]; simp [go_sem]
 have zcf : w.heap.size + 1 < W0.heap.size := by rw [← hW0]; simp <;> omega
 have cf0 : W0.cell? ⟨w.heap.size + 1, 0, none⟩ = some (.int .i64 a) := by rw [← hW0]; simp [go_sem]
 have cf1 : W0.cell? ⟨w.heap.size + 1, 1, none⟩ = some (.int .i64 p) := by rw [← hW0]; simp [go_sem]
 have zcr : w.heap.size + 1 + 1 < W0.heap.size := by rw [← hW0]; simp
 have cr0 : W0.cell? ⟨w.heap.size + 1 + 1, 0, none⟩ = some (.slice none 0 0) := by rw [← hW0]; simp [go_sem]
 have fcr0 : W0.frozen? ⟨w.heap.size + 1 + 1, 0, none⟩ = false := by rw [← hW0]; simp [go_sem]
 have hat := l5at_any (some ⟨b, off, none⟩) c l a p W0 (.inr ⟨b, off, rfl, Nat.lt_of_lt_of_le hbl HB.out.size, (fun i hi j hj => (HB.out.cell (p := ⟨b, off + i * layS.k + j, none⟩) hbl).trans (HC.out i hi j hj))⟩) hn hl hf
 have HZ := hide zcr
 rcases endL_cases l hn a p with hE | ⟨i0, hi0, ⟨hE, _⟩ | ⟨hE, _⟩⟩
 ·skip
  have HP := hide (dropL_no (l := l) (a := a) (p := p) (by rw [hE]))
  have HD := hide (show (endL l a p).2 = false by rw [hE])
  rw [hE] at hat
  clear hE
  go_enter Tryz.func254, Tryz.ntmps254
  go_wp2_with fail
  refine (hat).mono ?_
  rintro e v1 ⟨rfl, hb⟩
  replace ct0 : v1.cell? ⟨w.heap.size, 0, none⟩ = some (.slice (some ⟨b, off, none⟩) l.length c) := (hb.cell (p := ⟨w.heap.size, 0, none⟩) zct).trans ct0
  replace zct : w.heap.size < v1.heap.size := Nat.lt_of_lt_of_le zct hb.size
  replace cf0 : v1.cell? ⟨w.heap.size + 1, 0, none⟩ = some (.int .i64 a) := (hb.cell (p := ⟨w.heap.size + 1, 0, none⟩) zcf).trans cf0
  replace cf1 : v1.cell? ⟨w.heap.size + 1, 1, none⟩ = some (.int .i64 p) := (hb.cell (p := ⟨w.heap.size + 1, 1, none⟩) zcf).trans cf1
  replace zcf : w.heap.size + 1 < v1.heap.size := Nat.lt_of_lt_of_le zcf hb.size
  replace cr0 : v1.cell? ⟨w.heap.size + 1 + 1, 0, none⟩ = some (.slice none 0 0) := (hb.cell (p := ⟨w.heap.size + 1 + 1, 0, none⟩) zcr).trans cr0
  replace fcr0 : v1.frozen? ⟨w.heap.size + 1 + 1, 0, none⟩ = false := (hb.frozen (p := ⟨w.heap.size + 1 + 1, 0, none⟩) zcr).trans fcr0
  replace zcr : w.heap.size + 1 + 1 < v1.heap.size := Nat.lt_of_lt_of_le zcr hb.size
  replace HB := hide (HB.out.trans (hb.mono HB.out.size))
  clear hb
  clear hat
  go_wp2
  refine bodyPost_ret (v := .tuple #[tab (.slice (some ⟨b, off, none⟩) l.length c), .bool false]) (by simp [results, Tryz.results254, go_sem, cr0]) rfl ⟨b, off, c, by rw [HD.out], ?_, ?_, ?_, .inl rfl⟩
  ·have := HB.out.size; simp; omega
  ·rw [HP.out]
   intro i hi j hj
   have hB2 := HB.out.setCell (p := ⟨w.heap.size + 1 + 1, 0, none⟩) (by simp <;> omega) (.slice (some ⟨b, off, none⟩) l.length c)
   exact (hB2.cell (p := ⟨b, off + i * layS.k + j, none⟩) hbl).trans (HC.out i hi j hj)
  ·exact HB.out.setCell (p := ⟨w.heap.size + 1 + 1, 0, none⟩) (by simp <;> omega) _
 ·skip
  have HP := hide (dropL_no (l := l) (a := a) (p := p) (by rw [hE]))
  have HD := hide (show (endL l a p).2 = false by rw [hE])
  rw [hE] at hat
  clear hE
  go_enter Tryz.func254, Tryz.ntmps254
  go_wp2_with fail
  refine (hat).mono ?_
  rintro e v1 ⟨rfl, hb⟩
  replace ct0 : v1.cell? ⟨w.heap.size, 0, none⟩ = some (.slice (some ⟨b, off, none⟩) l.length c) := (hb.cell (p := ⟨w.heap.size, 0, none⟩) zct).trans ct0
  replace zct : w.heap.size < v1.heap.size := Nat.lt_of_lt_of_le zct hb.size
  replace cf0 : v1.cell? ⟨w.heap.size + 1, 0, none⟩ = some (.int .i64 a) := (hb.cell (p := ⟨w.heap.size + 1, 0, none⟩) zcf).trans cf0
  replace cf1 : v1.cell? ⟨w.heap.size + 1, 1, none⟩ = some (.int .i64 p) := (hb.cell (p := ⟨w.heap.size + 1, 1, none⟩) zcf).trans cf1
  replace zcf : w.heap.size + 1 < v1.heap.size := Nat.lt_of_lt_of_le zcf hb.size
  replace cr0 : v1.cell? ⟨w.heap.size + 1 + 1, 0, none⟩ = some (.slice none 0 0) := (hb.cell (p := ⟨w.heap.size + 1 + 1, 0, none⟩) zcr).trans cr0
  replace fcr0 : v1.frozen? ⟨w.heap.size + 1 + 1, 0, none⟩ = false := (hb.frozen (p := ⟨w.heap.size + 1 + 1, 0, none⟩) zcr).trans fcr0
  replace zcr : w.heap.size + 1 + 1 < v1.heap.size := Nat.lt_of_lt_of_le zcr hb.size
  replace HB := hide (HB.out.trans (hb.mono HB.out.size))
  clear hb
  clear hat
  go_wp2
  refine bodyPost_ret (v := .tuple #[tab (.slice (some ⟨b, off, none⟩) l.length c), .bool false]) (by simp [results, Tryz.results254, go_sem, cr0]) rfl ⟨b, off, c, by rw [HD.out], ?_, ?_, ?_, .inl rfl⟩
  ·have := HB.out.size; simp; omega
  ·rw [HP.out]
   intro i hi j hj
   have hB2 := HB.out.setCell (p := ⟨w.heap.size + 1 + 1, 0, none⟩) (by simp <;> omega) (.slice (some ⟨b, off, none⟩) l.length c)
   exact (hB2.cell (p := ⟨b, off + i * layS.k + j, none⟩) hbl).trans (HC.out i hi j hj)
  ·exact HB.out.setCell (p := ⟨w.heap.size + 1 + 1, 0, none⟩) (by simp <;> omega) _
 ·skip
  have HP := hide (dropL_yes hE)
  have HD := hide (show (endL l a p).2 = true by rw [hE])
  rw [hE] at hat
  clear hE
  have HInv0 := hide (DropInv.start (l := l) (i := i0) h16 hi0 hok)
  have i1 : (i0 : Int) < (l.length : Int) := by omega
  go_enter Tryz.func254, Tryz.ntmps254
  go_wp2_with fail
  refine (hat).mono ?_
  rintro e v1 ⟨rfl, hb⟩
  replace ct0 : v1.cell? ⟨w.heap.size, 0, none⟩ = some (.slice (some ⟨b, off, none⟩) l.length c) := (hb.cell (p := ⟨w.heap.size, 0, none⟩) zct).trans ct0
  replace zct : w.heap.size < v1.heap.size := Nat.lt_of_lt_of_le zct hb.size
  replace cf0 : v1.cell? ⟨w.heap.size + 1, 0, none⟩ = some (.int .i64 a) := (hb.cell (p := ⟨w.heap.size + 1, 0, none⟩) zcf).trans cf0
  replace cf1 : v1.cell? ⟨w.heap.size + 1, 1, none⟩ = some (.int .i64 p) := (hb.cell (p := ⟨w.heap.size + 1, 1, none⟩) zcf).trans cf1
  replace zcf : w.heap.size + 1 < v1.heap.size := Nat.lt_of_lt_of_le zcf hb.size
  replace cr0 : v1.cell? ⟨w.heap.size + 1 + 1, 0, none⟩ = some (.slice none 0 0) := (hb.cell (p := ⟨w.heap.size + 1 + 1, 0, none⟩) zcr).trans cr0
  replace fcr0 : v1.frozen? ⟨w.heap.size + 1 + 1, 0, none⟩ = false := (hb.frozen (p := ⟨w.heap.size + 1 + 1, 0, none⟩) zcr).trans fcr0
  replace zcr : w.heap.size + 1 + 1 < v1.heap.size := Nat.lt_of_lt_of_le zcr hb.size
  replace HB := hide (HB.out.trans (hb.mono HB.out.size))
  clear hb
  go_wp2_with fail
  refine (l5own_any b off c l v1 (Nat.lt_of_lt_of_le hbl HB.out.size) (fun i hi j hj => (HB.out.cell (p := ⟨b, off + i * layS.k + j, none⟩) hbl).trans (HC.out i hi j hj)) hl).mono ?_
  rintro e v2 ⟨o2, c2, rfl, hown, hb⟩
  have HV1 := hide zcr
  obtain ⟨g, c3, hve⟩ : ∃ g c3, Value.slice o2 l.length c2 = .slice (some ⟨g, 0, none⟩) l.length c3 := by
   rcases hown.2 with ⟨_, h0⟩ | ⟨g, c3, _, h0, _⟩
   ·exact absurd h0 (by omega)
   ·exact ⟨g, c3, h0⟩
  injection hve with hv1 hv2 hv3
  subst hv1 hv3
  have HO := hide hown
  clear hown
  replace ct0 : v2.cell? ⟨w.heap.size, 0, none⟩ = some (.slice (some ⟨b, off, none⟩) l.length c) := (hb.cell (p := ⟨w.heap.size, 0, none⟩) zct).trans ct0
  replace zct : w.heap.size < v2.heap.size := Nat.lt_of_lt_of_le zct hb.size
  replace cf0 : v2.cell? ⟨w.heap.size + 1, 0, none⟩ = some (.int .i64 a) := (hb.cell (p := ⟨w.heap.size + 1, 0, none⟩) zcf).trans cf0
  replace cf1 : v2.cell? ⟨w.heap.size + 1, 1, none⟩ = some (.int .i64 p) := (hb.cell (p := ⟨w.heap.size + 1, 1, none⟩) zcf).trans cf1
  replace zcf : w.heap.size + 1 < v2.heap.size := Nat.lt_of_lt_of_le zcf hb.size
  replace cr0 : v2.cell? ⟨w.heap.size + 1 + 1, 0, none⟩ = some (.slice none 0 0) := (hb.cell (p := ⟨w.heap.size + 1 + 1, 0, none⟩) zcr).trans cr0
  replace fcr0 : v2.frozen? ⟨w.heap.size + 1 + 1, 0, none⟩ = false := (hb.frozen (p := ⟨w.heap.size + 1 + 1, 0, none⟩) zcr).trans fcr0
  replace zcr : w.heap.size + 1 + 1 < v2.heap.size := Nat.lt_of_lt_of_le zcr hb.size
  replace HB := hide (HB.out.trans (hb.mono HB.out.size))
  clear hb
  have HOv := HO
  obtain ⟨W2, hW2⟩ : ∃ W, (v2.alloc (.cells #[.slice (some ⟨g, 0, none⟩) l.length c2] 32)) = W := ⟨_, rfl⟩
  have hb_W2 : Below v2.heap.size v2 W2 := by rw [← hW2]; exact ((Below.refl _ _).alloc (Nat.le_refl _) _)
  replace ct0 : W2.cell? ⟨w.heap.size, 0, none⟩ = some (.slice (some ⟨b, off, none⟩) l.length c) := (hb_W2.cell (p := ⟨w.heap.size, 0, none⟩) zct).trans ct0
  replace zct : w.heap.size < W2.heap.size := Nat.lt_of_lt_of_le zct hb_W2.size
  replace cf0 : W2.cell? ⟨w.heap.size + 1, 0, none⟩ = some (.int .i64 a) := (hb_W2.cell (p := ⟨w.heap.size + 1, 0, none⟩) zcf).trans cf0
  replace cf1 : W2.cell? ⟨w.heap.size + 1, 1, none⟩ = some (.int .i64 p) := (hb_W2.cell (p := ⟨w.heap.size + 1, 1, none⟩) zcf).trans cf1
  replace zcf : w.heap.size + 1 < W2.heap.size := Nat.lt_of_lt_of_le zcf hb_W2.size
  replace cr0 : W2.cell? ⟨w.heap.size + 1 + 1, 0, none⟩ = some (.slice none 0 0) := (hb_W2.cell (p := ⟨w.heap.size + 1 + 1, 0, none⟩) zcr).trans cr0
  replace fcr0 : W2.frozen? ⟨w.heap.size + 1 + 1, 0, none⟩ = false := (hb_W2.frozen (p := ⟨w.heap.size + 1 + 1, 0, none⟩) zcr).trans fcr0
  replace zcr : w.heap.size + 1 + 1 < W2.heap.size := Nat.lt_of_lt_of_le zcr hb_W2.size
  replace HO := hide (own_kept HO.out hb_W2)
  replace HB := hide (HB.out.trans (hb_W2.mono HB.out.size))
  clear hb_W2
  have zco : v2.heap.size < W2.heap.size := by rw [← hW2]; simp
  have co0 : W2.cell? ⟨v2.heap.size, 0, none⟩ = some (.slice (some ⟨g, 0, none⟩) l.length c2) := by rw [← hW2]; simp [go_sem]
  have hgb := (HOv.out.lt g rfl)
  have hgv : v1.heap.size ≤ g := hgb.1
  have hg2 : g + 1 ≤ v2.heap.size := hgb.2
  have hz1 := HV1.out
  have hzo2 := zco
  have ho : W2.ownsRow v1.heap.size 160 5 (.slice (some ⟨g, 0, none⟩) l.length c2) l.length (l.flatMap layS.cs) := HO.out
  have hln : (l.flatMap layS.cs).length = l.length * 5 := by rw [flat_length]; rfl
  obtain ⟨u0, hu0⟩ : ∃ u, W2.cell? ⟨g, i0 * 5, none⟩ = some u := ⟨_, (ho.cellAt (i0 * 5) (by omega)).trans (List.getElem?_eq_getElem (by omega))⟩
  have fu0 := ho.frozenAt (i0 * 5)
  obtain ⟨u1, hu1⟩ : ∃ u, W2.cell? ⟨g, i0 * 5 + 1, none⟩ = some u := ⟨_, (ho.cellAt (i0 * 5 + 1) (by omega)).trans (List.getElem?_eq_getElem (by omega))⟩
  have fu1 := ho.frozenAt (i0 * 5 + 1)
  obtain ⟨u2, hu2⟩ : ∃ u, W2.cell? ⟨g, i0 * 5 + 2, none⟩ = some u := ⟨_, (ho.cellAt (i0 * 5 + 2) (by omega)).trans (List.getElem?_eq_getElem (by omega))⟩
  have fu2 := ho.frozenAt (i0 * 5 + 2)
  obtain ⟨u3, hu3⟩ : ∃ u, W2.cell? ⟨g, i0 * 5 + 3, none⟩ = some u := ⟨_, (ho.cellAt (i0 * 5 + 3) (by omega)).trans (List.getElem?_eq_getElem (by omega))⟩
  have fu3 := ho.frozenAt (i0 * 5 + 3)
  obtain ⟨u4, hu4⟩ : ∃ u, W2.cell? ⟨g, i0 * 5 + 4, none⟩ = some u := ⟨_, (ho.cellAt (i0 * 5 + 4) (by omega)).trans (List.getElem?_eq_getElem (by omega))⟩
  have fu4 := ho.frozenAt (i0 * 5 + 4)
  obtain ⟨W3, hW3⟩ : ∃ W, (((((W2.setCell ⟨g, i0 * 5, none⟩ (.bool false)).setCell ⟨g, i0 * 5 + 1, none⟩ (.int .i64 0)).setCell ⟨g, i0 * 5 + 2, none⟩ (.int .i64 0)).setCell ⟨g, i0 * 5 + 3, none⟩ (.int .i64 0)).setCell ⟨g, i0 * 5 + 4, none⟩ (.int .i64 0)) = W := ⟨_, rfl⟩
  have HO3 : Hid (W3.ownsRow v1.heap.size 160 5 (.slice (some ⟨g, 0, none⟩) l.length c2) l.length ((l.set i0 sl0).flatMap layS.cs)) := by rw [← hW3]; exact (stored5 (k := i0) sl0 (Nat.le_refl g) ho (Below.refl g W2)).1
  have HSt3 : Hid (Stp g (g + 1) W2 W3) := by rw [← hW3]; exact stp_set5 W2 g i0 sl0
  have co3 := HSt3.out.cell co0 zco (.inr hg2)
  have hm0 := next_tmod l.length i0
  have hne0 : ((l.length : Int) == 0) = false := beq_eq_false_iff_ne.2 (by omega)
  clear ho hln hat
  go_wp2
  go_loopg [6, 10] (meas (l.set i0 sl0) i0 ((i0 + 1) % l.length)) (fun gk iv kv wr => ∃ (m : List Sl) (i k : Nat), iv = .int .i64 i ∧ kv = .int .i64 k ∧ Hid (DropInv l.length (dropAtL l i0) gk m i k) ∧ Hid (wr.ownsRow v1.heap.size 160 5 (.slice (some ⟨g, 0, none⟩) l.length c2) l.length (m.flatMap layS.cs)) ∧ Hid (Stp g (g + 1) W2 wr))
  case atStart => exact ⟨_, i0, (i0 + 1) % l.length, rfl, by simp, HInv0, HO3, HSt3⟩
  case round =>
   clear co3 HO3 HSt3 hW3 HInv0 hu0 fu0 hu1 fu1 hu2 fu2 hu3 fu3 hu4 fu4 hm0
   obtain ⟨m, i, k, rfl, rfl, HI, HOr, HSt⟩ := hrel
   have hml := hide HI.out.len
   have hik := HI.out.hi
   have hkk := HI.out.hk
   have ho : wr.ownsRow v1.heap.size 160 5 (.slice (some ⟨g, 0, none⟩) l.length c2) l.length (m.flatMap layS.cs) := HOr.out
   have hszr : W2.heap.size ≤ wr.heap.size := HSt.out.size
   have cor := HSt.out.cell co0 zco (.inr hg2)
   have crr := HSt.out.cell cr0 zcr (.inl (show w.heap.size + 1 + 1 < g by omega))
   have fcrr := HSt.out.frozen fcr0 zcr (.inl (show w.heap.size + 1 + 1 < g by omega))
   have hk1 : (k : Int) < (l.length : Int) := by omega
   have hi1 : (i : Int) < (l.length : Int) := by omega
   obtain ⟨s, hxy⟩ : ∃ s, m.getD k sl0 = s := ⟨_, rfl⟩
   have hrk := rd_row ho hml.out.symm k hkk
   rw [hxy] at hrk
   have e0 := hrk.1
   have e1 := hrk.2.1
   have e2 := hrk.2.2.1
   have e3 := hrk.2.2.2.1
   have e4 := hrk.2.2.2.2
   have HX := hide hxy
   clear hrk hxy
   have hsz3 : w.heap.size + 1 + 1 < v1.heap.size := hz1
   by_cases hki : k = i
   ·have HDn := hide (HI.out.done (by rw [hki]; exact HI.out.free))
    subst hki
    clear ho
    go_wp2
    refine bodyPost_ret (v := .tuple #[tab (.slice (some ⟨g, 0, none⟩) l.length c2), .bool true]) (by simp [results, Tryz.results254, go_sem, crr]) rfl ⟨g, 0, c2, by rw [HD.out], ?_, ?_, ?_, .inr (by omega)⟩
    ·have h := (HOr.out.lt g rfl).2; simpa using h
    ·rw [HP.out, ← HDn.out]
     have h := ownsRow_setCell_below HOr.out (a := ⟨w.heap.size + 1 + 1, 0, none⟩) hsz3 (.slice (some ⟨g, 0, none⟩) l.length c2)
     exact rd_of_own h hml.out.symm
    ·exact (HB.out.trans (HSt.out.below (by omega) (by omega))).setCell (p := ⟨w.heap.size + 1 + 1, 0, none⟩) (by simp <;> omega) _
   ·have hki2 : ((k : Int) == (i : Int)) = false := beq_eq_false_iff_ne.2 (by omega)
    have hki3 : ¬ (k : Int) = (i : Int) := by omega
    obtain ⟨su, sa, sp, sv, st⟩ := s
    simp only at e0 e1 e2 e3 e4
    cases su with
    | false =>
     have HDn := hide (HI.out.done (by rw [HX.out]))
     clear ho
     go_wp2
     refine bodyPost_ret (v := .tuple #[tab (.slice (some ⟨g, 0, none⟩) l.length c2), .bool true]) (by simp [results, Tryz.results254, go_sem, crr]) rfl ⟨g, 0, c2, by rw [HD.out], ?_, ?_, ?_, .inr (by omega)⟩
     ·have h := (HOr.out.lt g rfl).2; simpa using h
     ·rw [HP.out, ← HDn.out]
      have h := ownsRow_setCell_below HOr.out (a := ⟨w.heap.size + 1 + 1, 0, none⟩) hsz3 (.slice (some ⟨g, 0, none⟩) l.length c2)
      exact rd_of_own h hml.out.symm
     ·exact (HB.out.trans (HSt.out.below (by omega) (by omega))).setCell (p := ⟨w.heap.size + 1 + 1, 0, none⟩) (by simp <;> omega) _
    | true =>
     have hfo : flowOkB sa sp = true := by have h := HI.out.ok k (by have := hml.out; omega) (by rw [HX.out]); rw [HX.out] at h; exact h
     have hhl := homeN_lt hn sa sp
     have HMv := hide (show moves l.length m i k = decide (farN l.length i k ≤ farN l.length (homeN l.length sa sp) k) by unfold moves; rw [HX.out])
     have HOx := hide ho
     clear ho
     go_wp2_with fail
     refine (l5home_any l.length sa sp wr hn hl hfo).mono ?_
     rintro e W6 ⟨rfl, hb6⟩
     generalize homeN l.length sa sp = hm at *
     have hm1 : (hm : Int) < (l.length : Int) := by omega
     have hf1 := far_tmod hhl hkk
     have hf2 := far_tmod hik hkk
     have hnx := next_tmod l.length k
     have ho6 : W6.ownsRow v1.heap.size 160 5 (.slice (some ⟨g, 0, none⟩) l.length c2) l.length (m.flatMap layS.cs) := own_kept HOx.out hb6
     have zcor : v2.heap.size < wr.heap.size := by omega
     have co6 : W6.cell? ⟨v2.heap.size, 0, none⟩ = some (.slice (some ⟨g, 0, none⟩) l.length c2) := (hb6.cell (p := ⟨v2.heap.size, 0, none⟩) zcor).trans cor
     have HSt6 := hide (HSt.out.trans (Stp.of hb6))
     clear hb6 cor crr fcrr
     generalize farN l.length hm k = d1 at *
     generalize farN l.length i k = d2 at *
     by_cases hmv : (d2 : Int) ≤ (d1 : Int)
     ·skip
      have HNx := hide (HI.out.move (by rw [HX.out]) (by rw [HMv.out]; exact decide_eq_true (by omega)))
      rw [HX.out] at HNx
      have hln : (m.flatMap layS.cs).length = l.length * 5 := by rw [flat_length, hml.out]; rfl
      have hrk := rd_row ho6 hml.out.symm k hkk
      rw [HX.out] at hrk
      have g0 := hrk.1
      have g1 := hrk.2.1
      have g2 := hrk.2.2.1
      have g3 := hrk.2.2.2.1
      have g4 := hrk.2.2.2.2
      simp only at g0 g1 g2 g3 g4
      clear hrk e0 e1 e2 e3 e4
      obtain ⟨u0, hu0⟩ : ∃ u, W6.cell? ⟨g, i * 5, none⟩ = some u := ⟨_, (ho6.cellAt (i * 5) (by omega)).trans (List.getElem?_eq_getElem (by omega))⟩
      have fu0 := ho6.frozenAt (i * 5)
      obtain ⟨u1, hu1⟩ : ∃ u, W6.cell? ⟨g, i * 5 + 1, none⟩ = some u := ⟨_, (ho6.cellAt (i * 5 + 1) (by omega)).trans (List.getElem?_eq_getElem (by omega))⟩
      have fu1 := ho6.frozenAt (i * 5 + 1)
      obtain ⟨u2, hu2⟩ : ∃ u, W6.cell? ⟨g, i * 5 + 2, none⟩ = some u := ⟨_, (ho6.cellAt (i * 5 + 2) (by omega)).trans (List.getElem?_eq_getElem (by omega))⟩
      have fu2 := ho6.frozenAt (i * 5 + 2)
      obtain ⟨u3, hu3⟩ : ∃ u, W6.cell? ⟨g, i * 5 + 3, none⟩ = some u := ⟨_, (ho6.cellAt (i * 5 + 3) (by omega)).trans (List.getElem?_eq_getElem (by omega))⟩
      have fu3 := ho6.frozenAt (i * 5 + 3)
      obtain ⟨u4, hu4⟩ : ∃ u, W6.cell? ⟨g, i * 5 + 4, none⟩ = some u := ⟨_, (ho6.cellAt (i * 5 + 4) (by omega)).trans (List.getElem?_eq_getElem (by omega))⟩
      have fu4 := ho6.frozenAt (i * 5 + 4)
      obtain ⟨W4, hW4⟩ : ∃ W, (((((W6.setCell ⟨g, i * 5, none⟩ (.bool true)).setCell ⟨g, i * 5 + 1, none⟩ (.int .i64 sa)).setCell ⟨g, i * 5 + 2, none⟩ (.int .i64 sp)).setCell ⟨g, i * 5 + 3, none⟩ (.int .i64 sv)).setCell ⟨g, i * 5 + 4, none⟩ (.int .i64 st)) = W := ⟨_, rfl⟩
      have ho4 : W4.ownsRow v1.heap.size 160 5 (.slice (some ⟨g, 0, none⟩) l.length c2) l.length ((m.set i ⟨true, sa, sp, sv, st⟩).flatMap layS.cs) := by rw [← hW4]; exact (stored5 (k := i) ⟨true, sa, sp, sv, st⟩ (Nat.le_refl g) ho6 (Below.refl g W6)).1
      have HSt4 : Hid (Stp g (g + 1) W6 W4) := by rw [← hW4]; exact stp_set5 W6 g i ⟨true, sa, sp, sv, st⟩
      have hln4 : ((m.set i ⟨true, sa, sp, sv, st⟩).flatMap layS.cs).length = l.length * 5 := by rw [flat_length, List.length_set, hml.out]; rfl
      have zco6 : v2.heap.size < W6.heap.size := Nat.lt_of_lt_of_le hzo2 HSt6.out.size
      have co4 := HSt4.out.cell co6 zco6 (.inr hg2)
      obtain ⟨y0, hy0⟩ : ∃ u, W4.cell? ⟨g, k * 5, none⟩ = some u := ⟨_, (ho4.cellAt (k * 5) (by omega)).trans (List.getElem?_eq_getElem (by omega))⟩
      have fy0 := ho4.frozenAt (k * 5)
      obtain ⟨y1, hy1⟩ : ∃ u, W4.cell? ⟨g, k * 5 + 1, none⟩ = some u := ⟨_, (ho4.cellAt (k * 5 + 1) (by omega)).trans (List.getElem?_eq_getElem (by omega))⟩
      have fy1 := ho4.frozenAt (k * 5 + 1)
      obtain ⟨y2, hy2⟩ : ∃ u, W4.cell? ⟨g, k * 5 + 2, none⟩ = some u := ⟨_, (ho4.cellAt (k * 5 + 2) (by omega)).trans (List.getElem?_eq_getElem (by omega))⟩
      have fy2 := ho4.frozenAt (k * 5 + 2)
      obtain ⟨y3, hy3⟩ : ∃ u, W4.cell? ⟨g, k * 5 + 3, none⟩ = some u := ⟨_, (ho4.cellAt (k * 5 + 3) (by omega)).trans (List.getElem?_eq_getElem (by omega))⟩
      have fy3 := ho4.frozenAt (k * 5 + 3)
      obtain ⟨y4, hy4⟩ : ∃ u, W4.cell? ⟨g, k * 5 + 4, none⟩ = some u := ⟨_, (ho4.cellAt (k * 5 + 4) (by omega)).trans (List.getElem?_eq_getElem (by omega))⟩
      have fy4 := ho4.frozenAt (k * 5 + 4)
      obtain ⟨W5, hW5⟩ : ∃ W, (((((W4.setCell ⟨g, k * 5, none⟩ (.bool false)).setCell ⟨g, k * 5 + 1, none⟩ (.int .i64 0)).setCell ⟨g, k * 5 + 2, none⟩ (.int .i64 0)).setCell ⟨g, k * 5 + 3, none⟩ (.int .i64 0)).setCell ⟨g, k * 5 + 4, none⟩ (.int .i64 0)) = W := ⟨_, rfl⟩
      have HO5 : Hid (W5.ownsRow v1.heap.size 160 5 (.slice (some ⟨g, 0, none⟩) l.length c2) l.length (((m.set i ⟨true, sa, sp, sv, st⟩).set k sl0).flatMap layS.cs)) := by rw [← hW5]; exact (stored5 (k := k) sl0 (Nat.le_refl g) ho4 (Below.refl g W4)).1
      have HSt5 : Hid (Stp g (g + 1) W4 W5) := by rw [← hW5]; exact stp_set5 W4 g k sl0
      have HStA := hide (HSt6.out.trans (HSt4.out.trans HSt5.out))
      clear ho6 ho4 hln hln4
      go_wp2
      go_region
      go_wp2
      go_region
      go_wp2
      go_roundg (gk - 1)
      case measure => have := HNx.out.1; omega
      case rel => exact ⟨_, k, (k + 1) % l.length, rfl, by simp, HNx.out.2, HO5, HStA.out.drew.drew⟩
     ·skip
      have HNx := hide (HI.out.stay (by rw [HX.out]) (by rw [HMv.out]; exact decide_eq_false (by omega)))
      have hmv' : decide (d2 ≤ d1) = false := decide_eq_false (by omega)
      have hmv2 : decide ((d2 : Int) ≤ (d1 : Int)) = false := decide_eq_false hmv
      have HO6 := hide ho6
      clear ho6
      go_wp2
      go_region
      go_wp2
      go_roundg (gk - 1)
      case measure => have := HNx.out.1; omega
      case rel => exact ⟨m, i, (k + 1) % l.length, rfl, by simp, HNx.out.2, HO6, HSt6.out.drew⟩

end Go.Proofs.YtmmhgkkcpjhiiaaGreat

namespace Go.Proofs.YtmmhgkkcpjhiiaaGreat
open Go.ChangeShapes Go.WideShapes Go.ChangeAt Go.RowKit Go.Joins
set_option linter.unusedVariables false
set_option linter.unusedSimpArgs false

def RcPm (lo hi : Nat) (w : World) (v : Value) (m : Pm) : Prop := ∃ vb vr, v = plv m.key vb vr ∧ RiV layK lo hi w vb m.l ∧ capV vb ∧ RcR lo hi w vr m.ring ∧ capV vr
theorem InT.rc {lo hi : Nat} {w : World} {v : Value} {ll : List (List Int)} (h : InT lo hi w v ll) : RcT lo hi w v ll := InRows.ri RcI.mon (fun q => ⟨InRow.ri q, InRow.cap q⟩) h
theorem InR.rc {lo hi : Nat} {w : World} {v : Value} {ll : List (List (List Int))} (h : InR lo hi w v ll) : RcR lo hi w v ll := InRows.ri RcT.mon (fun q => InT.rc q) h
theorem InPm.rc {lo hi : Nat} {w : World} {v : Value} {m : Pm} (h : InPm lo hi w v m) : RcPm 0 hi w v m := by
 obtain ⟨vb, vr, mid, e, k1, k2, h1, h2⟩ := h
 obtain ⟨hs, L, H, h3, _⟩ := id h2
 exact ⟨vb, vr, e, (InRow.ri h1).mono (Nat.zero_le _) k2, InRow.cap h1, RcR.mon.go (InR.rc h2) (Nat.zero_le _) (Nat.le_refl _), InRow.cap h3⟩
theorem RcPm.le {lo C D : Nat} {w : World} {v : Value} {m : Pm} (h : RcPm lo C w v m) (hc : C ≤ D) : RcPm lo D w v m := by
 obtain ⟨vb, vr, e, h1, h2, h3, h4⟩ := h
 exact ⟨vb, vr, e, h1.mono (Nat.le_refl _) hc, h2, RcR.mon.go h3 (Nat.le_refl _) hc, h4⟩
theorem RcPm.kept {lo C D : Nat} {w w' : World} {v : Value} {m : Pm} (h : RcPm lo C w v m) (hb : Below D w w') (hc : C ≤ D) : RcPm lo C w' v m := by
 obtain ⟨vb, vr, e, h1, h2, h3, h4⟩ := h
 have s : Stp C (w.heap.size + C) w w' := ⟨hb.os, hb.tape, hb.output, hb.size, fun k hk hn => hb.block k (by omega)⟩
 exact ⟨vb, vr, e, h1.step s (.inr (Nat.le_refl _)), h2, RcR.stp.go h3 s (.inr (Nat.le_refl _)), h4⟩
theorem RcPm.mono {a b a' b' : Nat} {w : World} {v : Value} {m : Pm} (h : RcPm a b w v m) (k1 : a' ≤ a) (k2 : b ≤ b') : RcPm a' b' w v m := by
 obtain ⟨vb, vr, e, h1, h2, h3, h4⟩ := h
 exact ⟨vb, vr, e, h1.mono k1 k2, h2, RcR.mon.go h3 k1 k2, h4⟩
theorem RcPm.step {a b lo hi : Nat} {w w' : World} {v : Value} {m : Pm} (h : RcPm a b w v m) (s : Stp lo hi w w') (hd : hi ≤ a ∨ b ≤ lo) : RcPm a b w' v m := by
 obtain ⟨vb, vr, e, h1, h2, h3, h4⟩ := h
 exact ⟨vb, vr, e, h1.step s hd, h2, RcR.stp.go h3 s hd, h4⟩
theorem own_pool {w : World} {base : Nat} {key : Int} {l : List Bk} {hs : List Hd} {lll : List (List (List Int))} {o2 oQ : Option Addr} {nb c2 n cQ : Nat} (hn : nb = l.length) (h1 : ownK w base (.slice o2 nb c2) l) (h2 : ownL layH 51 w base (.slice oQ n cQ) hs) (h3 : GTabs w base hs lll) : RcPm base w.heap.size w (plv key (.slice o2 nb c2) (.slice oQ n cQ)) ⟨key, l, lll⟩ := by
 subst hn
 exact ⟨_, _, rfl, InRow.ri (InRow.of h1), InRow.cap (InRow.of h1), GTabs.rc h3 h2, InRow.cap (InRow.of h2)⟩
theorem RcPm.opn {lo hi : Nat} {w : World} {v : Value} {m : Pm} (h : RcPm lo hi w v m) : ∃ (o : Option Addr) (c : Nat) (oR : Option Addr) (cR : Nat), v = plv m.key (.slice o m.l.length c) (.slice oR m.ring.length cR) := by
 obtain ⟨vb, vr, e, ⟨o, c, e1, _⟩, _, h2, _⟩ := h
 obtain ⟨oR, cR, e2⟩ := RiR.len (RcR.ri h2)
 exact ⟨o, c, oR, cR, by rw [e, e1, e2]⟩
theorem RcPm.rd {lo hi : Nat} {w : World} {v : Value} {m : Pm} (h : RcPm lo hi w v m) : RdPm hi w v m := by
 obtain ⟨vb, vr, e, h1, _, h2, _⟩ := h
 exact ⟨vb, vr, e, h1.mono (Nat.zero_le _) (Nat.le_refl _), RiR.mon.go (RcR.ri h2) (Nat.zero_le _) (Nat.le_refl _)⟩
theorem l4own_rc (key : Int) (o : Option Addr) (cap : Nat) (l : List Bk) (oR : Option Addr) (cR : Nat) (lll : List (List (List Int))) (n : Nat) (hnn : n = lll.length) (w : World) (hR : RdK w.heap.size w o l) (hn : o = none → cap = 0) (hlen : l.length ≤ 1048576) (hG : RcR 0 w.heap.size w (.slice oR n cR) lll) (hf : n ≤ 1048576) (hx : ∀ i, i < lll.length → (lll.getD i []).length ≤ 1048576) (hy : ∀ i, i < lll.length → ∀ j, j < (lll.getD i []).length → ((lll.getD i []).getD j []).length ≤ 1048576) :
  Calls Tryz.prog 250 #[plv key (.slice o l.length cap) (.slice oR n cR)] w fun e w' => ∃ v, e = .returned v ∧ RcPm w.heap.size w'.heap.size w' v ⟨key, l, lll⟩ ∧ Below w.heap.size w w' := by
 refine (l4own_gt key o cap l oR cR lll n hnn w hR hn hlen hG hf hx hy).mono ?_
 rintro e w' ⟨o2, c2, oQ, cQ, hs, rfl, h1, h2, h3, hb⟩
 exact ⟨_, rfl, own_pool rfl h1 h2 h3, hb⟩

end Go.Proofs.YtmmhgkkcpjhiiaaGreat

namespace Go.Proofs.YtmmhgkkcpjhiiaaGreat
open Go.ChangeShapes Go.WideShapes Go.ChangeAt Go.RowKit Go.Joins
set_option linter.unusedVariables false
set_option linter.unusedSimpArgs false


def OwBm (lo hi : Nat) (w : World) (v : Value) (m : Bm) : Prop := ∃ vl vb vr vt, v = balv m.j.key vl m.j.safe m.p.key vb vr vt ∧ InJm lo hi w (jrn m.j.key vl m.j.safe) m.j ∧ RcPm lo hi w (plv m.p.key vb vr) m.p ∧ InTb lo hi w (tab vt) m.t
theorem OwBm.step {x y lo hi : Nat} {w w' : World} {v : Value} {m : Bm} (h : OwBm x y w v m) (s : Stp lo hi w w') (hd : hi ≤ x ∨ y ≤ lo) : OwBm x y w' v m := by
 obtain ⟨vl, vb, vr, vt, e, h1, h2, h3⟩ := h
 exact ⟨vl, vb, vr, vt, e, h1.step s hd, h2.step s hd, h3.step s hd⟩
theorem OwBm.rd {x y : Nat} {w : World} {v : Value} {m : Bm} (h : OwBm x y w v m) : RdBm y w v m := by
 obtain ⟨vl, vb, vr, vt, e, h1, h2, h3⟩ := h
 exact ⟨vl, vb, vr, vt, e, h1.rd, h2.rd, h3.rd⟩
theorem OwBm.mono {x y x' y' : Nat} {w : World} {v : Value} {m : Bm} (h : OwBm x y w v m) (h1 : x' ≤ x) (h2 : y ≤ y') : OwBm x' y' w v m := by
 obtain ⟨vl, vb, vr, vt, e, ⟨vl', e1, i1⟩, i2, ⟨vt', e3, i3⟩⟩ := h
 exact ⟨vl, vb, vr, vt, e, ⟨vl', e1, InRow.mono i1 h1 h2⟩, i2.mono h1 h2, ⟨vt', e3, InRow.mono i3 h1 h2⟩⟩
theorem pm0_rc (lo hi : Nat) (w : World) : RcPm lo hi w (plv 0 (.slice none 0 0) (.slice none 0 0)) pm0 := ⟨_, _, rfl, ⟨none, 0, rfl, .inl rfl⟩, fun n c e => by injection e with _ _ e3; exact e3.symm, ⟨[], rfl, ⟨none, 0, rfl, .inl rfl⟩, fun i h => absurd h (Nat.not_lt_zero _)⟩, fun n c e => by injection e with _ _ e3; exact e3.symm⟩
theorem InBm.ow {lo hi : Nat} {w : World} {v : Value} {m : Bm} (h : InBm lo hi w v m) : OwBm 0 hi w v m := by
 obtain ⟨vl, vb, vr, vt, j0, j1, p0, p1, t0, t1, e, k, ⟨vl', e1, i1⟩, i2, ⟨vt', e3, i3⟩⟩ := h
 exact ⟨vl, vb, vr, vt, e, ⟨vl', e1, InRow.mono i1 (Nat.zero_le _) (by omega)⟩, i2.rc.mono (Nat.le_refl _) (by omega), ⟨vt', e3, InRow.mono i3 (Nat.zero_le _) (by omega)⟩⟩
theorem bm0_ow (lo hi : Nat) (w : World) : OwBm lo hi w (balv 0 (.slice none 0 0) 0 0 (.slice none 0 0) (.slice none 0 0) (.slice none 0 0)) bm0 := ⟨_, _, _, _, rfl, ⟨_, rfl, World.ownsRow_nil _ _ _ _, fun b e => by cases e⟩, pm0_rc lo hi w, ⟨_, rfl, World.ownsRow_nil _ _ _ _, fun b e => by cases e⟩⟩
theorem own7_opn {kp : Int} {lb : List Bk} {lr : List (List (List Int))} {np nr a b : Nat} {w : World} {v : Value} (h1 : np = lb.length) (h2 : nr = lr.length) (h : RcPm a b w v ⟨kp, lb, lr⟩) : ∃ (o : Option Addr) (c : Nat) (oR : Option Addr) (cR : Nat), v = plv kp (.slice o np c) (.slice oR nr cR) := by
 obtain ⟨o, c, oR, cR, e⟩ := h.opn
 exact ⟨o, c, oR, cR, by rw [e, h1, h2]⟩
theorem own7_keep {x : World} {B : Nat} {u0 u1 u2 u3 u4 u5 u6 : Value} (h0 : x.cell? ⟨B, 0, none⟩ = some u0) (h1 : x.cell? ⟨B, 1, none⟩ = some u1) (h2 : x.cell? ⟨B, 2, none⟩ = some u2) (h3 : x.cell? ⟨B, 3, none⟩ = some u3) (h4 : x.cell? ⟨B, 4, none⟩ = some u4) (h5 : x.cell? ⟨B, 5, none⟩ = some u5) (h6 : x.cell? ⟨B, 6, none⟩ = some u6) (x0 x1 x2 x3 x4 x5 x6 : Value) : (setB x (B + 1) x0 x1 x2 x3 x4 x5 x6).cell? ⟨B, 0, none⟩ = some u0 ∧ (setB x (B + 1) x0 x1 x2 x3 x4 x5 x6).cell? ⟨B, 1, none⟩ = some u1 ∧ (setB x (B + 1) x0 x1 x2 x3 x4 x5 x6).cell? ⟨B, 2, none⟩ = some u2 ∧ (setB x (B + 1) x0 x1 x2 x3 x4 x5 x6).cell? ⟨B, 3, none⟩ = some u3 ∧ (setB x (B + 1) x0 x1 x2 x3 x4 x5 x6).cell? ⟨B, 4, none⟩ = some u4 ∧ (setB x (B + 1) x0 x1 x2 x3 x4 x5 x6).cell? ⟨B, 5, none⟩ = some u5 ∧ (setB x (B + 1) x0 x1 x2 x3 x4 x5 x6).cell? ⟨B, 6, none⟩ = some u6 :=
 have s := stp_setB x (B + 1) x0 x1 x2 x3 x4 x5 x6
 ⟨s.cellP h0 (.inl (Nat.lt_succ_self _)), s.cellP h1 (.inl (Nat.lt_succ_self _)), s.cellP h2 (.inl (Nat.lt_succ_self _)), s.cellP h3 (.inl (Nat.lt_succ_self _)), s.cellP h4 (.inl (Nat.lt_succ_self _)), s.cellP h5 (.inl (Nat.lt_succ_self _)), s.cellP h6 (.inl (Nat.lt_succ_self _))⟩

set_option maxRecDepth 100000 in
set_option maxHeartbeats 8000000 in
theorem l7own_go (kj : Int) (o : Option Addr) (nj c : Nat) (sj kp : Int) (ob : Option Addr) (np cb : Nat) (oR : Option Addr) (nr cR : Nat) (bt ft nt ct : Nat) (lj : List Cd) (lb : List Bk) (lr : List (List (List Int))) (lt : List Sl) (w : World)
  (hnj : nj = lj.length) (hnp : np = lb.length) (hnr : nr = lr.length) (hnt : nt = lt.length) (h1 : RdC w.heap.size w o lj) (h1c : o = none → c = 0) (h2 : RdK w.heap.size w ob lb) (h2c : ob = none → cb = 0) (h3 : RcR 0 w.heap.size w (.slice oR nr cR) lr) (h4 : bt < w.heap.size) (h5 : ∀ i, i < lt.length → ∀ j, j < layS.k → w.cell? ⟨bt, ft + i * layS.k + j, none⟩ = (layS.cs (lt.getD i layS.d))[j]?) (hf : fitBm ⟨⟨kj, lj, sj⟩, ⟨kp, lb, lr⟩, lt⟩) :
  Calls Tryz.prog 135 #[balv kj (.slice o nj c) sj kp (.slice ob np cb) (.slice oR nr cR) (.slice (some ⟨bt, ft, none⟩) nt ct)] w fun e w' => ∃ v, e = .returned v ∧ OwBm w.heap.size w'.heap.size w' v ⟨⟨kj, lj, sj⟩, ⟨kp, lb, lr⟩, lt⟩ ∧ Below w.heap.size w w' := by
 obtain ⟨f1, ⟨f2, f3, f4, f5, f6⟩, f7⟩ := hf
 dsimp only at f1 f2 f3 f4 f5 f6 f7
 have HJ := hide (fun W (hb : Below w.heap.size w W) => l4ownJ_any kj sj o c lj nj hnj W ((h1.kept hb (Nat.le_refl _)).le hb.size) h1c (by omega))
 have HP := hide (fun W (hb : Below w.heap.size w W) => l4own_rc kp ob cb lb oR cR lr nr hnr W ((h2.kept hb (Nat.le_refl _)).le hb.size) h2c f2 (RcR.mon.go (RcR.stp.go h3 (Stp.of (lo := 0) (hi := 0) hb) (.inl (Nat.zero_le _))) (Nat.le_refl _) hb.size) (by omega) f5 f6)
 have HT := hide (fun W (hb : Below w.heap.size w W) => l5own_any bt ft ct lt W (Nat.lt_of_lt_of_le h4 hb.size) (fun i hi j hj => (hb.cell (p := ⟨bt, ft + i * layS.k + j, none⟩) h4).trans (h5 i hi j hj)) f7)
 rw [← hnp] at HP
 rw [← hnt] at HT
 have HNJ := hide hnj
 have HNP := hide hnp
 have HNR := hide hnr
 have HNT := hide hnt
 clear h1 h2 h3 h5 f5 f6 f4 f2 f3 f7 f1 hnj hnp hnr hnt
 obtain ⟨W0, hW0⟩ : ∃ W, ((w.alloc (.cells #[.int .i64 kj, .slice o nj c, .int .i64 sj, .int .i64 kp, .slice ob np cb, .slice oR nr cR, .slice (some ⟨bt, ft, none⟩) nt ct] 34)).alloc (.cells #[.int .i64 0, .slice none 0 0, .int .i64 0, .int .i64 0, .slice none 0 0, .slice none 0 0, .slice none 0 0] 34)) = W := ⟨_, rfl⟩
 have hb_W0 : Below w.heap.size w W0 := by rw [← hW0]; exact (((Below.refl _ _).alloc (Nat.le_refl _) _).alloc (by simp <;> omega) _)
 have HB := hide hb_W0
 clear hb_W0
 have zz : w.heap.size < W0.heap.size := by rw [← hW0]; simp <;> omega
 have z0 : W0.cell? ⟨w.heap.size, 0, none⟩ = some (.int .i64 kj) := by rw [← hW0]; simp [go_sem]
 have z1 : W0.cell? ⟨w.heap.size, 1, none⟩ = some (.slice o nj c) := by rw [← hW0]; simp [go_sem]
 have z2 : W0.cell? ⟨w.heap.size, 2, none⟩ = some (.int .i64 sj) := by rw [← hW0]; simp [go_sem]
 have z3 : W0.cell? ⟨w.heap.size, 3, none⟩ = some (.int .i64 kp) := by rw [← hW0]; simp [go_sem]
 have z4 : W0.cell? ⟨w.heap.size, 4, none⟩ = some (.slice ob np cb) := by rw [← hW0]; simp [go_sem]
 have z5 : W0.cell? ⟨w.heap.size, 5, none⟩ = some (.slice oR nr cR) := by rw [← hW0]; simp [go_sem]
 have z6 : W0.cell? ⟨w.heap.size, 6, none⟩ = some (.slice (some ⟨bt, ft, none⟩) nt ct) := by rw [← hW0]; simp [go_sem]
 have zr : w.heap.size + 1 < W0.heap.size := by rw [← hW0]; simp
 have r0 : W0.cell? ⟨w.heap.size + 1, 0, none⟩ = some (.int .i64 0) := by rw [← hW0]; simp [go_sem]
 have r1 : W0.cell? ⟨w.heap.size + 1, 1, none⟩ = some (.slice none 0 0) := by rw [← hW0]; simp [go_sem]
 have r2 : W0.cell? ⟨w.heap.size + 1, 2, none⟩ = some (.int .i64 0) := by rw [← hW0]; simp [go_sem]
 have r3 : W0.cell? ⟨w.heap.size + 1, 3, none⟩ = some (.int .i64 0) := by rw [← hW0]; simp [go_sem]
 have r4 : W0.cell? ⟨w.heap.size + 1, 4, none⟩ = some (.slice none 0 0) := by rw [← hW0]; simp [go_sem]
 have r5 : W0.cell? ⟨w.heap.size + 1, 5, none⟩ = some (.slice none 0 0) := by rw [← hW0]; simp [go_sem]
 have r6 : W0.cell? ⟨w.heap.size + 1, 6, none⟩ = some (.slice none 0 0) := by rw [← hW0]; simp [go_sem]
 have fr0 : W0.frozen? ⟨w.heap.size + 1, 0, none⟩ = false := by rw [← hW0]; simp [go_sem]
 have fr1 : W0.frozen? ⟨w.heap.size + 1, 1, none⟩ = false := by rw [← hW0]; simp [go_sem]
 have fr2 : W0.frozen? ⟨w.heap.size + 1, 2, none⟩ = false := by rw [← hW0]; simp [go_sem]
 have fr3 : W0.frozen? ⟨w.heap.size + 1, 3, none⟩ = false := by rw [← hW0]; simp [go_sem]
 have fr4 : W0.frozen? ⟨w.heap.size + 1, 4, none⟩ = false := by rw [← hW0]; simp [go_sem]
 have fr5 : W0.frozen? ⟨w.heap.size + 1, 5, none⟩ = false := by rw [← hW0]; simp [go_sem]
 have fr6 : W0.frozen? ⟨w.heap.size + 1, 6, none⟩ = false := by rw [← hW0]; simp [go_sem]
 have HR0 := hide (show W0.heap[w.heap.size + 1]? = some (.cells #[.int .i64 0, .slice none 0 0, .int .i64 0, .int .i64 0, .slice none 0 0, .slice none 0 0, .slice none 0 0] 34 (0, 0)) by rw [← hW0]; exact box_new2 w _ _ _)
 have hbw := HB.out.size
 go_enter Tryz.func135, Tryz.ntmps135
 go_wp2
 go_region_held3 (fun w' => w'.cell? ⟨w.heap.size, 0, none⟩ = some (.int .i64 kj) ∧ w'.cell? ⟨w.heap.size, 1, none⟩ = some (.slice o nj c) ∧ w'.cell? ⟨w.heap.size, 2, none⟩ = some (.int .i64 sj) ∧ w'.cell? ⟨w.heap.size, 3, none⟩ = some (.int .i64 kp) ∧ w'.cell? ⟨w.heap.size, 4, none⟩ = some (.slice ob np cb) ∧ w'.cell? ⟨w.heap.size, 5, none⟩ = some (.slice oR nr cR) ∧ w'.cell? ⟨w.heap.size, 6, none⟩ = some (.slice (some ⟨bt, ft, none⟩) nt ct)) (first | with_reducible exact ⟨z0, z1, z2, z3, z4, z5, z6⟩ | with_reducible exact ⟨ka0, ka1, ka2, ka3, ka4, ka5, ka6⟩ | with_reducible exact ⟨kb0, kb1, kb2, kb3, kb4, kb5, kb6⟩ | with_reducible exact ⟨kc0, kc1, kc2, kc3, kc4, kc5, kc6⟩ | with_reducible exact hks _ _ _ _ _ _ _ | go_keep) (first | (go_at_call 249; (with_reducible refine (HJ.out W0.drew (Below.drew HB.out)).mono ?_); rintro e x0 ⟨o7, c7, rfl, ow7, hq0⟩; have hx0 : Below W0.heap.size W0 x0 := (Below.drew (Below.refl _ _)).trans hq0; have ka0 := bC hx0 z0 zz; have ka1 := bC hx0 z1 zz; have ka2 := bC hx0 z2 zz; have ka3 := bC hx0 z3 zz; have ka4 := bC hx0 z4 zz; have ka5 := bC hx0 z5 zz; have ka6 := bC hx0 z6 zz; have HBa := HB.out.trans (hx0.mono hbw); clear hq0) | (go_at_call 250; (with_reducible refine (HP.out x0 HBa).mono ?_); rintro e x1 ⟨v8, rfl, in8, hq1⟩; have hx1 : Below W0.heap.size W0 x1 := hx0.trans (hq1.mono hx0.size); have ow7' := own_kept ow7 hq1; obtain ⟨o8, c8, oR8, cR8, e8⟩ := own7_opn HNP.out HNR.out in8; subst e8; have kb0 := bC hx1 z0 zz; have kb1 := bC hx1 z1 zz; have kb2 := bC hx1 z2 zz; have kb3 := bC hx1 z3 zz; have kb4 := bC hx1 z4 zz; have kb5 := bC hx1 z5 zz; have kb6 := bC hx1 z6 zz; have HBb := HB.out.trans (hx1.mono hbw)) | (go_at_call 251; (with_reducible refine (HT.out x1 HBb).mono ?_); rintro e x2 ⟨o9, c9, rfl, ow9, hq2⟩; have hx2 : Below W0.heap.size W0 x2 := hx1.trans (hq2.mono hx1.size); have ow7'' := own_kept ow7' hq2; have in8' := in8.kept hq2 (Nat.le_refl _); have kc0 := bC hx2 z0 zz; have kc1 := bC hx2 z1 zz; have kc2 := bC hx2 z2 zz; have kc3 := bC hx2 z3 zz; have kc4 := bC hx2 z4 zz; have kc5 := bC hx2 z5 zz; have kc6 := bC hx2 z6 zz; have rr0 := bC hx2 r0 zr; have rf0 := bF hx2 fr0 zr; have rr1 := bC hx2 r1 zr; have rf1 := bF hx2 fr1 zr; have rr2 := bC hx2 r2 zr; have rf2 := bF hx2 fr2 zr; have rr3 := bC hx2 r3 zr; have rf3 := bF hx2 fr3 zr; have rr4 := bC hx2 r4 zr; have rf4 := bF hx2 fr4 zr; have rr5 := bC hx2 r5 zr; have rf5 := bF hx2 fr5 zr; have rr6 := bC hx2 r6 zr; have rf6 := bF hx2 fr6 zr; have hks := own7_keep (x := x2) kc0 kc1 kc2 kc3 kc4 kc5 kc6; have HBc := HB.out.trans (hx2.mono hbw)))
 have hq0 := hx0.size
 have hq1' := hq1.size
 have hq2' := hq2.size
 have HFI : Hid (OwBm w.heap.size (setB x2 (w.heap.size + 1) (.int .i64 kj) (.slice o7 nj c7) (.int .i64 sj) (.int .i64 kp) (.slice o8 np c8) (.slice oR8 nr cR8) (.slice o9 nt c9)).heap.size (setB x2 (w.heap.size + 1) (.int .i64 kj) (.slice o7 nj c7) (.int .i64 sj) (.int .i64 kp) (.slice o8 np c8) (.slice oR8 nr cR8) (.slice o9 nt c9)) (balv kj (.slice o7 nj c7) sj kp (.slice o8 np c8) (.slice oR8 nr cR8) (.slice o9 nt c9)) ⟨⟨kj, lj, sj⟩, ⟨kp, lb, lr⟩, lt⟩ ∧ Below w.heap.size w (setB x2 (w.heap.size + 1) (.int .i64 kj) (.slice o7 nj c7) (.int .i64 sj) (.int .i64 kp) (.slice o8 np c8) (.slice oR8 nr cR8) (.slice o9 nt c9))) := by
  have s9 := stp_setB x2 (w.heap.size + 1) (.int .i64 kj) (.slice o7 nj c7) (.int .i64 sj) (.int .i64 kp) (.slice o8 np c8) (.slice oR8 nr cR8) (.slice o9 nt c9)
  have j9 := InRow.step (InRow.of ow7'') s9 (.inl (show w.heap.size + 1 + 1 ≤ W0.heap.size by omega))
  have p9 := (in8'.step s9 (.inl (show w.heap.size + 1 + 1 ≤ x0.heap.size by omega)))
  have t9 := InRow.step (InRow.of ow9) s9 (.inl (show w.heap.size + 1 + 1 ≤ x1.heap.size by omega))
  refine ⟨⟨_, _, _, _, rfl, ⟨_, rfl, InRow.mono j9 (show w.heap.size ≤ W0.heap.size by omega) (by rw [setB_size]; exact Nat.le_refl _)⟩, p9.mono (by omega) (by rw [setB_size]; exact hq2'), ⟨_, rfl, InRow.mono t9 (by omega) (by rw [setB_size]; exact Nat.le_refl _)⟩⟩, setB_below HBc (Nat.le_succ _) _ _ _ _ _ _ _⟩
 clear ow7 ow7' ow7'' in8 in8' ow9 hks hx0 hx1 hx2 hq1 hq2 HBa HBb HBc ka0 kb0 ka1 kb1 ka2 kb2 ka3 kb3 ka4 kb4 ka5 kb5 ka6 kb6
 go_wp2
 refine bodyPost_ret (v := balv kj (.slice o7 nj c7) sj kp (.slice o8 np c8) (.slice oR8 nr cR8) (.slice o9 nt c9)) (by simp [results, Tryz.results135, go_sem, rr0, rr1, rr2, rr3, rr4, rr5, rr6]) rfl ⟨_, rfl, HFI.out.1, HFI.out.2⟩

end Go.Proofs.YtmmhgkkcpjhiiaaGreat

namespace Go.Proofs.YtmmhgkkcpjhiiaaGreat
open Go.ChangeShapes Go.WideShapes Go.ChangeAt Go.RowKit Go.Joins
set_option linter.unusedVariables false
set_option linter.unusedSimpArgs false


theorem InBm.mono {lo hi lo' hi' : Nat} {w : World} {v : Value} {m : Bm} (h : InBm lo hi w v m) (h1 : lo' ≤ lo) (h2 : hi ≤ hi') : InBm lo' hi' w v m := by
 obtain ⟨vl, vb, vr, vt, j0, j1, p0, p1, t0, t1, e, k, i1, i2, i3⟩ := h
 exact ⟨vl, vb, vr, vt, j0, j1, p0, p1, t0, t1, e, by omega, i1, i2, i3⟩
end Go.Proofs.YtmmhgkkcpjhiiaaGreat

namespace Go.Proofs.YtmmhgkkcpjhiiaaGreat
open Go.ChangeShapes Go.WideShapes Go.ChangeAt Go.RowKit Go.Joins
set_option linter.unusedVariables false
set_option linter.unusedSimpArgs false

theorem bx_allP {W : World} {B : Nat} {x y z : Value} {T : TypeId} (h : W.heap[B]? = some (.cells #[x, y, z] T (0, 0))) : W.cell? ⟨B, 0, none⟩ = some x ∧ W.cell? ⟨B, 1, none⟩ = some y ∧ W.cell? ⟨B, 2, none⟩ = some z ∧ W.frozen? ⟨B, 0, none⟩ = false ∧ W.frozen? ⟨B, 1, none⟩ = false ∧ W.frozen? ⟨B, 2, none⟩ = false :=
 ⟨bx_cell h 0 _ rfl, bx_cell h 1 _ rfl, bx_cell h 2 _ rfl, bx_frozen h 0, bx_frozen h 1, bx_frozen h 2⟩
theorem setP_belowT {C : Nat} {w W : World} {B : Nat} (h : Below C w W) (hB : C ≤ B) (x y z : Value) : Below C w (setP W B x y z) := ((h.setCell (p := ⟨B, 0, none⟩) hB _).setCell (p := ⟨B, 1, none⟩) hB _).setCell (p := ⟨B, 2, none⟩) hB _
theorem setP_sizeT (W : World) (B : Nat) (x y z : Value) : (setP W B x y z).heap.size = W.heap.size := by simp [World.setCell]
theorem stp_setT (W : World) (B : Nat) (x y z : Value) : Stp B (B + 1) W (setP W B x y z) := ((stp_set W B 0 x).trans (stp_set _ B 1 y)).trans (stp_set _ B 2 z)
theorem in_monoT {lo lo' hi : Nat} {w : World} {v : Value} {m : Pm} (h : InPm lo hi w v m) (hl : lo' ≤ lo) : InPm lo' hi w v m := by
 obtain ⟨vb, vr, mid, e, k1, k2, h1, h2⟩ := h
 exact ⟨vb, vr, mid, e, by omega, k2, InRow.mono h1 hl (Nat.le_refl _), h2⟩
theorem box_new3 (w : World) (c : Array Value) (T : TypeId) (o1 o2 : Obj) : (((w.alloc o1).alloc o2).alloc (.cells c T)).heap[w.heap.size + 1 + 1]? = some (.cells c T (0, 0)) := by
 have h := World.alloc_heap_new ((w.alloc o1).alloc o2) (.cells c T)
 rw [World.size_alloc, World.size_alloc] at h
 exact h
theorem box_mid3 (w : World) (c : Array Value) (T : TypeId) (o1 o2 : Obj) : (((w.alloc o1).alloc (.cells c T)).alloc o2).heap[w.heap.size + 1]? = some (.cells c T (0, 0)) := by
 have h := box_new2 w c T o1
 exact (Below.heap_alloc _ _ _ (by simp)).trans h
theorem fillU_step {T : TypeId} {wr : World} {base g : Nat} {hs : List Hd} {k n : Nat} {o : Option Addr} {m c : Nat} (hk : k < n) (hl : hs.length = k) (h : wr.ownsRow base T 1 (.slice (some ⟨g, 0, none⟩) n n) n ((hs ++ List.replicate (n - k) layH.d).flatMap layH.cs)) :
  (wr.setCell ⟨g, k, none⟩ (.slice o m c)).ownsRow base T 1 (.slice (some ⟨g, 0, none⟩) n n) n (((hs ++ [(o, m, c)]) ++ List.replicate (n - (k + 1)) layH.d).flatMap layH.cs) := by
 have h1 := (h.stored k (.slice o m c)).1
 rw [flat_set1 layH rfl (a := (o, m, c)) rfl] at h1
 have e1 : n - k = (n - (k + 1)) + 1 := by omega
 rw [e1, List.replicate_succ, List.set_append_right _ _ (by omega), hl, Nat.sub_self, List.set_cons_zero] at h1
 rw [List.append_assoc]
 exact h1
theorem RiT.at {a C : Nat} {w : World} {o : Option Addr} {n c : Nat} {ll : List (List Int)} (h : RiT a C w (.slice o n c) ll) (hC : C ≤ w.heap.size) (i : Nat) (hi : i < ll.length) : ∃ b off o' c', o = some ⟨b, off, none⟩ ∧ b < C ∧ w.cell? ⟨b, off + i, none⟩ = some (.slice o' (ll.getD i []).length c') ∧ RdI C w o' (ll.getD i []) := by
 obtain ⟨hs, h0, h1, h2⟩ := h
 obtain ⟨o1, c1, e, r⟩ := h1.open
 injection e with e1 e2 e3
 subst e1
 rcases r with r | ⟨b, off, ho, hb, r⟩
 ·subst r; simp at h0; omega
 ·obtain ⟨o', c', e', r'⟩ := (h2 i hi).open
  have hc := RdL.head r i (by omega)
  unfold hv at e'
  rw [e'] at hc
  exact ⟨b, off, o', c', ho, hb, hc, r'⟩

set_option maxRecDepth 100000 in
set_option maxHeartbeats 2000000 in
theorem toIntSS_in (v : Value) (xs : List (List Int)) (w : World) (hR : RiT 0 w.heap.size w v xs) (hlen : xs.length ≤ 1048576) (hx : ∀ i, i < xs.length → (xs.getD i []).length ≤ 1048576) :
  Calls Tryz.prog 341 #[v] w fun e w' => ∃ v', e = .returned v' ∧ InT w.heap.size w'.heap.size w' v' xs ∧ Below w.heap.size w w' := by
 obtain ⟨o, cap, ev⟩ : ∃ o c, v = .slice o xs.length c := by
  obtain ⟨hs, h0, ⟨o, c, e, _⟩, _⟩ := hR
  exact ⟨o, c, by rw [e, h0]⟩
 subst ev
 obtain ⟨i0, hi, hz0, hz1, hz2⟩ := info_parts infoIntS
 have HR0 := hide hR
 clear hR
 go_enter Tryz.func341, Tryz.ntmps341
 go_wp2_with (at_make; refine wpList_make_full _ rfl _ _ 51 rfl w.heap.size 47 i0 (.slice none 0 0) 1 Tryz.underlying51 hi hz0 hz1 _ _ _ _ xs.length rfl rfl rfl rfl ?b2 ?b3 ?b4 ?_)
 case b2 => rw [hz2]; omega
 case b3 => unfold maxLen; omega
 case b4 => simp
 intro w3 hown hgrow
 have HB3 := hide (show Below w.heap.size w w3 from (Below.refl _ _).grown hgrow (Nat.le_refl _) (fun k h => by cases h))
 have HO3 : Hid (w3.ownsRow w.heap.size 47 1 (.slice (some ⟨w.heap.size, 0, none⟩) xs.length xs.length) xs.length ((([] : List Hd) ++ List.replicate (xs.length - 0) layH.d).flatMap layH.cs)) := by
  rw [List.nil_append, Nat.sub_zero, ← made_flat layH (.slice none 0 0) rfl, show layH.k = 1 from rfl, Nat.mul_one]; exact hown
 have hs3 : w.heap.size + 1 ≤ w3.heap.size := (hown.lt w.heap.size rfl).2
 clear hown hgrow
 go_wp2
 go_loopw [4] (fun iv wr => ∃ (k : Nat) (hs : List Hd) (L H : Nat → Nat), k ≤ xs.length ∧ iv = .int .i64 (k : Int) ∧ Hid (wr.ownsRow w.heap.size 47 1 (.slice (some ⟨w.heap.size, 0, none⟩) xs.length xs.length) xs.length ((hs ++ List.replicate (xs.length - k) layH.d).flatMap layH.cs)) ∧ Hid (Rw InI [] (xs.take k) (w.heap.size + 1) wr.heap.size wr hs L H) ∧ Hid (Below w.heap.size w wr) ∧ w.heap.size + 1 ≤ wr.heap.size)
  (fun iv _ => xs.length - (intOf iv).toNat)
 case atStart => exact ⟨0, [], fun _ => 0, fun _ => 0, Nat.zero_le _, rfl, HO3.out, by rw [List.take_zero]; exact Rw.nil _ _ _ _ _ _ _, HB3.out, hs3⟩
 case round =>
  obtain ⟨k, hs, L, H, hk8, rfl, HO, HR, HBr, hsr⟩ := hrel
  clear HO3 HB3 hs3
  have hhl : hs.length = k := by have h1 := HR.out.len; rw [List.length_take] at h1; omega
  by_cases hlt : k < xs.length
  ·have z1 : (k : Int) < (xs.length : Int) := by omega
   have HS := hide (show xs.take (k + 1) = xs.take k ++ [xs.getD k []] by rw [List.take_succ_eq_append_getElem hlt]; simp [hlt])
   obtain ⟨b, off, o', c', rfl, hbl, hc0, hr0⟩ := HR0.out.at (Nat.le_refl _) k hlt
   have hc := bC HBr.out hc0 hbl
   have hbw : b < wr.heap.size := by omega
   have HL := hide (toIntS_any o' c' (xs.getD k []) wr ((hr0.kept HBr.out (Nat.le_refl _)).le HBr.out.size) (hx k hlt))
   have HXL := hide hlen
   clear hc0 hr0
   have HHL := hide hhl
   have hxs := HXL.out
   clear hxs
   obtain ⟨row, hrow⟩ : ∃ r, xs.getD k [] = r := ⟨_, rfl⟩
   rw [hrow] at HL hc HS
   clear hrow
   obtain ⟨q, hq⟩ : ∃ q, row.length = q := ⟨_, rfl⟩
   rw [hq] at HL hc
   have HQ := hide hq
   clear hq
   go_wp2_with fail
   refine HL.out.mono ?_
   rintro e v1 ⟨g4, rfl, ow4, hb4⟩
   obtain ⟨o4, ho4⟩ : ∃ o : Option Addr, some ⟨g4, 0, none⟩ = o := ⟨_, rfl⟩
   rw [ho4] at ow4 ⊢
   have HIN : Hid (InI wr.heap.size v1.heap.size v1 (.slice o4 q q) row) := InRow.of ow4
   clear ow4
   have HO4 := hide (own_kept HO.out hb4)
   have hln : ((hs ++ List.replicate (xs.length - k) layH.d).flatMap layH.cs).length = xs.length := by rw [flat_length, List.length_append, List.length_replicate, HHL.out, show layH.k = 1 from rfl]; omega
   have hcl := HO4.out.cellAt k (by omega)
   have hfr := HO4.out.frozenAt k
   obtain ⟨u, hu⟩ : ∃ u, v1.cell? ⟨w.heap.size, k, none⟩ = some u := ⟨_, hcl.trans (List.getElem?_eq_getElem (by omega))⟩
   have HO5 := hide (fillU_step (o := o4) (m := q) (c := q) hlt HHL.out HO4.out)
   have HR4 := (HR.out.kept InI.stp hb4).snoc (l2 := wr.heap.size) (h2 := v1.heap.size) (Nat.le_refl _) (by omega) hb4.size (x := row) (o := o4) (m := q) (c := q) HIN.out
   rw [← HS.out] at HR4
   have HR5 := HR4.step InI.stp (stp_set v1 w.heap.size k (.slice o4 q q)) (fun i hi => .inl (HR4.bd i hi).1)
   have HR6 : Hid (Rw InI [] (xs.take (k + 1)) (w.heap.size + 1) (v1.setCell ⟨w.heap.size, k, none⟩ (.slice o4 q q)).heap.size (v1.setCell ⟨w.heap.size, k, none⟩ (.slice o4 q q)) _ _ _) := HR5.mono (Nat.le_refl _) (by simp)
   have HB5 := hide ((HBr.out.trans (hb4.mono HBr.out.size)).setCell (p := ⟨w.heap.size, k, none⟩) (Nat.le_refl _) (.slice o4 q q))
   have hs5 : w.heap.size + 1 ≤ v1.heap.size := by have := hb4.size; omega
   clear hb4 hcl HR4 HR5 hln HL hhl hc
   go_wp2
   go_roundw
   case rel => exact ⟨k + 1, _, _, _, by omega, by go_num, HO5.out, HR6.out, HB5.out, by simpa using hs5⟩
   case measure => simp [intOf]; omega
  ·have e : k = xs.length := by omega
   subst e
   go_wp2
   go_ret
   have h1 := HO.out
   rw [Nat.sub_self, List.replicate_zero, List.append_nil] at h1
   have h2 := HR.out
   rw [List.take_length] at h2
   have h3 : ∀ b, (Value.slice (some ⟨w.heap.size, 0, none⟩) xs.length xs.length).ownBlock = some b → b = w.heap.size := fun b e => (Option.some.inj e).symm
   have h4 : InT w.heap.size wr.heap.size wr (.slice (some ⟨w.heap.size, 0, none⟩) xs.length xs.length) xs := by
    refine ⟨hs, L, H, ⟨by rw [hhl]; exact h1, fun b e => ?_⟩, h2.mono (by omega) (Nat.le_refl _), fun i hi b e => ?_⟩
    ·have := h3 b e; omega
    ·have := h3 b e
     have := h2.bd i hi
     omega
   exact ⟨_, rfl, h4, HBr.out⟩

set_option maxRecDepth 100000 in
set_option maxHeartbeats 2000000 in
theorem toIntSSS_in (v : Value) (xs : List (List (List Int))) (w : World) (hR : RiR 0 w.heap.size w v xs) (hlen : xs.length ≤ 1048576) (hx : ∀ i, i < xs.length → (xs.getD i []).length ≤ 1048576) (hy : ∀ i, i < xs.length → ∀ j, j < (xs.getD i []).length → ((xs.getD i []).getD j []).length ≤ 1048576) :
  Calls Tryz.prog 257 #[v] w fun e w' => ∃ v', e = .returned v' ∧ InR w.heap.size w'.heap.size w' v' xs ∧ Below w.heap.size w w' := by
 obtain ⟨o, cap, ev⟩ : ∃ o c, v = .slice o xs.length c := by
  obtain ⟨hs, h0, ⟨o, c, e, _⟩, _⟩ := hR
  exact ⟨o, c, by rw [e, h0]⟩
 subst ev
 obtain ⟨i0, hi, hz0, hz1, hz2⟩ := info_parts infoIntSS
 have HR0 := hide hR
 clear hR
 go_enter Tryz.func257, Tryz.ntmps257
 go_wp2_with (at_make; refine wpList_make_full _ rfl _ _ 27 rfl w.heap.size 51 i0 (.slice none 0 0) 1 Tryz.underlying27 hi hz0 hz1 _ _ _ _ xs.length rfl rfl rfl rfl ?b2 ?b3 ?b4 ?_)
 case b2 => rw [hz2]; omega
 case b3 => unfold maxLen; omega
 case b4 => simp
 intro w3 hown hgrow
 have HB3 := hide (show Below w.heap.size w w3 from (Below.refl _ _).grown hgrow (Nat.le_refl _) (fun k h => by cases h))
 have HO3 : Hid (w3.ownsRow w.heap.size 51 1 (.slice (some ⟨w.heap.size, 0, none⟩) xs.length xs.length) xs.length ((([] : List Hd) ++ List.replicate (xs.length - 0) layH.d).flatMap layH.cs)) := by
  rw [List.nil_append, Nat.sub_zero, ← made_flat layH (.slice none 0 0) rfl, show layH.k = 1 from rfl, Nat.mul_one]; exact hown
 have hs3 : w.heap.size + 1 ≤ w3.heap.size := (hown.lt w.heap.size rfl).2
 clear hown hgrow
 go_wp2
 go_loopw [4] (fun iv wr => ∃ (k : Nat) (hs : List Hd) (L H : Nat → Nat), k ≤ xs.length ∧ iv = .int .i64 (k : Int) ∧ Hid (wr.ownsRow w.heap.size 51 1 (.slice (some ⟨w.heap.size, 0, none⟩) xs.length xs.length) xs.length ((hs ++ List.replicate (xs.length - k) layH.d).flatMap layH.cs)) ∧ Hid (Rw InT [] (xs.take k) (w.heap.size + 1) wr.heap.size wr hs L H) ∧ Hid (Below w.heap.size w wr) ∧ w.heap.size + 1 ≤ wr.heap.size)
  (fun iv _ => xs.length - (intOf iv).toNat)
 case atStart => exact ⟨0, [], fun _ => 0, fun _ => 0, Nat.zero_le _, rfl, HO3.out, by rw [List.take_zero]; exact Rw.nil _ _ _ _ _ _ _, HB3.out, hs3⟩
 case round =>
  obtain ⟨k, hs, L, H, hk8, rfl, HO, HR, HBr, hsr⟩ := hrel
  clear HO3 HB3 hs3
  have hhl : hs.length = k := by have h1 := HR.out.len; rw [List.length_take] at h1; omega
  by_cases hlt : k < xs.length
  ·have z1 : (k : Int) < (xs.length : Int) := by omega
   have HS := hide (show xs.take (k + 1) = xs.take k ++ [xs.getD k []] by rw [List.take_succ_eq_append_getElem hlt]; simp [hlt])
   obtain ⟨b, off, o', c', rfl, hbl0, hc0, hr0⟩ := (RiR.mon.go (RiR.stp.go HR0.out (lo := w.heap.size) (hi := w.heap.size + wr.heap.size) ⟨HBr.out.os, HBr.out.tape, HBr.out.output, HBr.out.size, fun k hk _ => HBr.out.block k hk⟩ (.inr (Nat.le_refl _))) (Nat.le_refl _) HBr.out.size).at (Nat.le_refl _) k hlt
   have hc := hc0
   have HL := hide (toIntSS_in (.slice o' (xs.getD k []).length c') (xs.getD k []) wr (RiT.of hr0) (hx k hlt) (hy k hlt))
   have HXL := hide hlen
   clear hc0 hr0
   have HHL := hide hhl
   have hxs := HXL.out
   clear hxs
   obtain ⟨row, hrow⟩ : ∃ r, xs.getD k [] = r := ⟨_, rfl⟩
   rw [hrow] at HL hc HS
   clear hrow
   obtain ⟨q, hq⟩ : ∃ q, row.length = q := ⟨_, rfl⟩
   rw [hq] at HL hc
   have HQ := hide hq
   clear hq
   go_wp2_with fail
   refine HL.out.mono ?_
   rintro e v1 ⟨v4, rfl, in4, hb4⟩
   obtain ⟨o4, c4, e4, _⟩ := RiT.rd (InT.ri in4)
   rw [HQ.out] at e4
   subst e4
   have HIN := hide in4
   clear in4
   have HO4 := hide (own_kept HO.out hb4)
   have hln : ((hs ++ List.replicate (xs.length - k) layH.d).flatMap layH.cs).length = xs.length := by rw [flat_length, List.length_append, List.length_replicate, HHL.out, show layH.k = 1 from rfl]; omega
   have hcl := HO4.out.cellAt k (by omega)
   have hfr := HO4.out.frozenAt k
   obtain ⟨u, hu⟩ : ∃ u, v1.cell? ⟨w.heap.size, k, none⟩ = some u := ⟨_, hcl.trans (List.getElem?_eq_getElem (by omega))⟩
   have HO5 := hide (fillU_step (o := o4) (m := q) (c := c4) hlt HHL.out HO4.out)
   have HR4 := (HR.out.kept InT.stp hb4).snoc (l2 := wr.heap.size) (h2 := v1.heap.size) (Nat.le_refl _) (by omega) hb4.size (x := row) (o := o4) (m := q) (c := c4) HIN.out
   rw [← HS.out] at HR4
   have HR5 := HR4.step InT.stp (stp_set v1 w.heap.size k (.slice o4 q c4)) (fun i hi => .inl (HR4.bd i hi).1)
   have HR6 : Hid (Rw InT [] (xs.take (k + 1)) (w.heap.size + 1) (v1.setCell ⟨w.heap.size, k, none⟩ (.slice o4 q c4)).heap.size (v1.setCell ⟨w.heap.size, k, none⟩ (.slice o4 q c4)) _ _ _) := HR5.mono (Nat.le_refl _) (by simp)
   have HB5 := hide ((HBr.out.trans (hb4.mono HBr.out.size)).setCell (p := ⟨w.heap.size, k, none⟩) (Nat.le_refl _) (.slice o4 q c4))
   have hs5 : w.heap.size + 1 ≤ v1.heap.size := by have := hb4.size; omega
   clear hb4 hcl HR4 HR5 hln HL hhl hc
   go_wp2
   go_roundw
   case rel => exact ⟨k + 1, _, _, _, by omega, by go_num, HO5.out, HR6.out, HB5.out, by simpa using hs5⟩
   case measure => simp [intOf]; omega
  ·have e : k = xs.length := by omega
   subst e
   go_wp2
   go_ret
   have h1 := HO.out
   rw [Nat.sub_self, List.replicate_zero, List.append_nil] at h1
   have h2 := HR.out
   rw [List.take_length] at h2
   have h3 : ∀ b, (Value.slice (some ⟨w.heap.size, 0, none⟩) xs.length xs.length).ownBlock = some b → b = w.heap.size := fun b e => (Option.some.inj e).symm
   have h4 : InR w.heap.size wr.heap.size wr (.slice (some ⟨w.heap.size, 0, none⟩) xs.length xs.length) xs := by
    refine ⟨hs, L, H, ⟨by rw [hhl]; exact h1, fun b e => ?_⟩, h2.mono (by omega) (Nat.le_refl _), fun i hi b e => ?_⟩
    ·have := h3 b e; omega
    ·have := h3 b e
     have := h2.bd i hi
     omega
   exact ⟨_, rfl, h4, HBr.out⟩

theorem leftTo_sum (ll : List (List Int)) (n : Int) : ∀ k, leftTo ll n k = n - (ll.length : Int) - (sumN (lenT ll) k : Int)
 | 0 => by simp [leftTo, sumN]
 | k + 1 => by
  rw [leftTo, leftTo_sum ll n k, show sumN (lenT ll) (k + 1) = sumN (lenT ll) k + (ll.getD k []).length from rfl]
  omega
set_option maxRecDepth 100000 in
set_option maxHeartbeats 1000000 in
theorem szIntSSS_any (v : Value) (lll : List (List (List Int))) (n : Int) (w : World) (hR : RiR 0 w.heap.size w v lll) (hl : lll.length ≤ maxLen) (hx : ∀ i, i < lll.length → (lll.getD i []).length ≤ maxLen) (hy : ∀ i, i < lll.length → ∀ j, j < (lll.getD i []).length → ((lll.getD i []).getD j []).length ≤ maxLen) (h0 : 0 ≤ n) (h1 : n ≤ 1048576) :
  Calls Tryz.prog 247 #[v, .int .i64 n] w fun e w' => (e = .returned (.int .i64 (-1)) ∨ ∃ z : Int, e = .returned (.int .i64 z) ∧ 0 ≤ z ∧ z ≤ n ∧ (lll.length : Int) + (szR lll : Int) ≤ n ∧ ∀ i, i < lll.length → ((lll.getD i []).length : Int) ≤ n) ∧ Below w.heap.size w w' := by
 obtain ⟨o, cap, ev⟩ : ∃ o c, v = .slice o lll.length c := by
  obtain ⟨hs, h0, ⟨o, c, e, _⟩, _⟩ := hR
  exact ⟨o, c, by rw [e, h0]⟩
 subst ev
 have hl' := hl
 unfold maxLen at hl'
 by_cases h : n - lll.length < 0
 ·go_enter Tryz.func247, Tryz.ntmps247
  go_wp2
  go_ret
  exact ⟨.inl rfl, Below.refl _ _⟩
 ·go_enter Tryz.func247, Tryz.ntmps247
  go_wp2
  go_loopw [1, 5] (fun n' i wr => ∃ (k : Nat) (z : Int), k ≤ lll.length ∧ i = .int .i64 (k : Int) ∧ n' = .int .i64 z ∧ 0 ≤ z ∧ z ≤ n - (lll.length : Int) - (sumN (lenR lll) k : Int) ∧ Hid (∀ i, i < k → ((lll.getD i []).length : Int) ≤ n) ∧ Hid (Below w.heap.size w wr))
   (fun _ i _ => lll.length - (intOf i).toNat)
  case atStart => exact ⟨0, n - lll.length, Nat.zero_le _, rfl, rfl, by omega, by simp [sumN], fun i hi => absurd hi (Nat.not_lt_zero _), Below.refl _ _⟩
  case round =>
   obtain ⟨k, z, hk, rfl, rfl, hz0, hz1, HLN, HBr⟩ := hrel
   by_cases hlt : k < lll.length
   ·obtain ⟨b, off, o', c', rfl, hb, hc, hr⟩ := (RiR.mon.go (RiR.stp.go hR (Stp.of (lo := 0) (hi := 0) HBr.out) (.inl (Nat.zero_le _))) (Nat.le_refl _) HBr.out.size).at (Nat.le_refl _) k hlt
    have hsn : (0 : Int) ≤ (sumN (lenR lll) k : Int) := by omega
    have HZ := hide (szIntSS_any o' (lll.getD k []) c' z wr hr (hx k hlt) (hy k hlt) hz0 (by omega))
    have HSU := hide (show sumN (lenR lll) (k + 1) = sumN (lenR lll) k + szT (lll.getD k []) from rfl)
    have HEL := hide (show leftLL (lll.getD k []) z = z - ((lll.getD k []).length : Int) - (szT (lll.getD k []) : Int) from leftTo_sum _ _ _)
    have hz1' := hz1
    obtain ⟨ll, hll⟩ : ∃ ll, lll.getD k [] = ll := ⟨_, rfl⟩
    rw [hll] at hc HZ HSU HEL
    have HLL := hide hll
    have HR := hide hR
    clear hr hll hR hx hy
    obtain ⟨m, hm⟩ : ∃ m, ll.length = m := ⟨_, rfl⟩
    rw [hm] at hc HZ HEL
    have HM := hide hm
    clear hm
    generalize sumN (lenR lll) k = sk at *
    go_wp2_with fail
    refine HZ.out.mono ?_
    rintro e w2 ⟨rfl | ⟨hfit, rfl⟩, hb2⟩
    ·have HB2 := hide (HBr.out.trans (hb2.mono HBr.out.size))
     clear hb2
     go_wp2
     go_ret
     exact ⟨.inl rfl, HB2.out⟩
    ·have HB2 := hide (HBr.out.trans (hb2.mono HBr.out.size))
     have hpos := hfit ll.length (Nat.le_refl _)
     have hpos' : 0 ≤ leftLL ll z := hpos
     have hE := HEL.out
     have hmz : (m : Int) ≤ n := by omega
     have HE2 := hide hE
     clear hfit hb2 hpos hE HEL
     generalize leftLL ll z = y at *
     go_wp2
     go_roundw
     case rel => exact ⟨k + 1, y, by omega, by go_num, rfl, hpos', by (have := HE2.out; rw [HSU.out]; push_cast; omega), fun i hi => (by rcases Nat.lt_succ_iff_lt_or_eq.1 hi with h' | h'; exact HLN.out i h'; rw [h', HLL.out, HM.out]; exact hmz), HB2.out⟩
     case measure => simp [intOf]; omega
   ·have e : k = lll.length := by omega
    subst e
    have hsz : sumN (lenR lll) lll.length = szR lll := rfl
    rw [hsz] at hz1
    clear hsz
    go_wp2
    go_ret
    exact ⟨.inr ⟨z, rfl, hz0, by omega, by omega, HLN.out⟩, HBr.out⟩
theorem row_le (ll : List (List Int)) (j : Nat) (h : j < ll.length) : (ll.getD j []).length ≤ szT ll := by
 have := sumN_at (lenT ll) h
 unfold szT; unfold lenT at *; omega
theorem tab_le (lll : List (List (List Int))) (i : Nat) (h : i < lll.length) : szT (lll.getD i []) ≤ szR lll := by
 have := sumN_at (lenR lll) h
 unfold szR; unfold lenR at *; omega
theorem fit_of {key : Int} {l : List Bk} {lll : List (List (List Int))} {n : Int} (hn : n ≤ 1048576) (hl : (l.length : Int) ≤ 1048576) (h1 : (lll.length : Int) + (szR lll : Int) ≤ n) (h2 : ∀ i, i < lll.length → ((lll.getD i []).length : Int) ≤ n) : fitPm ⟨key, l, lll⟩ :=
 ⟨by show l.length ≤ _; omega, by show lll.length ≤ _; omega, by show szR lll ≤ _; omega, fun i hi => by have := h2 i hi; show (lll.getD i []).length ≤ _; omega, fun i hi j hj => by
  have h3 := row_le (lll.getD i []) j hj
  have h4 := tab_le lll i hi
  show ((lll.getD i []).getD j []).length ≤ _
  omega⟩
def lenPm (m : Pm) : Prop := m.l.length ≤ maxLen ∧ m.ring.length ≤ maxLen ∧ (∀ i, i < m.ring.length → (m.ring.getD i []).length ≤ maxLen) ∧ ∀ i, i < m.ring.length → ∀ j, j < (m.ring.getD i []).length → ((m.ring.getD i []).getD j []).length ≤ maxLen
set_option maxRecDepth 100000 in
set_option maxHeartbeats 1000000 in
theorem szPool_n (v : Value) (m : Pm) (n : Int) (w : World) (hR : RdPm w.heap.size w v m) (hl : lenPm m) (hn0 : 0 ≤ n) (hn1 : n ≤ 1048576) :
  Calls Tryz.prog 132 #[v, .int .i64 n] w fun e w' => (∃ z : Int, e = .returned (.int .i64 z) ∧ ((z < 0 ∧ -1 ≤ z) ∨ (0 ≤ z ∧ z ≤ n ∧ fitPm m))) ∧ Below w.heap.size w w' := by
 obtain ⟨vb, vr, rfl, ⟨o, c, rfl, b1⟩, r1⟩ := hR
 obtain ⟨oR, cR, rfl⟩ := RiR.len r1
 obtain ⟨l1, l2, l3, l4⟩ := hl
 have hs := fun W => szBackS_any o m.l.length c n W l1 hn0 hn1
 have HRG := hide (fun W (hb : Below w.heap.size w W) (z : Int) h0 h1 => szIntSSS_any (.slice oR m.ring.length cR) m.ring z W (RiR.mon.go (RiR.stp.go r1 (Stp.of (lo := 0) (hi := 0) hb) (.inl (Nat.zero_le _))) (Nat.le_refl _) hb.size) l2 l3 l4 h0 h1)
 clear b1 r1 l3 l4
 obtain ⟨W0, hW0⟩ : ∃ W, (w.alloc (.cells #[.int .i64 m.key, .slice o m.l.length c, .slice oR m.ring.length cR] 88)) = W := ⟨_, rfl⟩
 have hb_W0 : Below w.heap.size w W0 := by rw [← hW0]; exact ((Below.refl _ _).alloc (Nat.le_refl _) _)
 have HB := hide hb_W0
 clear hb_W0
 have zz : w.heap.size < W0.heap.size := by rw [← hW0]; simp
 have z0 : W0.cell? ⟨w.heap.size, 0, none⟩ = some (.int .i64 m.key) := by rw [← hW0]; simp [go_sem]
 have z1 : W0.cell? ⟨w.heap.size, 1, none⟩ = some (.slice o m.l.length c) := by rw [← hW0]; simp [go_sem]
 have z2 : W0.cell? ⟨w.heap.size, 2, none⟩ = some (.slice oR m.ring.length cR) := by rw [← hW0]; simp [go_sem]
 by_cases h : n - (m.l.length : Int) < 0
 ·rw [if_pos h] at hs
  go_enter Tryz.func132, Tryz.ntmps132
  go_wp2_with fail
  refine (hs _).mono ?_
  rintro e w1 ⟨rfl, rfl⟩
  go_wp2
  go_ret
  exact ⟨⟨_, rfl, .inl ⟨by decide, by decide⟩⟩, HB.out⟩
 ·rw [if_neg h] at hs
  have hz0 : (0 : Int) ≤ n - (m.l.length : Int) := by omega
  have HRG2 := hide (HRG.out W0 HB.out (n - (m.l.length : Int)) hz0 (by omega))
  go_enter Tryz.func132, Tryz.ntmps132
  go_wp2_with fail
  refine (hs _).mono ?_
  rintro e w1 ⟨rfl, rfl⟩
  go_wp2_with fail
  refine HRG2.out.mono ?_
  rintro e w2 ⟨rfl | ⟨z, rfl, hz1, hz2, hz3, hz4⟩, hb2⟩
  ·have HB2 := hide (HB.out.trans (hb2.mono HB.out.size))
   clear hb2
   go_wp2
   go_ret
   exact ⟨⟨_, rfl, .inl ⟨by decide, by decide⟩⟩, HB2.out⟩
  ·have HB2 := hide (HB.out.trans (hb2.mono HB.out.size))
   have HF : Hid (fitPm m) := fit_of (n := n - (m.l.length : Int)) (by omega) (by omega) hz3 hz4
   clear hb2 hz3 hz4
   go_wp2
   go_ret
   exact ⟨⟨_, rfl, .inr ⟨hz1, by omega, HF.out⟩⟩, HB2.out⟩

set_option maxRecDepth 100000 in
set_option maxHeartbeats 2000000 in
theorem toPool_sh (v : Value) (m : Pm) (w : World) (hR : RdPm w.heap.size w v m) (hf : fitPm m) :
  Calls Tryz.prog 138 #[v] w fun e w' => ∃ v', e = .returned v' ∧ InPm w.heap.size w'.heap.size w' v' m ∧ Below w.heap.size w w' := by
 obtain ⟨vb, vr, rfl, ⟨o, c, rfl, b1⟩, r1⟩ := hR
 obtain ⟨oR, cR, rfl⟩ := RiR.len r1
 obtain ⟨hf1, hf2, hf3, hf4, hf5⟩ := hf
 have HBK := hide (fun W (hb : Below w.heap.size w W) => toBackS_any o c m.l W ((b1.rd.kept hb (Nat.le_refl _)).le hb.size) hf1)
 have HRG := hide (fun W (hb : Below w.heap.size w W) => toIntSSS_in (.slice oR m.ring.length cR) m.ring W (RiR.mon.go (RiR.stp.go r1 (Stp.of (lo := 0) (hi := 0) hb) (.inl (Nat.zero_le _))) (Nat.le_refl _) hb.size) hf2 hf4 hf5)
 clear b1 r1 hf4 hf5
 obtain ⟨W0, hW0⟩ : ∃ W, (((w.alloc (.cells #[.int .i64 m.key, .slice o m.l.length c, .slice oR m.ring.length cR] 88)).alloc (.cells #[.int .i64 0, .slice none 0 0, .slice none 0 0] 29)).alloc (.cells #[.int .i64 0, .slice none 0 0, .slice none 0 0] 29)) = W := ⟨_, rfl⟩
 have hb_W0 : Below w.heap.size w W0 := by rw [← hW0]; exact ((((Below.refl _ _).alloc (Nat.le_refl _) _).alloc (by simp <;> omega) _).alloc (by simp <;> omega) _)
 have HB := hide hb_W0
 clear hb_W0
 have zz : w.heap.size < W0.heap.size := by rw [← hW0]; simp <;> omega
 have z0 : W0.cell? ⟨w.heap.size, 0, none⟩ = some (.int .i64 m.key) := by rw [← hW0]; simp [go_sem]
 have z1 : W0.cell? ⟨w.heap.size, 1, none⟩ = some (.slice o m.l.length c) := by rw [← hW0]; simp [go_sem]
 have z2 : W0.cell? ⟨w.heap.size, 2, none⟩ = some (.slice oR m.ring.length cR) := by rw [← hW0]; simp [go_sem]
 have zr : w.heap.size + 1 < W0.heap.size := by rw [← hW0]; simp <;> omega
 have r0 : W0.cell? ⟨w.heap.size + 1, 0, none⟩ = some (.int .i64 0) := by rw [← hW0]; simp [go_sem]
 have r1 : W0.cell? ⟨w.heap.size + 1, 1, none⟩ = some (.slice none 0 0) := by rw [← hW0]; simp [go_sem]
 have r2 : W0.cell? ⟨w.heap.size + 1, 2, none⟩ = some (.slice none 0 0) := by rw [← hW0]; simp [go_sem]
 have fr0 : W0.frozen? ⟨w.heap.size + 1, 0, none⟩ = false := by rw [← hW0]; simp [go_sem]
 have fr1 : W0.frozen? ⟨w.heap.size + 1, 1, none⟩ = false := by rw [← hW0]; simp [go_sem]
 have fr2 : W0.frozen? ⟨w.heap.size + 1, 2, none⟩ = false := by rw [← hW0]; simp [go_sem]
 have zx : w.heap.size + 1 + 1 < W0.heap.size := by rw [← hW0]; simp
 have x0 : W0.cell? ⟨w.heap.size + 1 + 1, 0, none⟩ = some (.int .i64 0) := by rw [← hW0]; simp [go_sem]
 have x1 : W0.cell? ⟨w.heap.size + 1 + 1, 1, none⟩ = some (.slice none 0 0) := by rw [← hW0]; simp [go_sem]
 have x2 : W0.cell? ⟨w.heap.size + 1 + 1, 2, none⟩ = some (.slice none 0 0) := by rw [← hW0]; simp [go_sem]
 have fx0 : W0.frozen? ⟨w.heap.size + 1 + 1, 0, none⟩ = false := by rw [← hW0]; simp [go_sem]
 have fx1 : W0.frozen? ⟨w.heap.size + 1 + 1, 1, none⟩ = false := by rw [← hW0]; simp [go_sem]
 have fx2 : W0.frozen? ⟨w.heap.size + 1 + 1, 2, none⟩ = false := by rw [← hW0]; simp [go_sem]
 have h0x : W0.heap[w.heap.size + 1 + 1]? = some (.cells #[.int .i64 0, .slice none 0 0, .slice none 0 0] 29 (0, 0)) := by rw [← hW0]; exact box_new3 w _ _ _ _
 have h0r : W0.heap[w.heap.size + 1]? = some (.cells #[.int .i64 0, .slice none 0 0, .slice none 0 0] 29 (0, 0)) := by rw [← hW0]; exact box_mid3 w _ _ _ _
 have hzx := zx
 have hw0 := HB.out.size
 obtain ⟨W1, hW1⟩ : ∃ W, W0.setCell ⟨w.heap.size + 1 + 1, 0, none⟩ (.int .i64 m.key) = W := ⟨_, rfl⟩
 have h1x := box_put h0x 0 (.int .i64 m.key)
 rw [hW1] at h1x
 have h1r : W1.heap[w.heap.size + 1]? = some (.cells #[.int .i64 0, .slice none 0 0, .slice none 0 0] 29 (0, 0)) := by rw [← hW1]; exact (far_block (by omega) _ _).trans h0r
 have hs1 : W1.heap.size = W0.heap.size := by rw [← hW1]; simp
 have hB1 : Below w.heap.size w W1 := by rw [← hW1]; exact HB.out.setCell (p := ⟨w.heap.size + 1 + 1, 0, none⟩) (show w.heap.size ≤ w.heap.size + 1 + 1 by omega) _
 have a0 : W1.cell? ⟨w.heap.size, 0, none⟩ = some (.int .i64 m.key) := by rw [← hW1]; exact (cell_far (by omega)).trans z0
 have a1 : W1.cell? ⟨w.heap.size, 1, none⟩ = some (.slice o m.l.length c) := by rw [← hW1]; exact (cell_far (by omega)).trans z1
 have a2 : W1.cell? ⟨w.heap.size, 2, none⟩ = some (.slice oR m.ring.length cR) := by rw [← hW1]; exact (cell_far (by omega)).trans z2
 have HB1 := hide hB1
 have HS1 := hide hs1
 have H1X := hide h1x
 have H1R := hide h1r
 clear hB1 hs1 h1x h1r h0x h0r z1 z2 r0 r1 r2 fr0 fr1 fr2 HB
 go_enter Tryz.func138, Tryz.ntmps138
 go_wp2_with fail
 refine (HBK.out W1 HB1.out).mono ?_
 rintro e v1 ⟨g1, rfl, ow1, hb1⟩
 have hsv := hb1.size
 have hx1 := (hb1.block _ (show w.heap.size + 1 + 1 < W1.heap.size by have := HS1.out; omega)).trans H1X.out
 have hr1 := (hb1.block _ (show w.heap.size + 1 < W1.heap.size by have := HS1.out; omega)).trans H1R.out
 have b0 := bC hb1 a0 (by have := HS1.out; omega)
 have b1 := bC hb1 a1 (by have := HS1.out; omega)
 have b2 := bC hb1 a2 (by have := HS1.out; omega)
 have p1 : v1.cell? ⟨w.heap.size + 1 + 1, 1, none⟩ = some (.slice none 0 0) := bx_cell hx1 1 _ rfl
 have q1 := bx_frozen hx1 1
 obtain ⟨og, hog⟩ : ∃ o : Option Addr, some ⟨g1, 0, none⟩ = o := ⟨_, rfl⟩
 rw [hog] at ow1 ⊢
 clear hog
 obtain ⟨W2, hW2⟩ : ∃ W, v1.setCell ⟨w.heap.size + 1 + 1, 1, none⟩ (.slice og m.l.length m.l.length) = W := ⟨_, rfl⟩
 have h2x := box_put hx1 1 (.slice og m.l.length m.l.length)
 rw [hW2] at h2x
 have h2r : W2.heap[w.heap.size + 1]? = some (.cells #[.int .i64 0, .slice none 0 0, .slice none 0 0] 29 (0, 0)) := by rw [← hW2]; exact (far_block (by omega) _ _).trans hr1
 have hs2 : W2.heap.size = v1.heap.size := by rw [← hW2]; simp
 have hB2 : Below w.heap.size w W2 := by rw [← hW2]; exact (HB1.out.trans (hb1.mono HB1.out.size)).setCell (p := ⟨w.heap.size + 1 + 1, 1, none⟩) (show w.heap.size ≤ w.heap.size + 1 + 1 by omega) _
 have HO2 : Hid (InL layK 178 W0.heap.size W2.heap.size W2 (.slice og m.l.length m.l.length) m.l) := by rw [← hW2]; exact InRow.of (own_low (own_mono ow1 (by have := HS1.out; omega)) hzx 1 _)
 have d0 : W2.cell? ⟨w.heap.size, 0, none⟩ = some (.int .i64 m.key) := by rw [← hW2]; exact (cell_far (by omega)).trans b0
 have d1 : W2.cell? ⟨w.heap.size, 1, none⟩ = some (.slice o m.l.length c) := by rw [← hW2]; exact (cell_far (by omega)).trans b1
 have d2 : W2.cell? ⟨w.heap.size, 2, none⟩ = some (.slice oR m.ring.length cR) := by rw [← hW2]; exact (cell_far (by omega)).trans b2
 have HB2 := hide hB2
 have HS2 := hide hs2
 have H2X := hide h2x
 have H2R := hide h2r
 clear hB2 hs2 h2x h2r hx1 hr1 ow1 hb1
 go_wp2_with fail
 refine (HRG.out W2 HB2.out).mono ?_
 rintro e v3 ⟨vr3, rfl, in3, hb3⟩
 obtain ⟨o3, c3, e3⟩ := RiR.len (InR.ri in3)
 subst e3
 have hsv3 := hb3.size
 have hx3 := (hb3.block _ (show w.heap.size + 1 + 1 < W2.heap.size by have := HS2.out; have := HS1.out; omega)).trans H2X.out
 have hr3 := (hb3.block _ (show w.heap.size + 1 < W2.heap.size by have := HS2.out; have := HS1.out; omega)).trans H2R.out
 have p2 : v3.cell? ⟨w.heap.size + 1 + 1, 2, none⟩ = some (.slice none 0 0) := bx_cell hx3 2 _ rfl
 have q2 := bx_frozen hx3 2
 obtain ⟨W4, hW4⟩ : ∃ W, v3.setCell ⟨w.heap.size + 1 + 1, 2, none⟩ (.slice o3 m.ring.length c3) = W := ⟨_, rfl⟩
 have h4x := box_put hx3 2 (.slice o3 m.ring.length c3)
 rw [hW4] at h4x
 have h4r : W4.heap[w.heap.size + 1]? = some (.cells #[.int .i64 0, .slice none 0 0, .slice none 0 0] 29 (0, 0)) := by rw [← hW4]; exact (far_block (by omega) _ _).trans hr3
 have hB4 : Below w.heap.size w W4 := by rw [← hW4]; exact (HB2.out.trans (hb3.mono HB2.out.size)).setCell (p := ⟨w.heap.size + 1 + 1, 2, none⟩) (show w.heap.size ≤ w.heap.size + 1 + 1 by omega) _
 have hs4 : W4.heap.size = v3.heap.size := by rw [← hW4]; simp
 have HIN : Hid (InPm W0.heap.size W4.heap.size W4 (plv m.key (.slice og m.l.length m.l.length) (.slice o3 m.ring.length c3)) m) := by
  rw [hs4, ← hW4]
  exact ⟨_, _, W2.heap.size, rfl, by have := HS2.out; have := HS1.out; omega, hsv3, InRow.step (InRow.step HO2.out (Stp.of (lo := 0) (hi := 0) hb3) (.inl (Nat.zero_le _))) (stp_set v3 (w.heap.size + 1 + 1) 2 _) (.inl (by omega)), InR.stp.go in3 (stp_set v3 (w.heap.size + 1 + 1) 2 _) (.inl (by have := HS2.out; have := HS1.out; omega))⟩
 obtain ⟨e0, e1, e2, g0, g1', g2⟩ := bx_allP h4x
 obtain ⟨t0, t1, t2, u0, u1, u2⟩ := bx_allP h4r
 have HB4 := hide hB4
 clear hB4 h4x h4r hx3 hr3 in3 hb3 hs4
 go_wp2
 refine bodyPost_ret (v := plv m.key (.slice og m.l.length m.l.length) (.slice o3 m.ring.length c3)) (by simp [results, Tryz.results138, go_sem, t0, t1, t2]) rfl ⟨_, rfl, ?_, setP_belowT HB4.out (Nat.le_succ _) _ _ _⟩
 rw [setP_sizeT]
 exact in_monoT (HIN.out.step (stp_setT W4 (w.heap.size + 1) _ _ _) (.inl (by omega))) (by omega)

end Go.Proofs.YtmmhgkkcpjhiiaaGreat

namespace Go.Proofs.YtmmhgkkcpjhiiaaGreat
open Go.ChangeShapes Go.WideShapes Go.ChangeAt Go.RowKit Go.Joins
set_option linter.unusedVariables false
set_option linter.unusedSimpArgs false


theorem cellsLawsPool : Tryz.prog.cellsOf 88 = 3 := by kernel_rfl
theorem cellsIntSS : Tryz.prog.cellsOf 51 = 1 := by kernel_rfl
theorem open_rows3_cells {H : Type} {enc : TypeId × Value → H} {W : World} {fuel : Nat} {cs : List Value} {x : DataW H × List MemPlace} (h : DataW.trod enc Tryz.prog W 0 (fun _ => true) true fuel 27 cs = some x) :
  ∃ (o : Option Addr) (cap : Nat) (ll : List (List (List Int))), cs = [.slice o ll.length cap] ∧ ll.length ≤ maxLen ∧ RiR 0 W.heap.size W (.slice o ll.length cap) ll ∧ (∀ i, i < ll.length → (ll.getD i []).length ≤ maxLen) ∧ ∀ i, i < ll.length → ∀ j, j < (ll.getD i []).length → ((ll.getD i []).getD j []).length ≤ maxLen := by
 rcases Go.Deep.open_slice1 Tryz.underlying27 cellsIntSS h with ⟨hcs, _⟩ | ⟨a, len, cap, m, n, V, D, Pl, hcs, _, hl, hm, hmm, _, hx⟩
 ·exact ⟨none, 0, [], hcs, Nat.zero_le _, ⟨[], rfl, ⟨none, 0, rfl, .inl rfl⟩, fun i hi => absurd hi (Nat.not_lt_zero _)⟩, fun i hi => absurd hi (Nat.not_lt_zero _), fun i hi => absurd hi (Nat.not_lt_zero _)⟩
 ·have hlm : len ≤ m := by rw [hmm]; split <;> omega
  have ex : ∀ i, i < len → ∃ y : Hd × List (List Int), V i = .slice y.1.1 y.1.2.1 y.1.2.2 ∧ y.1.2.1 = y.2.length ∧ y.2.length ≤ maxLen ∧ RdLL W.heap.size W y.1.1 y.2 ∧ ∀ j, j < y.2.length → (y.2.getD j []).length ≤ maxLen := fun i hi => by
   obtain ⟨o', c', l', e, hl', hr, hj⟩ := open_rows_cells (hx i (by omega)).2
   simp at e
   exact ⟨((o', l'.length, c'), l'), e, rfl, hl', hr, hj⟩
  have hne : Inhabited (Hd × List (List Int)) := ⟨((none, 0, 0), [])⟩
  obtain ⟨f, hf⟩ := Go.Deep.choose_lt ex
  have gd : ∀ i, i < len → ((List.range len).map (fun i => (f i).2)).getD i [] = (f i).2 := fun i hi => by simp [hi]
  have gh : ∀ i, i < len → ((List.range len).map (fun i => (f i).1)).getD i (none, 0, 0) = (f i).1 := fun i hi => by simp [hi]
  refine ⟨some a, cap, (List.range len).map (fun i => (f i).2), by simpa using hcs, by simp; omega, ⟨(List.range len).map (fun i => (f i).1), by simp, ⟨some a, cap, by simp, ?_⟩, fun i hi => ?_⟩, fun i hi => ?_, fun i hi => ?_⟩
  ·by_cases h0 : len = 0
   ·left; simp [h0]
   ·right
    obtain ⟨b, off, spot⟩ := a
    have hc := (hx 0 (by omega)).1
    have hspot : spot = none := by simpa [Addr.add] using World.cell?_spot hc
    subst hspot
    have e2 : ∀ j, (⟨b, off, none⟩ : Addr).add j = ⟨b, off + j, none⟩ := fun j => by by_cases h : j = 0 <;> simp [Addr.add, h]
    refine ⟨b, off, rfl, Nat.zero_le _, ?_, fun i hi j hj => ?_⟩
    ·rw [e2] at hc
     rcases Nat.lt_or_ge b W.heap.size with h | h
     ·exact h
     ·simp [World.cell?, Array.getElem?_eq_none h] at hc
    ·have hi' : i < len := by simpa using hi
     have hj' : j = 0 := by have : j < 1 := hj; omega
     subst hj'
     have h1 := (hx i (by omega)).1
     rw [e2] at h1
     rw [show layH.d = (none, 0, 0) from rfl, gh i hi', show layH.k = 1 from rfl, Nat.mul_one, Nat.add_zero, h1, (hf i hi').1]
     rfl
  ·have hi' : i < len := by simpa using hi
   have hv' : hv ((List.range len).map (fun i => (f i).1)) i = .slice (f i).1.1 (f i).2.length (f i).1.2.2 := by unfold hv; rw [gh i hi', (hf i hi').2.1]
   rw [gd i hi', hv']
   exact RiT.of (hf i hi').2.2.2.1
  ·have hi' : i < len := by simpa using hi
   rw [gd i hi']
   exact (hf i hi').2.2.1
  ·have hi' : i < len := by simpa using hi
   rw [gd i hi']
   exact (hf i hi').2.2.2.2
end Go.Proofs.YtmmhgkkcpjhiiaaGreat

