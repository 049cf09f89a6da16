/- The program's tableFrom. -/
import Derived.Test.YtljogkoaaidlcaaDoorQAgentText07
import Derived.Test.YtljogkoaaidlcaaDoorQAgentText09
namespace Go.Proofs.YtljogkoaaidlcaaDoor
open Go.ChangeShapes Go.WideShapes Go.ChangeAt Go.RowKit Go.Joins
set_option linter.unusedVariables false
set_option linter.unusedSimpArgs false

theorem rd_of_own {e : TypeId} {w : World} {base g n c : Nat} {l : List Sl} (h : w.ownsRow base e 5 (.slice (some ⟨g, 0, none⟩) n c) n (l.flatMap layS.cs)) (hn : n = l.length) : ∀ i, i < l.length → ∀ j, j < layS.k → w.cell? ⟨g, 0 + i * layS.k + j, none⟩ = (layS.cs (l.getD i layS.d))[j]? := fun i hi j hj => by
 have hij : i * layS.k + j < l.length * layS.k := by
  have : (i + 1) * layS.k ≤ l.length * layS.k := Nat.mul_le_mul_right _ hi
  rw [Nat.add_mul] at this; omega
 subst hn
 rw [Nat.zero_add, h.cellAt _ hij, flat_get layS l i j hi hj]

set_option maxHeartbeats 8000000 in
theorem tableFrom_all (o : Option Addr) (c : Nat) (l : List Sl) (w : World) (hR : RdS w.heap.size w o l) (hl : l.length ≤ 1048576) :
  Calls Tryd.prog 31 #[tab (.slice o l.length c)] w fun e w' => ∃ o' n' c', e = .returned (.tuple #[tab (.slice o' n' c'), .bool (tableOkB l)]) ∧ ((n' = 0 ∧ tableOkB l = false) ∨ ∃ g, o' = some ⟨g, 0, none⟩ ∧ n' = l.length ∧ c' = l.length ∧ ownL layS CellT w' w.heap.size (.slice (some ⟨g, 0, none⟩) l.length l.length) l) ∧ Below w.heap.size w w' := by
 have hB : Below w.heap.size w w := Below.refl _ _
 by_cases hlen : 1 ≤ l.length ∧ l.length ≤ 16
 ·obtain ⟨hn, h16⟩ := hlen
  rcases hR with hR | ⟨b, off, rfl, hbl, hcell⟩
  ·subst hR; simp at hn
  have HC := hide hcell
  have i1 : ¬ ((l.length : Int) < 1) := by omega
  have i2 : ¬ (16 < (l.length : Int)) := by omega
  obtain ⟨W0, hW0⟩ : ∃ W, (w.alloc (.cells #[.slice (some ⟨b, off, none⟩) l.length c] 32)).alloc (.cells #[.slice none 0 0] 61) = W := ⟨_, rfl⟩
  have h0 : Hid (Below w.heap.size w W0) := by rw [← hW0]; exact ((Below.refl _ _).alloc (Nat.le_refl _) _).alloc (by simp) _
  have c00 : W0.cell? ⟨w.heap.size, 0, none⟩ = some (.slice (some ⟨b, off, none⟩) l.length c) := by rw [← hW0]; simp [go_sem]
  have b01 : Hid (W0.heap[w.heap.size + 1]? = some (.cells #[.slice none 0 0] 61 (0, 0))) := by
   have h := World.alloc_heap_new (w.alloc (.cells #[.slice (some ⟨b, off, none⟩) l.length c] 32)) (.cells #[.slice none 0 0] 61)
   rw [hW0, World.size_alloc] at h
   exact h
  have hz0 : w.heap.size + 1 < W0.heap.size := by rw [← hW0]; simp
  clear hcell hB
  go_enter Tryd.func31, Tryd.ntmps31
  go_wp2_with fail
  refine (newFlowTable_any l.length W0 hl).mono ?_
  rintro e w1 ⟨g, rfl, hown, hb1⟩
  have hg1 : g < w1.heap.size := (hown.lt g rfl).2
  have hg0 : W0.heap.size ≤ g := (hown.lt g rfl).1
  obtain ⟨W2, hW2⟩ : ∃ W, w1.alloc (.cells #[.slice (some ⟨g, 0, none⟩) l.length l.length] 61) = W := ⟨_, rfl⟩
  have hbW : Below w1.heap.size w1 W2 := by rw [← hW2]; exact (Below.refl _ _).alloc (Nat.le_refl _) _
  have hb2 : Below W0.heap.size W0 W2 := hb1.trans (hbW.mono hb1.size)
  have c20 : W2.cell? ⟨w.heap.size, 0, none⟩ = some (.slice (some ⟨b, off, none⟩) l.length c) := (hb2.cell (p := ⟨w.heap.size, 0, none⟩) (show w.heap.size < W0.heap.size by omega)).trans c00
  have b24 : Hid (W2.heap[w1.heap.size]? = some (.cells #[.slice (some ⟨g, 0, none⟩) l.length l.length] 61 (0, 0))) := by rw [← hW2]; exact World.alloc_heap_new w1 _
  have b21 : Hid (W2.heap[w.heap.size + 1]? = some (.cells #[.slice none 0 0] 61 (0, 0))) := (hb2.block _ hz0).trans b01.out
  have HB2 := hide (h0.out.trans (hb2.mono h0.out.size))
  have hz4 : w1.heap.size < W2.heap.size := by rw [← hW2]; simp
  have HO2 : Hid (W2.ownsRow W0.heap.size CellT 5 (.slice (some ⟨g, 0, none⟩) l.length l.length) l.length ((fillL layS l 0).flatMap layS.cs)) := by
   have h : W2.ownsRow W0.heap.size CellT 5 (.slice (some ⟨g, 0, none⟩) l.length l.length) (List.replicate l.length sl0).length ((List.replicate l.length sl0).flatMap layS.cs) := own_kept hown hbW
   rw [List.length_replicate] at h
   unfold Hid
   rw [fillL_zero]
   exact h
  clear hown hb1 hbW hb2 c00 b01 hW0
  have hzz : w.heap.size + 1 < w1.heap.size := by omega
  go_wp2
  go_loopw [27] (fun i wr => ∃ k : Nat, k ≤ l.length ∧ i = .int .i64 k ∧ Hid (slotTo l k) ∧ Hid (wr.ownsRow W0.heap.size CellT 5 (.slice (some ⟨g, 0, none⟩) l.length l.length) l.length ((fillL layS l k).flatMap layS.cs)) ∧ Hid (wr.heap[w.heap.size + 1]? = some (.cells #[.slice none 0 0] 61 (0, 0))) ∧ Hid (wr.heap[w1.heap.size]? = some (.cells #[.slice (some ⟨g, 0, none⟩) l.length l.length] 61 (0, 0))) ∧ Hid (Below w.heap.size w wr) ∧ w1.heap.size < wr.heap.size)
   (fun i _ => l.length - (intOf i).toNat)
  case atStart => exact ⟨0, Nat.zero_le _, rfl, fun i hi => absurd hi (Nat.not_lt_zero _), HO2, b21, b24, HB2, hz4⟩
  case round =>
   clear HO2 b21 b24 HB2 c20 hW2
   obtain ⟨k, hk, rfl, hT, HO, HR, HT4, HBr, hsz⟩ := hrel
   have r1 := block_cell1 HR.out 0 _ rfl
   have f1 : wr.frozen? ⟨w.heap.size + 1, 0, none⟩ = false := by have h := HR.out; simp [World.frozen?, h]
   by_cases hlt : k < l.length
   ·obtain ⟨s, hxy⟩ : ∃ s, l.getD k sl0 = s := ⟨_, rfl⟩
    have hcx := RdL.slot (C := w.heap.size) HC.out k hlt
    rw [hxy] at hcx
    have e0 := (HBr.out.cell (p := ⟨b, off + k * 5, none⟩) hbl).trans hcx.1
    have e1 := (HBr.out.cell (p := ⟨b, off + k * 5 + 1, none⟩) hbl).trans hcx.2.1
    have e2 := (HBr.out.cell (p := ⟨b, off + k * 5 + 2, none⟩) hbl).trans hcx.2.2.1
    have e3 := (HBr.out.cell (p := ⟨b, off + k * 5 + 3, none⟩) hbl).trans hcx.2.2.2.1
    have e4 := (HBr.out.cell (p := ⟨b, off + k * 5 + 4, none⟩) hbl).trans hcx.2.2.2.2
    have hk' : (k : Int) < (l.length : Int) := by omega
    obtain ⟨W3, hW3⟩ : ∃ W, wr.alloc (.cells #[.bool s.u, .int .i64 s.a, .int .i64 s.p, .int .i64 s.v, .int .i64 s.t] 56) = W := ⟨_, rfl⟩
    have hb3 : Below wr.heap.size wr W3 := by rw [← hW3]; exact (Below.refl _ _).alloc (Nat.le_refl _) _
    have HX := hide hxy
    have Hb3 := hide hb3
    have g0 : W3.cell? ⟨wr.heap.size, 0, none⟩ = some (.bool s.u) := by rw [← hW3]; simp [go_sem]
    have g1 : W3.cell? ⟨wr.heap.size, 1, none⟩ = some (.int .i64 s.a) := by rw [← hW3]; simp [go_sem]
    have g2 : W3.cell? ⟨wr.heap.size, 2, none⟩ = some (.int .i64 s.p) := by rw [← hW3]; simp [go_sem]
    have g3 : W3.cell? ⟨wr.heap.size, 3, none⟩ = some (.int .i64 s.v) := by rw [← hW3]; simp [go_sem]
    have g4 : W3.cell? ⟨wr.heap.size, 4, none⟩ = some (.int .i64 s.t) := by rw [← hW3]; simp [go_sem]
    clear hcx hxy hb3
    go_wp2_with fail
    refine (cellFrom_any s W3).mono ?_
    rintro e w4 ⟨s', rfl, hs', hb4⟩
    obtain ⟨W5, hW5⟩ : ∃ W, w4.alloc (.cells #[.bool s'.u, .int .i64 s'.a, .int .i64 s'.p, .int .i64 s'.v, .int .i64 s'.t] 89) = W := ⟨_, rfl⟩
    have hb5 : Below wr.heap.size wr W5 := Hb3.out.trans ((hb4.trans (by rw [← hW5]; exact (Below.refl _ _).alloc (by have := hb4.size; omega) _)).mono Hb3.out.size)
    have q0 : W5.cell? ⟨w4.heap.size, 0, none⟩ = some (.bool s'.u) := by rw [← hW5]; simp [go_sem]
    have q1 : W5.cell? ⟨w4.heap.size, 1, none⟩ = some (.int .i64 s'.a) := by rw [← hW5]; simp [go_sem]
    have q2 : W5.cell? ⟨w4.heap.size, 2, none⟩ = some (.int .i64 s'.p) := by rw [← hW5]; simp [go_sem]
    have q3 : W5.cell? ⟨w4.heap.size, 3, none⟩ = some (.int .i64 s'.v) := by rw [← hW5]; simp [go_sem]
    have q4 : W5.cell? ⟨w4.heap.size, 4, none⟩ = some (.int .i64 s'.t) := by rw [← hW5]; simp [go_sem]
    have HB5 := hide (HBr.out.trans (hb5.mono HBr.out.size))
    have HR5 : Hid (W5.heap[w.heap.size + 1]? = some (.cells #[.slice none 0 0] 61 (0, 0))) := (hb5.block _ (by omega)).trans HR.out
    have HT5 : Hid (W5.heap[w1.heap.size]? = some (.cells #[.slice (some ⟨g, 0, none⟩) l.length l.length] 61 (0, 0))) := (hb5.block _ hsz).trans HT4.out
    have hsz5 : w1.heap.size < W5.heap.size := Nat.lt_of_lt_of_le hsz hb5.size
    have hown5 := own_kept HO.out hb5
    clear Hb3 hb4 hb5 g0 g1 g2 g3 g4 e0 e1 e2 e3 e4 r1 f1 HR HT4 HBr HO hW3
    cases hsb : slotB s with
    | false =>
     have HN := hide (tableOkB_no hlt (tabAt_slot (by rw [HX.out]; exact hsb)))
     have r1 := block_cell1 HR5.out 0 _ rfl
     have f1 : W5.frozen? ⟨w.heap.size + 1, 0, none⟩ = false := by have h := HR5.out; simp [World.frozen?, h]
     clear hown5 hsb hs' hT
     go_wp2
     refine bodyPost_ret (v := .tuple #[tab (.slice none 0 0), .bool false]) (by simp [results, Tryd.results31, go_sem, r1]) rfl ⟨_, _, _, by rw [← HN.out], .inl ⟨rfl, HN.out.symm⟩, ?_⟩
     exact HB5.out.setCell (p := ⟨w.heap.size + 1, 0, none⟩) (by simp) _
    | true =>
     obtain rfl := hs' hsb
     have HT := hide (slotTo_succ hT.out (by rw [HX.out]; exact hsb))
     have t4 := block_cell1 HT5.out 0 _ rfl
     have hln : ((fillL layS l k).flatMap layS.cs).length = l.length * 5 := by rw [flat_length, fillL_length layS l k hk]; rfl
     obtain ⟨u0, hu0⟩ : ∃ u, W5.cell? ⟨g, k * 5, none⟩ = some u := ⟨_, (hown5.cellAt (k * 5) (by omega)).trans (List.getElem?_eq_getElem (by omega))⟩
     have hf0 := hown5.frozenAt (k * 5)
     obtain ⟨u1, hu1⟩ : ∃ u, W5.cell? ⟨g, k * 5 + 1, none⟩ = some u := ⟨_, (hown5.cellAt (k * 5 + 1) (by omega)).trans (List.getElem?_eq_getElem (by omega))⟩
     have hf1 := hown5.frozenAt (k * 5 + 1)
     obtain ⟨u2, hu2⟩ : ∃ u, W5.cell? ⟨g, k * 5 + 2, none⟩ = some u := ⟨_, (hown5.cellAt (k * 5 + 2) (by omega)).trans (List.getElem?_eq_getElem (by omega))⟩
     have hf2 := hown5.frozenAt (k * 5 + 2)
     obtain ⟨u3, hu3⟩ : ∃ u, W5.cell? ⟨g, k * 5 + 3, none⟩ = some u := ⟨_, (hown5.cellAt (k * 5 + 3) (by omega)).trans (List.getElem?_eq_getElem (by omega))⟩
     have hf3 := hown5.frozenAt (k * 5 + 3)
     obtain ⟨u4, hu4⟩ : ∃ u, W5.cell? ⟨g, k * 5 + 4, none⟩ = some u := ⟨_, (hown5.cellAt (k * 5 + 4) (by omega)).trans (List.getElem?_eq_getElem (by omega))⟩
     have hf4 := hown5.frozenAt (k * 5 + 4)
     have HR6 := hide (stored5 (k := k) s' hg0 hown5 (Below.refl W0.heap.size W5))
     have HX2 := hide (show (fillL layS l k).set k s' = fillL layS l (k + 1) by rw [← HX.out]; exact fillL_set layS l k hlt)
     clear hown5 hln hsb hs' hT
     go_wp2
     go_roundw
     case rel => exact ⟨k + 1, hlt, by go_num, HT, (by have h := HR6.out.1; rw [HX2.out] at h; exact h), (HR6.out.2.block _ hz0).trans HR5.out, (by
       repeat (refine (Below.heap_setCell _ _ _ _ (by simp; omega)).trans ?_)
       exact HT5.out), HB5.out.trans (HR6.out.2.mono (by have := h0.out.size; omega)), Nat.lt_of_lt_of_le hsz5 HR6.out.2.size⟩
     case measure => simp [intOf]; omega
   ·have e : k = l.length := by omega
    subst e
    have hrow := HO.out
    rw [fillL_all] at hrow
    have HRow := hide hrow
    clear hrow HO
    have t4 := block_cell1 HT4.out 0 _ rfl
    have hgr : g < wr.heap.size := by omega
    have hrB := ownsRow_setCell_below HRow.out (a := ⟨w.heap.size + 1, 0, none⟩) (show w.heap.size + 1 < W0.heap.size from hz0) (.slice (some ⟨g, 0, none⟩) l.length l.length)
    have hA := waysEndRight_any g 0 l.length l wr.drew (by omega) hl hT.out hgr (fun i hi j hj => rd_of_own HRow.out rfl i hi j hj)
    have hBw := waysEndRight_any g 0 l.length l (wr.setCell ⟨w.heap.size + 1, 0, none⟩ (.slice (some ⟨g, 0, none⟩) l.length l.length)).drew (by omega) hl hT.out (by simpa using hgr) (fun i hi j hj => rd_of_own hrB rfl i hi j hj)
    rw [tableOkB_ways hn h16 hT.out] at hA hBw
    have HrB := hide hrB
    have HRowD : Hid (wr.drew.ownsRow W0.heap.size CellT 5 (.slice (some ⟨g, 0, none⟩) l.length l.length) l.length (l.flatMap layS.cs)) := HRow.out
    have hs1 : w.heap.size + 1 < wr.heap.size := by omega
    have hs2 : w.heap.size + 1 < (wr.setCell ⟨w.heap.size + 1, 0, none⟩ (.slice (some ⟨g, 0, none⟩) l.length l.length)).heap.size := by simpa using hs1
    have cB : (wr.setCell ⟨w.heap.size + 1, 0, none⟩ (.slice (some ⟨g, 0, none⟩) l.length l.length)).cell? ⟨w.heap.size + 1, 0, none⟩ = some (.slice (some ⟨g, 0, none⟩) l.length l.length) := World.cell?_setCell_same' wr ⟨w.heap.size + 1, 0, none⟩ _ (by rw [r1]; rfl)
    clear hrB hT
    go_wp2
    first | (go_region_with (first | (go_at_call 46; refine hA.mono ?_; rintro e w2 ⟨rfl, hb2⟩; have m1 := (hb2.cell (p := ⟨w.heap.size + 1, 0, none⟩) hs1).trans r1; have mf := (hb2.frozen (p := ⟨w.heap.size + 1, 0, none⟩) hs1).trans f1; have m4 := (hb2.cell (p := ⟨w1.heap.size, 0, none⟩) hsz).trans t4; have HbA := hide hb2; clear hb2) | (go_at_call 46; refine hBw.mono ?_; rintro e w3 ⟨rfl, hb3⟩; have m1 := (hb3.cell (p := ⟨w.heap.size + 1, 0, none⟩) hs2).trans cB; have HbB := hide hb3; clear hb3))) | fail
    all_goals go_wp2
    all_goals refine bodyPost_ret (v := .tuple #[tab (.slice (some ⟨g, 0, none⟩) l.length l.length), .bool (tableOkB l)]) (by simp [results, Tryd.results31, go_sem, m1]) rfl ⟨_, _, _, rfl, .inr ⟨g, rfl, rfl, rfl, ?_⟩, ?_⟩
    all_goals first
     | exact own_mono (ownsRow_setCell_below (own_kept HRowD.out HbA.out) (show w.heap.size + 1 < W0.heap.size from hz0) _) h0.out.size
     | exact ((Below.drew HBr.out).trans (HbA.out.mono (Nat.le_trans (Nat.le_succ _) (Nat.le_of_lt hs1)))).setCell (p := ⟨w.heap.size + 1, 0, none⟩) (by simp) _
 ·have HN := hide (tableOkB_len hlen)
  by_cases h1 : (l.length : Int) < 1
  ·go_enter Tryd.func31, Tryd.ntmps31
   go_wp2
   refine bodyPost_ret (v := .tuple #[tab (.slice none 0 0), .bool false]) (by simp [results, Tryd.results31, go_sem]) rfl ⟨_, _, _, by rw [← HN.out], .inl ⟨rfl, HN.out.symm⟩, ?_⟩
   (repeat (first | with_reducible exact hB | with_reducible exact Below.refl _ _ | with_reducible refine Below.drew ?_ | with_reducible refine below_drewN ?_ _ | with_reducible refine Below.alloc ?_ ?_ _ | with_reducible refine Below.setCell ?_ ?_ _ | (focus (simp; done)) | (focus (simp; omega)) | omega))
  ·have h2 : (16 : Int) < l.length := by omega
   go_enter Tryd.func31, Tryd.ntmps31
   go_wp2
   refine bodyPost_ret (v := .tuple #[tab (.slice none 0 0), .bool false]) (by simp [results, Tryd.results31, go_sem]) rfl ⟨_, _, _, by rw [← HN.out], .inl ⟨rfl, HN.out.symm⟩, ?_⟩
   (repeat (first | with_reducible exact hB | with_reducible exact Below.refl _ _ | with_reducible refine Below.drew ?_ | with_reducible refine below_drewN ?_ _ | with_reducible refine Below.alloc ?_ ?_ _ | with_reducible refine Below.setCell ?_ ?_ _ | (focus (simp; done)) | (focus (simp; omega)) | omega))

theorem tableFrom_any (o : Option Addr) (c : Nat) (l : List Sl) (w : World) (hR : RdS w.heap.size w o l) (hl : l.length ≤ 1048576) :
  Calls Tryd.prog 31 #[tab (.slice o l.length c)] w fun e w' => ∃ o' n' c', e = .returned (.tuple #[tab (.slice o' n' c'), .bool (tableOkB l)]) ∧ (tableOkB l = true → ∃ g, o' = some ⟨g, 0, none⟩ ∧ n' = l.length ∧ c' = l.length ∧ ownL layS CellT w' w.heap.size (.slice (some ⟨g, 0, none⟩) l.length l.length) l) ∧ Below w.heap.size w w' := by
 refine (tableFrom_all o c l w hR hl).mono ?_
 rintro e w' ⟨o', n', c', rfl, h, hb⟩
 refine ⟨o', n', c', rfl, fun ht => ?_, hb⟩
 rcases h with ⟨_, h⟩ | h
 ·rw [ht] at h; cases h
 ·exact h

end Go.Proofs.YtljogkoaaidlcaaDoor

