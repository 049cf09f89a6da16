/- The model's TableOk. -/
import Derived.Test.YtiijecnhbioehaaSTabS
namespace Go.Proofs.Ytiijecnhbioehaa
open Go.ChangeShapes Go.WideShapes Go.ChangeAt Go.RowKit Go.Joins
set_option linter.unusedVariables false
set_option linter.unusedSimpArgs false

set_option maxHeartbeats 4000000 in
theorem specTableOk_any (o : Option Addr) (c : Nat) (l : List Sl) (w : World) (hR : RdS w.heap.size w o l) (hl : l.length ≤ 1048576) :
    Calls Try.prog 29 #[tab (.slice o l.length c)] w fun e w' => e = .returned (.bool (tableOkB l)) ∧ Below w.heap.size w w' := by
  have hB : Below w.heap.size w w := Below.refl _ _
  by_cases hlen : 1 ≤ l.length ∧ l.length ≤ 16
  · obtain ⟨hn, h16⟩ := hlen
    rcases hR with hR | ⟨b, off, rfl, hbl, hcell⟩
    · subst hR; simp at hn
    have HC := hide hcell
    have i1 : ¬ ((l.length : Int) < 1) := by omega
    have i2 : ¬ (16 < (l.length : Int)) := by omega
    have h0 : Hid (Below w.heap.size w (w.alloc (.cells #[.slice (some ⟨b, off, none⟩) l.length c] 25))) := hB.alloc (Nat.le_refl _) _
    have hb0 : Hid ((w.alloc (.cells #[.slice (some ⟨b, off, none⟩) l.length c] 25)).cell? ⟨w.heap.size, 0, none⟩ = some (.slice (some ⟨b, off, none⟩) l.length c)) := by simp [hide, go_sem, Hid]
    have hz0 : w.heap.size < (w.alloc (.cells #[.slice (some ⟨b, off, none⟩) l.length c] 25)).heap.size := by simp
    clear hcell hB
    go_enter Try.func29, Try.ntmps29
    go_wp2
    generalize w.alloc (.cells #[.slice (some ⟨b, off, none⟩) l.length c] 25) = w0 at *
    go_loopw [3] (fun i wr => ∃ k : Nat, k ≤ l.length ∧ i = .int .i64 k ∧ Hid (tabTo l k) ∧ Hid (Below w0.heap.size w0 wr))
      (fun i _ => l.length - (intOf i).toNat)
    case atStart => exact ⟨0, Nat.zero_le _, rfl, fun i hi => absurd hi (Nat.not_lt_zero _), Below.refl _ _⟩
    case round =>
      obtain ⟨k, hk, rfl, hT, HBr⟩ := hrel
      have d0 : wr.cell? ⟨w.heap.size, 0, none⟩ = some (.slice (some ⟨b, off, none⟩) l.length c) := (HBr.out.cell (p := ⟨w.heap.size, 0, none⟩) hz0).trans hb0.out
      have HB2 := hide (h0.out.trans (HBr.out.mono h0.out.size))
      have hs1 : w0.heap.size ≤ wr.heap.size := HBr.out.size
      by_cases hlt : k < l.length
      · obtain ⟨s, hxy⟩ : ∃ s, l.getD k sl0 = s := ⟨_, rfl⟩
        have hcx := RdL.slot (C := w.heap.size) HC.out k hlt
        rw [hxy] at hcx
        have e0 : wr.cell? ⟨b, off + k * 5, none⟩ = some (.bool s.u) := (HB2.out.cell (p := ⟨b, off + k * 5, none⟩) hbl).trans hcx.1
        have e1 : wr.cell? ⟨b, off + k * 5 + 1, none⟩ = some (.int .i64 s.a) := (HB2.out.cell (p := ⟨b, off + k * 5 + 1, none⟩) hbl).trans hcx.2.1
        have e2 : wr.cell? ⟨b, off + k * 5 + 2, none⟩ = some (.int .i64 s.p) := (HB2.out.cell (p := ⟨b, off + k * 5 + 2, none⟩) hbl).trans hcx.2.2.1
        have e3 : wr.cell? ⟨b, off + k * 5 + 3, none⟩ = some (.int .i64 s.v) := (HB2.out.cell (p := ⟨b, off + k * 5 + 3, none⟩) hbl).trans hcx.2.2.2.1
        have e4 : wr.cell? ⟨b, off + k * 5 + 4, none⟩ = some (.int .i64 s.t) := (HB2.out.cell (p := ⟨b, off + k * 5 + 4, none⟩) hbl).trans hcx.2.2.2.2
        have hk' : (k : Int) < (l.length : Int) := by omega
        have HX := hide hxy
        clear hcx hxy
        obtain ⟨su, sa, sp, sv, st⟩ := s
        simp only at e0 e1 e2 e3 e4
        cases su with
        | false =>
          by_cases hz : sa = 0 ∧ sp = 0 ∧ sv = 0 ∧ st = 0
          · obtain ⟨rfl, rfl, rfl, rfl⟩ := hz
            have HT := hide (tabTo_succ hT.out (tabAt_free (by rw [HX.out]) ((slotB_free (by rw [HX.out])).2 HX.out)))
            clear hT
            go_wp2
            go_roundw
            case rel => exact ⟨k + 1, hlt, by go_num, HT, show Below _ _ _ by have hB := HBr.out; (repeat (first | with_reducible exact hB | with_reducible exact Below.refl _ _ | with_reducible refine Below.drew ?_ | with_reducible refine below_drewN ?_ _ | with_reducible refine Below.alloc ?_ ?_ _ | with_reducible refine Below.setCell ?_ ?_ _ | (focus (simp; done)) | (focus (simp; omega)) | omega))⟩
            case measure => simp [intOf]; omega
          · have HN := hide (tableOkB_no hlt (tabAt_slot (by rw [HX.out]; simp [slotB]; intro h1 h2 h3 h4; exact hz ⟨h1, h2, h3, h4⟩)))
            clear hT
            go_wp2
            all_goals go_ret
            all_goals exact ⟨ret_bool HN.out, by have hB := HB2.out; (repeat (first | with_reducible exact hB | with_reducible exact Below.refl _ _ | with_reducible refine Below.drew ?_ | with_reducible refine below_drewN ?_ _ | with_reducible refine Below.alloc ?_ ?_ _ | with_reducible refine Below.setCell ?_ ?_ _ | (focus (simp; done)) | (focus (simp; omega)) | omega))⟩
        | true =>
          obtain ⟨W1, hW1⟩ : ∃ W, wr.alloc (.cells #[.bool true, .int .i64 sa, .int .i64 sp, .int .i64 sv, .int .i64 st] 35) = W := ⟨_, rfl⟩
          have hbW : Hid (Below wr.heap.size wr W1) := by rw [← hW1]; exact (Below.refl _ _).alloc (Nat.le_refl _) _
          have hzW : wr.heap.size < W1.heap.size := by rw [← hW1]; simp
          have c0 : W1.cell? ⟨wr.heap.size, 0, none⟩ = some (.bool true) := by rw [← hW1]; simp [go_sem]
          have c1 : W1.cell? ⟨wr.heap.size, 1, none⟩ = some (.int .i64 sa) := by rw [← hW1]; simp [go_sem]
          have c2 : W1.cell? ⟨wr.heap.size, 2, none⟩ = some (.int .i64 sp) := by rw [← hW1]; simp [go_sem]
          have c3 : W1.cell? ⟨wr.heap.size, 3, none⟩ = some (.int .i64 sv) := by rw [← hW1]; simp [go_sem]
          have c4 : W1.cell? ⟨wr.heap.size, 4, none⟩ = some (.int .i64 st) := by rw [← hW1]; simp [go_sem]
          have c5 : W1.cell? ⟨w.heap.size, 0, none⟩ = some (.slice (some ⟨b, off, none⟩) l.length c) := (hbW.out.cell (p := ⟨w.heap.size, 0, none⟩) (show w.heap.size < wr.heap.size by omega)).trans d0
          have hz3 : w.heap.size < W1.heap.size := by omega
          have HBW := hide (HB2.out.trans (hbW.out.mono HB2.out.size))
          have HW := hide (HBr.out.trans (hbW.out.mono HBr.out.size))
          have hfl := specFlowOk_any sa sp W1
          cases hfo : flowOkB sa sp with
          | false =>
            have HN := hide (tableOkB_no hlt (tabAt_slot (by rw [HX.out]; simp [slotB, hfo])))
            rw [hfo] at hfl
            clear hT hfo
            go_wp2_with (go_at_call 35; refine hfl.mono ?_; rintro e w2 ⟨rfl, hb2⟩; have HB3 := hide (HBW.out.trans (hb2.mono HBW.out.size)); have m0 := (hb2.cell (p := ⟨wr.heap.size, 0, none⟩) hzW).trans c0; have m2 := (hb2.cell (p := ⟨wr.heap.size, 3, none⟩) hzW).trans c3; have m3 := (hb2.cell (p := ⟨wr.heap.size, 4, none⟩) hzW).trans c4; clear hb2)
            all_goals go_ret
            all_goals exact ⟨ret_bool HN.out, HB3.out⟩
          | true =>
            rw [hfo] at hfl
            by_cases hv : 0 ≤ sv ∧ sv ≤ 100000 ∧ 0 ≤ st ∧ st ≤ 200000
            · obtain ⟨v1, v2, v3, v4⟩ := hv
              have g1 : ¬ sv < 0 := by omega
              have g2 : ¬ 100000 < sv := by omega
              have g3 : ¬ st < 0 := by omega
              have g4 : ¬ 200000 < st := by omega
              have HS := hide ((slotB_used (s := l.getD k sl0) (by rw [HX.out])).2 (by rw [HX.out]; exact ⟨hfo, v1, v2, v3, v4⟩))
              have HF := hide hfo
              clear hfo v1 v2 v3 v4
              have hat := fun W hr => l5at_any (some ⟨b, off, none⟩) c l sa sp W hr (by omega) hl HF.out
              by_cases hE : endL l sa sp = ((k : Int), true)
              · have HT := hide (tabTo_succ hT.out (tabAt_used HS.out (by rw [HX.out]; exact hE)))
                rw [hE] at hat
                clear hT hE
                go_wp2_with (first | (go_at_call 35; refine hfl.mono ?_; rintro e w2 ⟨rfl, hb2⟩; have HB3 := hide (HBW.out.trans (hb2.mono HBW.out.size)); have HB4 := hide (HW.out.trans (hb2.mono HW.out.size)); have m0 := (hb2.cell (p := ⟨wr.heap.size, 0, none⟩) hzW).trans c0; have m1 := (hb2.cell (p := ⟨wr.heap.size, 1, none⟩) hzW).trans c1; have m4 := (hb2.cell (p := ⟨wr.heap.size, 2, none⟩) hzW).trans c2; have m2 := (hb2.cell (p := ⟨wr.heap.size, 3, none⟩) hzW).trans c3; have m3 := (hb2.cell (p := ⟨wr.heap.size, 4, none⟩) hzW).trans c4; have m5 := (hb2.cell (p := ⟨w.heap.size, 0, none⟩) hz3).trans c5; have hz2 := hb2.size; clear hb2) | (go_at_call 70; refine (hat _ (.inr ⟨b, off, rfl, by omega, fun i hi j hj => (HB3.out.cell (p := ⟨b, off + i * layS.k + j, none⟩) hbl).trans (HC.out i hi j hj)⟩)).mono ?_; rintro e w3 ⟨rfl, hb3⟩; have HB5 := hide (HB4.out.trans (hb3.mono HB4.out.size)); clear hb3))
                go_roundw
                case rel => exact ⟨k + 1, hlt, by go_num, HT, HB5⟩
                case measure => simp [intOf]; omega
              · have HN := hide (tableOkB_no hlt (tabAt_way (by rw [HX.out]) (by rw [HX.out]; exact hE)))
                generalize hEE : endL l sa sp = E at *
                obtain ⟨E1, E2⟩ := E
                have hE' : E2 = true → ¬ E1 = (k : Int) := fun h1 h2 => hE (by rw [h1, h2])
                clear hT hE hEE
                cases E2 with
                | false =>
                  go_wp2_with (first | (go_at_call 35; refine hfl.mono ?_; rintro e w2 ⟨rfl, hb2⟩; have HB3 := hide (HBW.out.trans (hb2.mono HBW.out.size)); have HB4 := hide (HW.out.trans (hb2.mono HW.out.size)); have m0 := (hb2.cell (p := ⟨wr.heap.size, 0, none⟩) hzW).trans c0; have m1 := (hb2.cell (p := ⟨wr.heap.size, 1, none⟩) hzW).trans c1; have m4 := (hb2.cell (p := ⟨wr.heap.size, 2, none⟩) hzW).trans c2; have m2 := (hb2.cell (p := ⟨wr.heap.size, 3, none⟩) hzW).trans c3; have m3 := (hb2.cell (p := ⟨wr.heap.size, 4, none⟩) hzW).trans c4; have m5 := (hb2.cell (p := ⟨w.heap.size, 0, none⟩) hz3).trans c5; have hz2 := hb2.size; clear hb2) | (go_at_call 70; refine (hat _ (.inr ⟨b, off, rfl, by omega, fun i hi j hj => (HB3.out.cell (p := ⟨b, off + i * layS.k + j, none⟩) hbl).trans (HC.out i hi j hj)⟩)).mono ?_; rintro e w3 ⟨rfl, hb3⟩; have HB5 := hide (HB3.out.trans (hb3.mono HB3.out.size)); clear hb3))
                  go_ret
                  exact ⟨ret_bool HN.out, HB5.out⟩
                | true =>
                  have hE3 := hE' rfl
                  have hE4 : (E1 == (k : Int)) = false := beq_eq_false_iff_ne.2 hE3
                  clear hE'
                  go_wp2_with (first | (go_at_call 35; refine hfl.mono ?_; rintro e w2 ⟨rfl, hb2⟩; have HB3 := hide (HBW.out.trans (hb2.mono HBW.out.size)); have HB4 := hide (HW.out.trans (hb2.mono HW.out.size)); have m0 := (hb2.cell (p := ⟨wr.heap.size, 0, none⟩) hzW).trans c0; have m1 := (hb2.cell (p := ⟨wr.heap.size, 1, none⟩) hzW).trans c1; have m4 := (hb2.cell (p := ⟨wr.heap.size, 2, none⟩) hzW).trans c2; have m2 := (hb2.cell (p := ⟨wr.heap.size, 3, none⟩) hzW).trans c3; have m3 := (hb2.cell (p := ⟨wr.heap.size, 4, none⟩) hzW).trans c4; have m5 := (hb2.cell (p := ⟨w.heap.size, 0, none⟩) hz3).trans c5; have hz2 := hb2.size; clear hb2) | (go_at_call 70; refine (hat _ (.inr ⟨b, off, rfl, by omega, fun i hi j hj => (HB3.out.cell (p := ⟨b, off + i * layS.k + j, none⟩) hbl).trans (HC.out i hi j hj)⟩)).mono ?_; rintro e w3 ⟨rfl, hb3⟩; have HB5 := hide (HB3.out.trans (hb3.mono HB3.out.size)); clear hb3))
                  go_ret
                  exact ⟨ret_bool HN.out, HB5.out⟩
            · have HN := hide (tableOkB_no hlt (tabAt_slot (by rw [HX.out]; simp [slotB, hfo]; intro h1 h2 h3; exact Int.not_le.1 fun h4 => hv ⟨h1, h2, h3, h4⟩)))
              have HV := hide hv
              clear hT hfo hv
              go_wp2_with (go_at_call 35; refine hfl.mono ?_; rintro e w2 ⟨rfl, hb2⟩; have HB3 := hide (HBW.out.trans (hb2.mono HBW.out.size)); have m0 := (hb2.cell (p := ⟨wr.heap.size, 0, none⟩) hzW).trans c0; have m1 := (hb2.cell (p := ⟨wr.heap.size, 1, none⟩) hzW).trans c1; have m4 := (hb2.cell (p := ⟨wr.heap.size, 2, none⟩) hzW).trans c2; have m2 := (hb2.cell (p := ⟨wr.heap.size, 3, none⟩) hzW).trans c3; have m3 := (hb2.cell (p := ⟨wr.heap.size, 4, none⟩) hzW).trans c4; clear hb2)
              all_goals first | (go_ret; exact ⟨ret_bool HN.out, HB3.out⟩) | (exfalso; apply HV.out; omega) | skip
      · have e : k = l.length := by omega
        subst e
        have HY := hide (tableOkB_yes hn h16 hT.out)
        go_wp2
        go_ret
        exact ⟨ret_bool HY.out, HB2.out⟩
  · have HN := hide (tableOkB_len hlen)
    by_cases h1 : (l.length : Int) < 1
    · go_enter Try.func29, Try.ntmps29
      go_wp2
      go_ret
      exact ⟨ret_bool HN.out, by (repeat (first | with_reducible exact hB | with_reducible exact Below.refl _ _ | with_reducible refine Below.drew ?_ | with_reducible refine below_drewN ?_ _ | with_reducible refine Below.alloc ?_ ?_ _ | with_reducible refine Below.setCell ?_ ?_ _ | (focus (simp; done)) | (focus (simp; omega)) | omega))⟩
    · have h2 : (16 : Int) < l.length := by omega
      go_enter Try.func29, Try.ntmps29
      go_wp2
      go_ret
      exact ⟨ret_bool HN.out, by (repeat (first | with_reducible exact hB | with_reducible exact Below.refl _ _ | with_reducible refine Below.drew ?_ | with_reducible refine below_drewN ?_ _ | with_reducible refine Below.alloc ?_ ?_ _ | with_reducible refine Below.setCell ?_ ?_ _ | (focus (simp; done)) | (focus (simp; omega)) | omega))⟩

end Go.Proofs.Ytiijecnhbioehaa
