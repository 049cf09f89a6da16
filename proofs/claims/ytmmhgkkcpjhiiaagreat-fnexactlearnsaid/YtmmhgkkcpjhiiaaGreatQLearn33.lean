/- Several texts in one: STabS, STabS2. -/
import Derived.RegionTactic
import Derived.Test.YtmmhgkkcpjhiiaaGreatQLearn04
namespace Go.Proofs.YtmmhgkkcpjhiiaaGreat
open Go.ChangeShapes Go.WideShapes Go.ChangeAt Go.RowKit Go.Joins
set_option linter.unusedVariables false
set_option linter.unusedSimpArgs false

abbrev flow (a p : Int) : Value := .agg #[.int .i64 a, .int .i64 p]
set_option maxHeartbeats 400000 in
theorem l5home_any (n : Nat) (a p : Int) (w : World) (hn : 0 < n) (hl : n ≤ 1048576) (hf : flowOkB a p = true) :
  Calls Tryz.prog 321 #[.int .i64 n, flow a p] w fun e w' => e = .returned (.int .i64 (homeN n a p)) ∧ Below w.heap.size w w' := by
 have hB : Below w.heap.size w w := Below.refl _ _
 have hh := homeN_tmod hn hf
 have hlt := homeN_lt hn a p
 have h0 := flowOkB_iff.1 hf
 have hne : ¬ ((n : Int) = 0) := by omega
 have hne' : ((n : Int) == 0) = false := by simpa using hne
 obtain ⟨h1, h2, h3, h4⟩ := h0
 go_enter Tryz.func321, Tryz.ntmps321
 go_wp2
 go_ret
 exact ⟨rfl, by (repeat (first | with_reducible exact hB | with_reducible exact Below.refl _ _ | with_reducible refine Below.drew ?_ | with_reducible refine below_drewN ?_ _ | with_reducible refine Below.alloc ?_ ?_ _ | with_reducible refine Below.setCell ?_ ?_ _ | (focus (simp; done)) | (focus (simp; omega)) | omega))⟩

set_option maxHeartbeats 2000000 in
theorem l5at_any (o : Option Addr) (c : Nat) (l : List Sl) (a p : Int) (w : World) (hR : RdS w.heap.size w o l) (hn : 0 < l.length) (hl : l.length ≤ 1048576) (hf : flowOkB a p = true) :
  Calls Tryz.prog 214 #[tab (.slice o l.length c), flow a p] w fun e w' => e = .returned (.tuple #[.int .i64 (endL l a p).1, .bool (endL l a p).2]) ∧ Below w.heap.size w w' := by
 rcases hR with hR | ⟨b, off, rfl, hbl, hcell⟩
 ·subst hR; simp at hn
 have hB : Below w.heap.size w w := Below.refl _ _
 have HC := hide hcell
 clear hcell
 go_enter Tryz.func214, Tryz.ntmps214
 go_wp2_with fail; go_at_call 321; refine (l5home_any l.length a p _ hn hl hf).mono ?_; rintro e w1a ⟨rfl, hba⟩; obtain ⟨hca, hfa⟩ := bcell hba; have hz0a : w.heap.size < w1a.heap.size := (by have hz := hba.size; (try simp at hz); omega); have hz1a : w.heap.size + 1 < w1a.heap.size := (by have hz := hba.size; (try simp at hz); omega); have hB : Below w.heap.size w w1a := (by refine Below.trans ?_ (hba.mono (by have hs := hB.size; (try simp) <;> omega)); (repeat (first | with_reducible exact hB | with_reducible exact Below.refl _ _ | with_reducible refine Below.drew ?_ | with_reducible refine below_drewN ?_ _ | with_reducible refine Below.alloc ?_ ?_ _ | with_reducible refine Below.setCell ?_ ?_ _ | (focus (simp; done)) | (focus (simp; omega)) | omega)))
 have hc0 : w1a.cell? ⟨w.heap.size, 0, none⟩ = some (.slice (some ⟨b, off, none⟩) l.length c) := by rw [hca _ _ (by (try simp) <;> omega)]; simp [go_sem]
 have hc1 : w1a.cell? ⟨w.heap.size + 1, 0, none⟩ = some (.int .i64 a) := by rw [hca _ _ (by (try simp) <;> omega)]; simp [go_sem]
 have hc2 : w1a.cell? ⟨w.heap.size + 1, 1, none⟩ = some (.int .i64 p) := by rw [hca _ _ (by (try simp) <;> omega)]; simp [go_sem]
 have HB := hide hB
 clear hB hca hfa hba
 have hh := homeN_lt hn a p
 have HE := hide (show wayGo l a p l.length (homeN l.length a p) = endL l a p from rfl)
 generalize homeN l.length a p = h at *
 go_wp2
 go_loopw [7, 8] (fun i k wr => ∃ (i' k' : Nat), k' ≤ l.length ∧ i' < l.length ∧ i = .int .i64 i' ∧ k = .int .i64 k' ∧ Hid (wayGo l a p (l.length - k') i' = endL l a p) ∧ Hid (Below w1a.heap.size w1a wr))
  (fun _ k _ => l.length - (intOf k).toNat)
 case atStart => exact ⟨h, 0, Nat.zero_le _, hh, rfl, rfl, HE, Below.refl _ _⟩
 case round =>
  obtain ⟨i, k, hk, hi, rfl, rfl, hE, HBr⟩ := hrel
  have d0 : wr.cell? ⟨w.heap.size, 0, none⟩ = some (.slice (some ⟨b, off, none⟩) l.length c) := (HBr.out.cell (p := ⟨w.heap.size, 0, none⟩) hz0a).trans hc0
  have d1 : wr.cell? ⟨w.heap.size + 1, 0, none⟩ = some (.int .i64 a) := (HBr.out.cell (p := ⟨w.heap.size + 1, 0, none⟩) hz1a).trans hc1
  have d2 : wr.cell? ⟨w.heap.size + 1, 1, none⟩ = some (.int .i64 p) := (HBr.out.cell (p := ⟨w.heap.size + 1, 1, none⟩) hz1a).trans hc2
  have HB2 := hide (HB.out.trans (HBr.out.mono HB.out.size))
  by_cases hlt : k < l.length
  ·obtain ⟨s, hxy⟩ : ∃ s, l.getD i sl0 = s := ⟨_, rfl⟩
   have hcx := RdL.slot (C := w.heap.size) HC.out i hi
   rw [hxy] at hcx
   have e0 : wr.cell? ⟨b, off + i * 5, none⟩ = some (.bool s.u) := (HB2.out.cell (p := ⟨b, off + i * 5, none⟩) hbl).trans hcx.1
   have e1 : wr.cell? ⟨b, off + i * 5 + 1, none⟩ = some (.int .i64 s.a) := (HB2.out.cell (p := ⟨b, off + i * 5 + 1, none⟩) hbl).trans hcx.2.1
   have e2 : wr.cell? ⟨b, off + i * 5 + 2, none⟩ = some (.int .i64 s.p) := (HB2.out.cell (p := ⟨b, off + i * 5 + 2, none⟩) hbl).trans hcx.2.2.1
   have hi' : (i : Int) < (l.length : Int) := by omega
   have hk' : (k : Int) < (l.length : Int) := by omega
   have hne' : ((l.length : Int) == 0) = false := beq_eq_false_iff_ne.2 (by omega)
   have hm := next_tmod l.length i
   have ek : l.length - k = (l.length - (k + 1)) + 1 := by omega
   rw [ek] at hE
   obtain ⟨su, sa, sp, sv, st⟩ := s
   simp only at e0 e1 e2
   clear hcx hc0 hc1 hc2 HC
   cases su with
   | false =>
    have HF := hide (hE.out.symm.trans (wayGo_free (by rw [hxy])))
    clear hE hxy ek
    go_wp2
    go_ret2
    exact ⟨by rw [HF.out]; rfl, HB2.out⟩
   | true =>
    by_cases hq : sa = a ∧ sp = p
    ·have HF := hide (hE.out.symm.trans (wayGo_own (by rw [hxy]) (by rw [hxy]; exact hq.1) (by rw [hxy]; exact hq.2)))
     obtain ⟨rfl, rfl⟩ := hq
     clear hE hxy ek
     go_wp2
     go_region
     go_wp2
     go_ret2
     exact ⟨by rw [HF.out]; rfl, Below.drew HB2.out⟩
    ·have HF := hide (hE.out.symm.trans (wayGo_next (by rw [hxy]) (by rw [hxy]; exact hq))).symm
     clear hE hxy ek
     have hx : (k + 1 ≤ l.length) := by omega
     by_cases hq1 : sa = a
     ·subst hq1
      have hq2 : ¬ sp = p := fun e => hq ⟨rfl, e⟩
      have hq3 : (sp == p) = false := beq_eq_false_iff_ne.2 hq2
      clear hq
      go_wp2
      go_region
      go_wp2
      go_roundw
      case rel => exact ⟨(i + 1) % l.length, k + 1, hx, next_lt hn i, by go_num, by go_num, HF, Below.drew HBr.out⟩
      case measure => simp [intOf]; omega
     ·have hq3 : (sa == a) = false := beq_eq_false_iff_ne.2 hq1
      clear hq
      go_wp2
      go_region
      go_wp2
      go_roundw
      case rel => exact ⟨(i + 1) % l.length, k + 1, hx, next_lt hn i, by go_num, by go_num, HF, Below.drew HBr.out⟩
      case measure => simp [intOf]; omega
  ·have e : k = l.length := by omega
   subst e
   have HF := hide (show endL l a p = (-1, false) from hE.out.symm.trans (by rw [Nat.sub_self]; rfl))
   clear hE
   go_wp2
   go_ret2
   exact ⟨by rw [HF.out]; rfl, HB2.out⟩

end Go.Proofs.YtmmhgkkcpjhiiaaGreat

namespace Go.Proofs.YtmmhgkkcpjhiiaaGreat
open Go.ChangeShapes Go.WideShapes Go.ChangeAt Go.RowKit Go.Joins
set_option linter.unusedVariables false
set_option linter.unusedSimpArgs false

set_option maxHeartbeats 4000000 in
theorem specTableOk_any (o : Option Addr) (c : Nat) (l : List Sl) (w : World) (hR : RdS w.heap.size w o l) (hl : l.length ≤ 1048576) :
  Calls Tryz.prog 94 #[tab (.slice o l.length c)] w fun e w' => e = .returned (.bool (tableOkB l)) ∧ Below w.heap.size w w' := by
 have hB : Below w.heap.size w w := Below.refl _ _
 by_cases hlen : 1 ≤ l.length ∧ l.length ≤ 16
 ·obtain ⟨hn, h16⟩ := hlen
  rcases hR with hR | ⟨b, off, rfl, hbl, hcell⟩
  ·subst hR; simp at hn
  have HC := hide hcell
  have i1 : ¬ ((l.length : Int) < 1) := by omega
  have i2 : ¬ (16 < (l.length : Int)) := by omega
  have h0 : Hid (Below w.heap.size w (w.alloc (.cells #[.slice (some ⟨b, off, none⟩) l.length c] 32))) := hB.alloc (Nat.le_refl _) _
  have hb0 : Hid ((w.alloc (.cells #[.slice (some ⟨b, off, none⟩) l.length c] 32)).cell? ⟨w.heap.size, 0, none⟩ = some (.slice (some ⟨b, off, none⟩) l.length c)) := by simp [hide, go_sem, Hid]
  have hz0 : w.heap.size < (w.alloc (.cells #[.slice (some ⟨b, off, none⟩) l.length c] 32)).heap.size := by simp
  clear hcell hB
  go_enter Tryz.func94, Tryz.ntmps94
  go_wp2
  generalize w.alloc (.cells #[.slice (some ⟨b, off, none⟩) l.length c] 32) = w0 at *
  go_loopw [3] (fun i wr => ∃ k : Nat, k ≤ l.length ∧ i = .int .i64 k ∧ Hid (tabTo l k) ∧ Hid (Below w0.heap.size w0 wr))
   (fun i _ => l.length - (intOf i).toNat)
  case atStart => exact ⟨0, Nat.zero_le _, rfl, fun i hi => absurd hi (Nat.not_lt_zero _), Below.refl _ _⟩
  case round =>
   obtain ⟨k, hk, rfl, hT, HBr⟩ := hrel
   have d0 : wr.cell? ⟨w.heap.size, 0, none⟩ = some (.slice (some ⟨b, off, none⟩) l.length c) := (HBr.out.cell (p := ⟨w.heap.size, 0, none⟩) hz0).trans hb0.out
   have HB2 := hide (h0.out.trans (HBr.out.mono h0.out.size))
   have hs1 : w0.heap.size ≤ wr.heap.size := HBr.out.size
   by_cases hlt : k < l.length
   ·obtain ⟨s, hxy⟩ : ∃ s, l.getD k sl0 = s := ⟨_, rfl⟩
    have hcx := RdL.slot (C := w.heap.size) HC.out k hlt
    rw [hxy] at hcx
    have e0 : wr.cell? ⟨b, off + k * 5, none⟩ = some (.bool s.u) := (HB2.out.cell (p := ⟨b, off + k * 5, none⟩) hbl).trans hcx.1
    have e1 : wr.cell? ⟨b, off + k * 5 + 1, none⟩ = some (.int .i64 s.a) := (HB2.out.cell (p := ⟨b, off + k * 5 + 1, none⟩) hbl).trans hcx.2.1
    have e2 : wr.cell? ⟨b, off + k * 5 + 2, none⟩ = some (.int .i64 s.p) := (HB2.out.cell (p := ⟨b, off + k * 5 + 2, none⟩) hbl).trans hcx.2.2.1
    have e3 : wr.cell? ⟨b, off + k * 5 + 3, none⟩ = some (.int .i64 s.v) := (HB2.out.cell (p := ⟨b, off + k * 5 + 3, none⟩) hbl).trans hcx.2.2.2.1
    have e4 : wr.cell? ⟨b, off + k * 5 + 4, none⟩ = some (.int .i64 s.t) := (HB2.out.cell (p := ⟨b, off + k * 5 + 4, none⟩) hbl).trans hcx.2.2.2.2
    have hk' : (k : Int) < (l.length : Int) := by omega
    have HX := hide hxy
    clear hcx hxy
    obtain ⟨su, sa, sp, sv, st⟩ := s
    simp only at e0 e1 e2 e3 e4
    cases su with
    | false =>
     by_cases hz : sa = 0 ∧ sp = 0 ∧ sv = 0 ∧ st = 0
     ·obtain ⟨rfl, rfl, rfl, rfl⟩ := hz
      have HT := hide (tabTo_succ hT.out (tabAt_free (by rw [HX.out]) ((slotB_free (by rw [HX.out])).2 HX.out)))
      clear hT
      go_wp2
      go_roundw
      case rel => exact ⟨k + 1, hlt, by go_num, HT, show Below _ _ _ by have hB := HBr.out; (repeat (first | with_reducible exact hB | with_reducible exact Below.refl _ _ | with_reducible refine Below.drew ?_ | with_reducible refine below_drewN ?_ _ | with_reducible refine Below.alloc ?_ ?_ _ | with_reducible refine Below.setCell ?_ ?_ _ | (focus (simp; done)) | (focus (simp; omega)) | omega))⟩
      case measure => simp [intOf]; omega
     ·have HN := hide (tableOkB_no hlt (tabAt_slot (by rw [HX.out]; simp [slotB]; intro h1 h2 h3 h4; exact hz ⟨h1, h2, h3, h4⟩)))
      clear hT
      go_wp2
      all_goals go_ret
      all_goals exact ⟨ret_bool HN.out, by have hB := HB2.out; (repeat (first | with_reducible exact hB | with_reducible exact Below.refl _ _ | with_reducible refine Below.drew ?_ | with_reducible refine below_drewN ?_ _ | with_reducible refine Below.alloc ?_ ?_ _ | with_reducible refine Below.setCell ?_ ?_ _ | (focus (simp; done)) | (focus (simp; omega)) | omega))⟩
    | true =>
     obtain ⟨W1, hW1⟩ : ∃ W, wr.alloc (.cells #[.bool true, .int .i64 sa, .int .i64 sp, .int .i64 sv, .int .i64 st] 160) = W := ⟨_, rfl⟩
     have hbW : Hid (Below wr.heap.size wr W1) := by rw [← hW1]; exact (Below.refl _ _).alloc (Nat.le_refl _) _
     have hzW : wr.heap.size < W1.heap.size := by rw [← hW1]; simp
     have c0 : W1.cell? ⟨wr.heap.size, 0, none⟩ = some (.bool true) := by rw [← hW1]; simp [go_sem]
     have c1 : W1.cell? ⟨wr.heap.size, 1, none⟩ = some (.int .i64 sa) := by rw [← hW1]; simp [go_sem]
     have c2 : W1.cell? ⟨wr.heap.size, 2, none⟩ = some (.int .i64 sp) := by rw [← hW1]; simp [go_sem]
     have c3 : W1.cell? ⟨wr.heap.size, 3, none⟩ = some (.int .i64 sv) := by rw [← hW1]; simp [go_sem]
     have c4 : W1.cell? ⟨wr.heap.size, 4, none⟩ = some (.int .i64 st) := by rw [← hW1]; simp [go_sem]
     have c5 : W1.cell? ⟨w.heap.size, 0, none⟩ = some (.slice (some ⟨b, off, none⟩) l.length c) := (hbW.out.cell (p := ⟨w.heap.size, 0, none⟩) (show w.heap.size < wr.heap.size by omega)).trans d0
     have hz3 : w.heap.size < W1.heap.size := by omega
     have HBW := hide (HB2.out.trans (hbW.out.mono HB2.out.size))
     have HW := hide (HBr.out.trans (hbW.out.mono HBr.out.size))
     have hfl := specFlowOk_any sa sp W1
     cases hfo : flowOkB sa sp with
     | false =>
      have HN := hide (tableOkB_no hlt (tabAt_slot (by rw [HX.out]; simp [slotB, hfo])))
      rw [hfo] at hfl
      clear hT hfo
      go_wp2_with (go_at_call 97; refine hfl.mono ?_; rintro e w2 ⟨rfl, hb2⟩; have HB3 := hide (HBW.out.trans (hb2.mono HBW.out.size)); have m0 := (hb2.cell (p := ⟨wr.heap.size, 0, none⟩) hzW).trans c0; have m2 := (hb2.cell (p := ⟨wr.heap.size, 3, none⟩) hzW).trans c3; have m3 := (hb2.cell (p := ⟨wr.heap.size, 4, none⟩) hzW).trans c4; clear hb2)
      all_goals go_ret
      all_goals exact ⟨ret_bool HN.out, HB3.out⟩
     | true =>
      rw [hfo] at hfl
      by_cases hv : 0 ≤ sv ∧ sv ≤ 100000 ∧ 0 ≤ st ∧ st ≤ 200000
      ·obtain ⟨v1, v2, v3, v4⟩ := hv
       have g1 : ¬ sv < 0 := by omega
       have g2 : ¬ 100000 < sv := by omega
       have g3 : ¬ st < 0 := by omega
       have g4 : ¬ 200000 < st := by omega
       have HS := hide ((slotB_used (s := l.getD k sl0) (by rw [HX.out])).2 (by rw [HX.out]; exact ⟨hfo, v1, v2, v3, v4⟩))
       have HF := hide hfo
       clear hfo v1 v2 v3 v4
       have hat := fun W hr => l5at_any (some ⟨b, off, none⟩) c l sa sp W hr (by omega) hl HF.out
       by_cases hE : endL l sa sp = ((k : Int), true)
       ·have HT := hide (tabTo_succ hT.out (tabAt_used HS.out (by rw [HX.out]; exact hE)))
        rw [hE] at hat
        clear hT hE
        go_wp2_with (first | (go_at_call 97; refine hfl.mono ?_; rintro e w2 ⟨rfl, hb2⟩; have HB3 := hide (HBW.out.trans (hb2.mono HBW.out.size)); have HB4 := hide (HW.out.trans (hb2.mono HW.out.size)); have m0 := (hb2.cell (p := ⟨wr.heap.size, 0, none⟩) hzW).trans c0; have m1 := (hb2.cell (p := ⟨wr.heap.size, 1, none⟩) hzW).trans c1; have m4 := (hb2.cell (p := ⟨wr.heap.size, 2, none⟩) hzW).trans c2; have m2 := (hb2.cell (p := ⟨wr.heap.size, 3, none⟩) hzW).trans c3; have m3 := (hb2.cell (p := ⟨wr.heap.size, 4, none⟩) hzW).trans c4; have m5 := (hb2.cell (p := ⟨w.heap.size, 0, none⟩) hz3).trans c5; have hz2 := hb2.size; clear hb2) | (go_at_call 214; refine (hat _ (.inr ⟨b, off, rfl, by omega, fun i hi j hj => (HB3.out.cell (p := ⟨b, off + i * layS.k + j, none⟩) hbl).trans (HC.out i hi j hj)⟩)).mono ?_; rintro e w3 ⟨rfl, hb3⟩; have HB5 := hide (HB4.out.trans (hb3.mono HB4.out.size)); clear hb3))
        go_roundw
        case rel => exact ⟨k + 1, hlt, by go_num, HT, HB5⟩
        case measure => simp [intOf]; omega
       ·have HN := hide (tableOkB_no hlt (tabAt_way (by rw [HX.out]) (by rw [HX.out]; exact hE)))
        generalize hEE : endL l sa sp = E at *
        obtain ⟨E1, E2⟩ := E
        have hE' : E2 = true → ¬ E1 = (k : Int) := fun h1 h2 => hE (by rw [h1, h2])
        clear hT hE hEE
        cases E2 with
        | false =>
         go_wp2_with (first | (go_at_call 97; refine hfl.mono ?_; rintro e w2 ⟨rfl, hb2⟩; have HB3 := hide (HBW.out.trans (hb2.mono HBW.out.size)); have HB4 := hide (HW.out.trans (hb2.mono HW.out.size)); have m0 := (hb2.cell (p := ⟨wr.heap.size, 0, none⟩) hzW).trans c0; have m1 := (hb2.cell (p := ⟨wr.heap.size, 1, none⟩) hzW).trans c1; have m4 := (hb2.cell (p := ⟨wr.heap.size, 2, none⟩) hzW).trans c2; have m2 := (hb2.cell (p := ⟨wr.heap.size, 3, none⟩) hzW).trans c3; have m3 := (hb2.cell (p := ⟨wr.heap.size, 4, none⟩) hzW).trans c4; have m5 := (hb2.cell (p := ⟨w.heap.size, 0, none⟩) hz3).trans c5; have hz2 := hb2.size; clear hb2) | (go_at_call 214; refine (hat _ (.inr ⟨b, off, rfl, by omega, fun i hi j hj => (HB3.out.cell (p := ⟨b, off + i * layS.k + j, none⟩) hbl).trans (HC.out i hi j hj)⟩)).mono ?_; rintro e w3 ⟨rfl, hb3⟩; have HB5 := hide (HB3.out.trans (hb3.mono HB3.out.size)); clear hb3))
         go_ret
         exact ⟨ret_bool HN.out, HB5.out⟩
        | true =>
         have hE3 := hE' rfl
         have hE4 : (E1 == (k : Int)) = false := beq_eq_false_iff_ne.2 hE3
         clear hE'
         go_wp2_with (first | (go_at_call 97; refine hfl.mono ?_; rintro e w2 ⟨rfl, hb2⟩; have HB3 := hide (HBW.out.trans (hb2.mono HBW.out.size)); have HB4 := hide (HW.out.trans (hb2.mono HW.out.size)); have m0 := (hb2.cell (p := ⟨wr.heap.size, 0, none⟩) hzW).trans c0; have m1 := (hb2.cell (p := ⟨wr.heap.size, 1, none⟩) hzW).trans c1; have m4 := (hb2.cell (p := ⟨wr.heap.size, 2, none⟩) hzW).trans c2; have m2 := (hb2.cell (p := ⟨wr.heap.size, 3, none⟩) hzW).trans c3; have m3 := (hb2.cell (p := ⟨wr.heap.size, 4, none⟩) hzW).trans c4; have m5 := (hb2.cell (p := ⟨w.heap.size, 0, none⟩) hz3).trans c5; have hz2 := hb2.size; clear hb2) | (go_at_call 214; refine (hat _ (.inr ⟨b, off, rfl, by omega, fun i hi j hj => (HB3.out.cell (p := ⟨b, off + i * layS.k + j, none⟩) hbl).trans (HC.out i hi j hj)⟩)).mono ?_; rintro e w3 ⟨rfl, hb3⟩; have HB5 := hide (HB3.out.trans (hb3.mono HB3.out.size)); clear hb3))
         go_ret
         exact ⟨ret_bool HN.out, HB5.out⟩
      ·have HN := hide (tableOkB_no hlt (tabAt_slot (by rw [HX.out]; simp [slotB, hfo]; intro h1 h2 h3; exact Int.not_le.1 fun h4 => hv ⟨h1, h2, h3, h4⟩)))
       have HV := hide hv
       clear hT hfo hv
       go_wp2_with (go_at_call 97; refine hfl.mono ?_; rintro e w2 ⟨rfl, hb2⟩; have HB3 := hide (HBW.out.trans (hb2.mono HBW.out.size)); have m0 := (hb2.cell (p := ⟨wr.heap.size, 0, none⟩) hzW).trans c0; have m1 := (hb2.cell (p := ⟨wr.heap.size, 1, none⟩) hzW).trans c1; have m4 := (hb2.cell (p := ⟨wr.heap.size, 2, none⟩) hzW).trans c2; have m2 := (hb2.cell (p := ⟨wr.heap.size, 3, none⟩) hzW).trans c3; have m3 := (hb2.cell (p := ⟨wr.heap.size, 4, none⟩) hzW).trans c4; clear hb2)
       all_goals first | (go_ret; exact ⟨ret_bool HN.out, HB3.out⟩) | (exfalso; apply HV.out; omega) | skip
   ·have e : k = l.length := by omega
    subst e
    have HY := hide (tableOkB_yes hn h16 hT.out)
    go_wp2
    go_ret
    exact ⟨ret_bool HY.out, HB2.out⟩
 ·have HN := hide (tableOkB_len hlen)
  by_cases h1 : (l.length : Int) < 1
  ·go_enter Tryz.func94, Tryz.ntmps94
   go_wp2
   go_ret
   exact ⟨ret_bool HN.out, by (repeat (first | with_reducible exact hB | with_reducible exact Below.refl _ _ | with_reducible refine Below.drew ?_ | with_reducible refine below_drewN ?_ _ | with_reducible refine Below.alloc ?_ ?_ _ | with_reducible refine Below.setCell ?_ ?_ _ | (focus (simp; done)) | (focus (simp; omega)) | omega))⟩
  ·have h2 : (16 : Int) < l.length := by omega
   go_enter Tryz.func94, Tryz.ntmps94
   go_wp2
   go_ret
   exact ⟨ret_bool HN.out, by (repeat (first | with_reducible exact hB | with_reducible exact Below.refl _ _ | with_reducible refine Below.drew ?_ | with_reducible refine below_drewN ?_ _ | with_reducible refine Below.alloc ?_ ?_ _ | with_reducible refine Below.setCell ?_ ?_ _ | (focus (simp; done)) | (focus (simp; omega)) | omega))⟩

end Go.Proofs.YtmmhgkkcpjhiiaaGreat

