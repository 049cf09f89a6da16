/- What is due first, on both sides; the program's dropDue. -/
import Derived.Test.YthcbhfgbplgfiaaSDrop
import Derived.Test.YthcbhfgbplgfiaaDueMath
namespace Go.Proofs.Ythcbhfgbplgfiaa
open Go.ChangeShapes Go.WideShapes Go.ChangeAt Go.RowKit Go.Joins
set_option linter.unusedVariables false
set_option linter.unusedSimpArgs false

/-- The place of the first that is due; -1: there is none. -/
def dueV (l : List Sl) (now : Int) : Int := match dueAt l now with
  | some i => (i : Int)
  | none => -1
set_option maxHeartbeats 2000000 in
theorem firstDue_any (b off c : Nat) (l : List Sl) (now : Int) (w : World) (hl : l.length ≤ 1048576) (hbl : b < w.heap.size) (hc : ∀ i, i < l.length → ∀ j, j < layS.k → w.cell? ⟨b, off + i * layS.k + j, none⟩ = (layS.cs (l.getD i layS.d))[j]?) :
    Calls Try.prog 122 #[tab (.slice (some ⟨b, off, none⟩) l.length c), .int .i64 now] w fun e w' => e = .returned (.int .i64 (dueV l now)) ∧ Below w.heap.size w w' := by
  have HC := hide hc
  clear hc
  obtain ⟨W0, hW0⟩ : ∃ W, (w.alloc (.cells #[.slice (some ⟨b, off, none⟩) l.length c] 78)) = W := ⟨_, rfl⟩
  have hb_W0 : Below w.heap.size w W0 := by rw [← hW0]; exact ((Below.refl _ _).alloc (Nat.le_refl _) _)
  have HB := hide hb_W0
  clear hb_W0
  have zct : w.heap.size < W0.heap.size := by rw [← hW0]; simp
  have ct0 : W0.cell? ⟨w.heap.size, 0, none⟩ = some (.slice (some ⟨b, off, none⟩) l.length c) := by rw [← hW0]; simp [go_sem]
  go_enter Try.func122, Try.ntmps122
  go_wp2
  go_loopw [10] (fun i wr => ∃ k : Nat, k ≤ l.length ∧ i = .int .i64 k ∧ Hid (dueTo l now k) ∧ Hid (Below W0.heap.size W0 wr))
    (fun i _ => l.length - (intOf i).toNat)
  case atStart => exact ⟨0, Nat.zero_le _, rfl, fun j hj => absurd hj (Nat.not_lt_zero _), Below.refl _ _⟩
  case round =>
    obtain ⟨k, hk, rfl, hT, HBr⟩ := hrel
    have HB2 := hide (HB.out.trans (HBr.out.mono HB.out.size))
    by_cases hlt : k < l.length
    · have hcx := RdL.slot (C := w.heap.size) HC.out k hlt
      obtain ⟨s, hxy⟩ : ∃ s, l.getD k sl0 = s := ⟨_, rfl⟩
      rw [hxy] at hcx
      have e0 := (HB2.out.cell (p := ⟨b, off + k * 5, none⟩) hbl).trans hcx.1
      have e1 := (HB2.out.cell (p := ⟨b, off + k * 5 + 1, none⟩) hbl).trans hcx.2.1
      have e2 := (HB2.out.cell (p := ⟨b, off + k * 5 + 2, none⟩) hbl).trans hcx.2.2.1
      have e3 := (HB2.out.cell (p := ⟨b, off + k * 5 + 3, none⟩) hbl).trans hcx.2.2.2.1
      have e4 := (HB2.out.cell (p := ⟨b, off + k * 5 + 4, none⟩) hbl).trans hcx.2.2.2.2
      have hk' : (k : Int) < (l.length : Int) := by omega
      have HX := hide (show at' l k = s from hxy)
      clear hcx hxy
      obtain ⟨su, sa, sp, sv, st⟩ := s
      simp only at e0 e1 e2 e3 e4
      cases su with
      | false =>
        have HT := hide (dueTo_succ hT.out (show dueB (at' l k) now = false by rw [HX.out]; rfl))
        go_wp2
        go_roundw
        case rel => exact ⟨k + 1, hlt, by go_num, HT, HBr.out.alloc HBr.out.size _⟩
        case measure => simp [intOf]; omega
      | true =>
        by_cases hd : st ≤ now
        · have HD := hide (dueAt_some hlt hT.out (show dueB (at' l k) now = true by rw [HX.out]; simp [dueB, hd]))
          go_wp2
          go_ret
          exact ⟨ret_int (by unfold dueV; rw [HD.out]), HB2.out.alloc HB2.out.size _⟩
        · have HT := hide (dueTo_succ hT.out (show dueB (at' l k) now = false by rw [HX.out]; simp [dueB]; omega))
          go_wp2
          go_roundw
          case rel => exact ⟨k + 1, hlt, by go_num, HT, HBr.out.alloc HBr.out.size _⟩
          case measure => simp [intOf]; omega
    · have e : k = l.length := by omega
      subst e
      have HD := hide (dueAt_none hT.out)
      go_wp2
      go_ret
      exact ⟨ret_int (by unfold dueV; rw [HD.out]), HB2.out⟩

set_option maxHeartbeats 2000000 in
theorem l5due_any (b off c : Nat) (l : List Sl) (now : Int) (w : World) (hl : l.length ≤ 1048576) (hbl : b < w.heap.size) (hc : ∀ i, i < l.length → ∀ j, j < layS.k → w.cell? ⟨b, off + i * layS.k + j, none⟩ = (layS.cs (l.getD i layS.d))[j]?) :
    Calls Try.prog 126 #[tab (.slice (some ⟨b, off, none⟩) l.length c), .int .i64 now] w fun e w' => ∃ fa fp fb, e = .returned (.tuple #[flow fa fp, .bool fb]) ∧ ((dueAt l now = none ∧ fb = false) ∨ ∃ i, dueAt l now = some i ∧ fb = true ∧ fa = (at' l i).a ∧ fp = (at' l i).p) ∧ Below w.heap.size w w' := by
  have HC := hide hc
  clear hc
  obtain ⟨W0, hW0⟩ : ∃ W, ((w.alloc (.cells #[.slice (some ⟨b, off, none⟩) l.length c] 25)).alloc (.cells #[.int .i64 0, .int .i64 0] 29)) = W := ⟨_, rfl⟩
  have hb_W0 : Below w.heap.size w W0 := by rw [← hW0]; exact (((Below.refl _ _).alloc (Nat.le_refl _) _).alloc (by simp <;> omega) _)
  have HB := hide hb_W0
  clear hb_W0
  have zct : w.heap.size < W0.heap.size := by rw [← hW0]; simp <;> omega
  have ct0 : W0.cell? ⟨w.heap.size, 0, none⟩ = some (.slice (some ⟨b, off, none⟩) l.length c) := by rw [← hW0]; simp [go_sem]
  have zcr : w.heap.size + 1 < W0.heap.size := by rw [← hW0]; simp
  have cr0 : W0.cell? ⟨w.heap.size + 1, 0, none⟩ = some (.int .i64 0) := by rw [← hW0]; simp [go_sem]
  have cr1 : W0.cell? ⟨w.heap.size + 1, 1, none⟩ = some (.int .i64 0) := by rw [← hW0]; simp [go_sem]
  have fcr0 : W0.frozen? ⟨w.heap.size + 1, 0, none⟩ = false := by rw [← hW0]; simp [go_sem]
  have fcr1 : W0.frozen? ⟨w.heap.size + 1, 1, none⟩ = false := by rw [← hW0]; simp [go_sem]
  go_enter Try.func126, Try.ntmps126
  go_wp2
  go_loopw [6] (fun i wr => ∃ k : Nat, k ≤ l.length ∧ i = .int .i64 k ∧ Hid (dueTo l now k) ∧ Hid (Below W0.heap.size W0 wr))
    (fun i _ => l.length - (intOf i).toNat)
  case atStart => exact ⟨0, Nat.zero_le _, rfl, fun j hj => absurd hj (Nat.not_lt_zero _), Below.refl _ _⟩
  case round =>
    obtain ⟨k, hk, rfl, hT, HBr⟩ := hrel
    have HB2 := hide (HB.out.trans (HBr.out.mono HB.out.size))
    have ct0r : wr.cell? ⟨w.heap.size, 0, none⟩ = some (.slice (some ⟨b, off, none⟩) l.length c) := (HBr.out.cell (p := ⟨w.heap.size, 0, none⟩) zct).trans ct0
    have cr0r : wr.cell? ⟨w.heap.size + 1, 0, none⟩ = some (.int .i64 0) := (HBr.out.cell (p := ⟨w.heap.size + 1, 0, none⟩) zcr).trans cr0
    have cr1r : wr.cell? ⟨w.heap.size + 1, 1, none⟩ = some (.int .i64 0) := (HBr.out.cell (p := ⟨w.heap.size + 1, 1, none⟩) zcr).trans cr1
    have fcr0r : wr.frozen? ⟨w.heap.size + 1, 0, none⟩ = false := (HBr.out.frozen (p := ⟨w.heap.size + 1, 0, none⟩) zcr).trans fcr0
    have fcr1r : wr.frozen? ⟨w.heap.size + 1, 1, none⟩ = false := (HBr.out.frozen (p := ⟨w.heap.size + 1, 1, none⟩) zcr).trans fcr1
    by_cases hlt : k < l.length
    · have hcx := RdL.slot (C := w.heap.size) HC.out k hlt
      obtain ⟨s, hxy⟩ : ∃ s, l.getD k sl0 = s := ⟨_, rfl⟩
      rw [hxy] at hcx
      have e0 := (HB2.out.cell (p := ⟨b, off + k * 5, none⟩) hbl).trans hcx.1
      have e1 := (HB2.out.cell (p := ⟨b, off + k * 5 + 1, none⟩) hbl).trans hcx.2.1
      have e2 := (HB2.out.cell (p := ⟨b, off + k * 5 + 2, none⟩) hbl).trans hcx.2.2.1
      have e3 := (HB2.out.cell (p := ⟨b, off + k * 5 + 3, none⟩) hbl).trans hcx.2.2.2.1
      have e4 := (HB2.out.cell (p := ⟨b, off + k * 5 + 4, none⟩) hbl).trans hcx.2.2.2.2
      have hk' : (k : Int) < (l.length : Int) := by omega
      have HX := hide (show at' l k = s from hxy)
      clear hcx hxy
      obtain ⟨su, sa, sp, sv, st⟩ := s
      simp only at e0 e1 e2 e3 e4
      cases su with
      | false =>
        have HT := hide (dueTo_succ hT.out (show dueB (at' l k) now = false by rw [HX.out]; rfl))
        go_wp2
        go_roundw
        case rel => exact ⟨k + 1, hlt, by go_num, HT, HBr⟩
        case measure => simp [intOf]; omega
      | true =>
        by_cases hd : st ≤ now
        · have HD := hide (dueAt_some hlt hT.out (show dueB (at' l k) now = true by rw [HX.out]; simp [dueB, hd]))
          go_wp2
          refine bodyPost_ret (v := .tuple #[flow sa sp, .bool true]) (by simp [results, Try.results126, go_sem, cr0r, cr1r]) rfl ⟨sa, sp, true, rfl, .inr ⟨k, HD.out, rfl, by rw [HX.out], by rw [HX.out]⟩, ?_⟩
          exact ((HB2.out.setCell (p := ⟨w.heap.size + 1, 0, none⟩) (by simp) _).setCell (p := ⟨w.heap.size + 1, 1, none⟩) (by simp) _)
        · have HT := hide (dueTo_succ hT.out (show dueB (at' l k) now = false by rw [HX.out]; simp [dueB]; omega))
          have hd' : decide (st ≤ now) = false := decide_eq_false hd
          go_wp2
          go_roundw
          case rel => exact ⟨k + 1, hlt, by go_num, HT, HBr⟩
          case measure => simp [intOf]; omega
    · have e : k = l.length := by omega
      subst e
      have HD := hide (dueAt_none hT.out)
      go_wp2
      refine bodyPost_ret (v := .tuple #[flow 0 0, .bool false]) (by simp [results, Try.results126, go_sem, cr0r, cr1r]) rfl ⟨0, 0, false, rfl, .inl ⟨HD.out, rfl⟩, ?_⟩
      exact ((HB2.out.setCell (p := ⟨w.heap.size + 1, 0, none⟩) (by simp) _).setCell (p := ⟨w.heap.size + 1, 1, none⟩) (by simp) _)

set_option maxHeartbeats 4000000 in
theorem dropDue_any (g c base n : Nat) (l : List Sl) (now : Int) (w : World) (hn : l.length = n) (hok : tableOkB l = true) (ho : w.ownsRow base CellT 5 (.slice (some ⟨g, 0, none⟩) n c) n (l.flatMap layS.cs)) :
    Calls Try.prog 93 #[tab (.slice (some ⟨g, 0, none⟩) n c), .int .i64 now] w fun e w' => e = .returned (.int .i64 ((expL l now).2 : Nat)) ∧ w'.ownsRow base CellT 5 (.slice (some ⟨g, 0, none⟩) n c) n ((expL l now).1.flatMap layS.cs) ∧ Stp g (g + 1) w w' := by
  have hgw := (ho.lt g rfl).2
  have HO := hide ho
  have h16 : n ≤ 16 := by have := (tableOkB_iff.1 hok).2.1; omega
  have HInv0 := hide (ExpInv.start (now := now) hok)
  rw [hn] at HInv0
  clear ho
  obtain ⟨W0, hW0⟩ : ∃ W, (w.alloc (.cells #[.slice (some ⟨g, 0, none⟩) n c] 78)) = W := ⟨_, rfl⟩
  have hb_W0 : Below w.heap.size w W0 := by rw [← hW0]; exact ((Below.refl _ _).alloc (Nat.le_refl _) _)
  replace HO := hide (own_kept HO.out hb_W0)
  have HB := hide hb_W0
  clear hb_W0
  have zct : w.heap.size < W0.heap.size := by rw [← hW0]; simp
  have ct0 : W0.cell? ⟨w.heap.size, 0, none⟩ = some (.slice (some ⟨g, 0, none⟩) n c) := by rw [← hW0]; simp [go_sem]
  have hfd := firstDue_any g 0 c l now W0 (by omega) (HO.out.lt g rfl).2 (rd_of_own HO.out hn.symm)
  rw [hn] at hfd
  go_enter Try.func93, Try.ntmps93
  go_wp2_with fail
  refine (hfd).mono ?_
  rintro e v1 ⟨rfl, hb⟩
  replace ct0 : v1.cell? ⟨w.heap.size, 0, none⟩ = some (.slice (some ⟨g, 0, none⟩) n c) := (hb.cell (p := ⟨w.heap.size, 0, none⟩) zct).trans ct0
  replace zct : w.heap.size < v1.heap.size := Nat.lt_of_lt_of_le zct hb.size
  replace HO := hide (own_kept HO.out hb)
  replace HB := hide (HB.out.trans (hb.mono HB.out.size))
  clear hb
  have HSt := hide (Stp.of (lo := g) (hi := g + 1) HB.out)
  clear hfd
  go_wp2
  go_loopg [5, 6] (cnt l) (fun gk dv av wr => ∃ (m : List Sl) (d : Nat), dv = .int .i64 d ∧ av = .int .i64 (dueV m now) ∧ Hid (ExpInv n now (expL l now) gk m d) ∧ Hid (wr.ownsRow base CellT 5 (.slice (some ⟨g, 0, none⟩) n c) n (m.flatMap layS.cs)) ∧ Hid (wr.cell? ⟨w.heap.size, 0, none⟩ = some (.slice (some ⟨g, 0, none⟩) n c)) ∧ w.heap.size < wr.heap.size ∧ Hid (Stp g (g + 1) w wr))
  case atStart => exact ⟨l, 0, rfl, rfl, HInv0, HO, ct0, zct, HSt⟩
  case round =>
    clear HInv0 HO ct0 zct HSt HB
    obtain ⟨m, d, rfl, rfl, HI, HO, HC, zct, HSt⟩ := hrel
    have ct0 := HC.out
    have hml := hide HI.out.len
    cases hd : dueAt m now with
    | none =>
      have HV := (show dueV m now = -1 by unfold dueV; rw [hd])
      have HD := hide (HI.out.done hd)
      rw [HV]
      clear hd HV
      go_wp2
      go_ret
      exact ⟨by rw [HD.out]; rfl, by rw [HD.out]; exact HO.out, HSt.out⟩
    | some i =>
      have HV := (show dueV m now = (i : Int) by unfold dueV; rw [hd])
      obtain ⟨hg, hin, hu, hc16, hN⟩ := HI.out.step hd
      have HN := hide hN
      have HF := hide (flowsOk_of HI.out.ok)
      rw [HV]
      clear hd HV hN hu
      go_wp2_with fail
      refine (dropAt_any g c base n i m wr hml.out h16 hin HF.out HO.out).mono ?_
      rintro e W2 ⟨⟨v, rfl⟩, ho2, hst⟩
      have HO2 := hide ho2
      have HSt2 := hide (HSt.out.trans hst)
      have ct2 : W2.cell? ⟨w.heap.size, 0, none⟩ = some (.slice (some ⟨g, 0, none⟩) n c) := hst.cell ct0 zct (.inr (by omega))
      have zct2 : w.heap.size < W2.heap.size := Nat.lt_of_lt_of_le zct hst.size
      have hfd := firstDue_any g 0 c (dropAtL m i) now W2 (by rw [dropAtL_length, hml.out]; omega) (ho2.lt g rfl).2 (rd_of_own ho2 (by rw [dropAtL_length, hml.out]))
      rw [dropAtL_length, hml.out] at hfd
      clear ho2 hst ct0
      go_wp2_with fail
      refine hfd.mono ?_
      rintro e W3 ⟨rfl, hb3⟩
      have HO3 : Hid (W3.ownsRow base CellT 5 (.slice (some ⟨g, 0, none⟩) n c) n ((dropAtL m i).flatMap layS.cs)) := own_kept HO2.out hb3
      have HC3 : Hid (W3.cell? ⟨w.heap.size, 0, none⟩ = some (.slice (some ⟨g, 0, none⟩) n c)) := (hb3.cell (p := ⟨w.heap.size, 0, none⟩) zct2).trans ct2
      have zct3 : w.heap.size < W3.heap.size := Nat.lt_of_lt_of_le zct2 hb3.size
      have HSt3 := hide (HSt2.out.trans (Stp.of hb3))
      clear hb3 hfd ct2
      go_wp2
      go_roundg (gk - 1)
      case measure => omega
      case rel => exact ⟨dropAtL m i, d + 1, by simp, rfl, HN, HO3, HC3, zct3, HSt3⟩

end Go.Proofs.Ythcbhfgbplgfiaa
