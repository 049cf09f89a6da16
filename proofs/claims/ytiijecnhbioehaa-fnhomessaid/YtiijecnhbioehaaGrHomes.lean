/- For all bytes the law FnHomes answers true, and the bytes read as they did: all that a drawn table has is listed once, in order; each belongs to a slot. No conditions. -/
import Derived.Test.YtiijecnhbioehaaGrTabsT
import Derived.Test.YtiijecnhbioehaaSFlow
import Derived.Test.YtiijecnhbioehaaSRank
namespace Go.Proofs.Ytiijecnhbioehaa
open Go.ChangeShapes Go.WideShapes Go.ChangeAt Go.RowKit Go.Joins
set_option linter.unusedVariables false
set_option linter.unusedSimpArgs false

theorem home_lt {m : List Sl} {a p : Int} (h : tableOkB m = true) : homeM m a p < (m.length : Int) ∧ ((homeM m a p == -1) == !flowOkB a p) = true := by
  have hn := (tableOkB_iff.1 h).1
  unfold homeM
  rw [h]
  cases hf : flowOkB a p with
  | false => exact ⟨by simp; omega, by simp⟩
  | true =>
    have := homeN_lt (n := m.length) (by omega) a p
    refine ⟨by simp; omega, ?_⟩
    simp
set_option maxHeartbeats 8000000 in
theorem lawHomes (o : Option Addr) (cap : Nat) (l : List Int) (w : World) (hm : l.length ≤ maxLen) (hR : Rd w o l) (hB8 : isB l) :
    Calls Try.prog 6 #[.slice o l.length cap] w fun e w' => e = .returned (.bool true) ∧ Below w.heap.size w w' := by
  have hD := drawHome_any o cap l w hR hB8 hm
  go_enter Try.func6, Try.ntmps6
  go_wp2_with fail
  refine hD.mono ?_
  rintro e v0 ⟨vt, m, fa, fp, rfl, hln, hin, hb1⟩
  obtain ⟨ot, ct, hve⟩ := InT.opn hin
  subst hve
  have hf : m.length ≤ 1048576 := by omega
  have HB := hide hb1
  have HI := hide hin
  clear hb1 hin hD hR hB8 hm
  obtain ⟨W2, hW2⟩ : ∃ W, ((v0.alloc (.cells #[.slice ot m.length ct] 25)).alloc (.cells #[.int .i64 fa, .int .i64 fp] 27)) = W := ⟨_, rfl⟩
  have hb_W2 : Below v0.heap.size v0 W2 := by rw [← hW2]; exact (((Below.refl _ _).alloc (Nat.le_refl _) _).alloc (by simp <;> omega) _)
  replace HB := hide (HB.out.trans (hb_W2.mono HB.out.size))
  have HI2 := hide (HI.out.step (Stp.of (lo := 0) (hi := 0) hb_W2) (.inl (Nat.zero_le _)))
  clear hb_W2 HI
  have HI := HI2
  clear HI2
  have zct : v0.heap.size < W2.heap.size := by rw [← hW2]; simp <;> omega
  have ct0 : W2.cell? ⟨v0.heap.size, 0, none⟩ = some (.slice ot m.length ct) := by rw [← hW2]; simp [go_sem]
  have zcf : v0.heap.size + 1 < W2.heap.size := by rw [← hW2]; simp
  have cf0 : W2.cell? ⟨v0.heap.size + 1, 0, none⟩ = some (.int .i64 fa) := by rw [← hW2]; simp [go_sem]
  have cf1 : W2.cell? ⟨v0.heap.size + 1, 1, none⟩ = some (.int .i64 fp) := by rw [← hW2]; simp [go_sem]
  cases hT : tableOkB m with
  | false =>
    have hH : homeM m fa fp = -1 := by unfold homeM; rw [hT]; rfl
    have hFM : flowsM m = [] := by unfold flowsM; rw [hT]; rfl
    have hCM : countM m = -1 := by unfold countM; rw [hT]; rfl
    have hc1 := implHome_sh (tab (.slice ot m.length ct)) m fa fp W2 (HI.out.rd.le (by omega)) hf
    rw [hH] at hc1
    go_wp2_with fail
    refine (hc1).mono ?_
    rintro e v1 ⟨rfl, hb⟩
    replace HI := hide (HI.out.step (Stp.of (lo := 0) (hi := 0) hb) (.inl (Nat.zero_le _)))
    replace ct0 : v1.cell? ⟨v0.heap.size, 0, none⟩ = some (.slice ot m.length ct) := (hb.cell (p := ⟨v0.heap.size, 0, none⟩) zct).trans ct0
    replace zct : v0.heap.size < v1.heap.size := Nat.lt_of_lt_of_le zct hb.size
    replace cf0 : v1.cell? ⟨v0.heap.size + 1, 0, none⟩ = some (.int .i64 fa) := (hb.cell (p := ⟨v0.heap.size + 1, 0, none⟩) zcf).trans cf0
    replace cf1 : v1.cell? ⟨v0.heap.size + 1, 1, none⟩ = some (.int .i64 fp) := (hb.cell (p := ⟨v0.heap.size + 1, 1, none⟩) zcf).trans cf1
    replace zcf : v0.heap.size + 1 < v1.heap.size := Nat.lt_of_lt_of_le zcf hb.size
    replace HB := hide (HB.out.trans (hb.mono HB.out.size))
    clear hb
    have hc2 := implFlowsOf_sh (tab (.slice ot m.length ct)) m v1 (HI.out.rd.le (by omega)) hf
    rw [hFM] at hc2
    go_wp2_with fail
    refine (hc2).mono ?_
    rintro e v2 ⟨vf, rfl, hfs, hb⟩
    replace HI := hide (HI.out.step (Stp.of (lo := 0) (hi := 0) hb) (.inl (Nat.zero_le _)))
    obtain ⟨o2, c2, hve, _⟩ := hfs.rd
    subst hve
    replace ct0 : v2.cell? ⟨v0.heap.size, 0, none⟩ = some (.slice ot m.length ct) := (hb.cell (p := ⟨v0.heap.size, 0, none⟩) zct).trans ct0
    replace zct : v0.heap.size < v2.heap.size := Nat.lt_of_lt_of_le zct hb.size
    replace cf0 : v2.cell? ⟨v0.heap.size + 1, 0, none⟩ = some (.int .i64 fa) := (hb.cell (p := ⟨v0.heap.size + 1, 0, none⟩) zcf).trans cf0
    replace cf1 : v2.cell? ⟨v0.heap.size + 1, 1, none⟩ = some (.int .i64 fp) := (hb.cell (p := ⟨v0.heap.size + 1, 1, none⟩) zcf).trans cf1
    replace zcf : v0.heap.size + 1 < v2.heap.size := Nat.lt_of_lt_of_le zcf hb.size
    replace HB := hide (HB.out.trans (hb.mono HB.out.size))
    clear hb
    have hc3 := specTableOk_sh (tab (.slice ot m.length ct)) m v2 (HI.out.rd.le (by omega)) HI.out.cap hf
    rw [hT] at hc3
    go_wp2_with fail
    refine (hc3).mono ?_
    rintro e v3 ⟨rfl, hb⟩
    replace HI := hide (HI.out.step (Stp.of (lo := 0) (hi := 0) hb) (.inl (Nat.zero_le _)))
    replace ct0 : v3.cell? ⟨v0.heap.size, 0, none⟩ = some (.slice ot m.length ct) := (hb.cell (p := ⟨v0.heap.size, 0, none⟩) zct).trans ct0
    replace zct : v0.heap.size < v3.heap.size := Nat.lt_of_lt_of_le zct hb.size
    replace cf0 : v3.cell? ⟨v0.heap.size + 1, 0, none⟩ = some (.int .i64 fa) := (hb.cell (p := ⟨v0.heap.size + 1, 0, none⟩) zcf).trans cf0
    replace cf1 : v3.cell? ⟨v0.heap.size + 1, 1, none⟩ = some (.int .i64 fp) := (hb.cell (p := ⟨v0.heap.size + 1, 1, none⟩) zcf).trans cf1
    replace zcf : v0.heap.size + 1 < v3.heap.size := Nat.lt_of_lt_of_le zcf hb.size
    replace HB := hide (HB.out.trans (hb.mono HB.out.size))
    clear hb
    have hc4 := implCountOf_sh (tab (.slice ot m.length ct)) m v3 (HI.out.rd.le (by omega)) HI.out.cap hf
    rw [hCM] at hc4
    clear hc1 hc2 hc3 hfs hT hH hFM hCM
    simp only [List.length_nil]
    go_wp2_with fail
    refine (hc4).mono ?_
    rintro e v4 ⟨rfl, hb⟩
    replace HI := hide (HI.out.step (Stp.of (lo := 0) (hi := 0) hb) (.inl (Nat.zero_le _)))
    replace ct0 : v4.cell? ⟨v0.heap.size, 0, none⟩ = some (.slice ot m.length ct) := (hb.cell (p := ⟨v0.heap.size, 0, none⟩) zct).trans ct0
    replace zct : v0.heap.size < v4.heap.size := Nat.lt_of_lt_of_le zct hb.size
    replace cf0 : v4.cell? ⟨v0.heap.size + 1, 0, none⟩ = some (.int .i64 fa) := (hb.cell (p := ⟨v0.heap.size + 1, 0, none⟩) zcf).trans cf0
    replace cf1 : v4.cell? ⟨v0.heap.size + 1, 1, none⟩ = some (.int .i64 fp) := (hb.cell (p := ⟨v0.heap.size + 1, 1, none⟩) zcf).trans cf1
    replace zcf : v0.heap.size + 1 < v4.heap.size := Nat.lt_of_lt_of_le zcf hb.size
    replace HB := hide (HB.out.trans (hb.mono HB.out.size))
    clear hb
    go_wp2_with fail
    refine (tables_any v4).mono ?_
    rintro e v5 ⟨rfl, hb⟩
    replace ct0 : v5.cell? ⟨v0.heap.size, 0, none⟩ = some (.slice ot m.length ct) := (hb.cell (p := ⟨v0.heap.size, 0, none⟩) zct).trans ct0
    replace zct : v0.heap.size < v5.heap.size := Nat.lt_of_lt_of_le zct hb.size
    replace cf0 : v5.cell? ⟨v0.heap.size + 1, 0, none⟩ = some (.int .i64 fa) := (hb.cell (p := ⟨v0.heap.size + 1, 0, none⟩) zcf).trans cf0
    replace cf1 : v5.cell? ⟨v0.heap.size + 1, 1, none⟩ = some (.int .i64 fp) := (hb.cell (p := ⟨v0.heap.size + 1, 1, none⟩) zcf).trans cf1
    replace zcf : v0.heap.size + 1 < v5.heap.size := Nat.lt_of_lt_of_le zcf hb.size
    replace HB := hide (HB.out.trans (hb.mono HB.out.size))
    clear hb
    clear hc4
    go_wp2
    go_ret
    exact ⟨rfl, HB.out⟩
  | true =>
    obtain ⟨hlt, heq⟩ := home_lt (a := fa) (p := fp) hT
    have HAsc := hide (flowsM_asc hT)
    have HOk := hide (flowsM_ok hT)
    have hcn : countM m = ((flowsM m).length : Int) := by unfold countM flowsM; rw [if_pos hT, if_pos hT, sortF_length, flowsTo_len]; rfl
    have h16 := flowsM_len m
    have hc1 := fun W h => implHome_sh (tab (.slice ot m.length ct)) m fa fp W h hf
    have hc2 := fun W h => implFlowsOf_sh (tab (.slice ot m.length ct)) m W h hf
    have hc3 := fun W h => specTableOk_sh (tab (.slice ot m.length ct)) m W h HI.out.cap hf
    have hc4 := fun W h => implCountOf_sh (tab (.slice ot m.length ct)) m W h HI.out.cap hf
    have hc5 := fun W h => implTableOk_sh (tab (.slice ot m.length ct)) m W h HI.out.cap hf
    rw [hT] at hc3 hc5
    rw [hcn] at hc4
    generalize homeM m fa fp = h at *
    generalize flowsM m = fs at *
    obtain ⟨fo, hfo⟩ : ∃ fo, flowOkB fa fp = fo := ⟨_, rfl⟩
    have hc6 := fun W => specFlowOk_any fa fp W
    rw [hfo] at heq hc6
    have H1 := hide hc1
    have H2 := hide hc2
    have H3 := hide hc3
    have H4 := hide hc4
    have H5 := hide hc5
    have H6 := hide hc6
    have HLt := hide hlt
    have HEq := hide heq
    clear hc1 hc2 hc3 hc4 hc5 hc6 hT hcn hfo hlt heq
    go_wp2_with fail
    refine (H1.out W2 (HI.out.rd.le (by omega))).mono ?_
    rintro e v1 ⟨rfl, hb⟩
    replace HI := hide (HI.out.step (Stp.of (lo := 0) (hi := 0) hb) (.inl (Nat.zero_le _)))
    replace ct0 : v1.cell? ⟨v0.heap.size, 0, none⟩ = some (.slice ot m.length ct) := (hb.cell (p := ⟨v0.heap.size, 0, none⟩) zct).trans ct0
    replace zct : v0.heap.size < v1.heap.size := Nat.lt_of_lt_of_le zct hb.size
    replace cf0 : v1.cell? ⟨v0.heap.size + 1, 0, none⟩ = some (.int .i64 fa) := (hb.cell (p := ⟨v0.heap.size + 1, 0, none⟩) zcf).trans cf0
    replace cf1 : v1.cell? ⟨v0.heap.size + 1, 1, none⟩ = some (.int .i64 fp) := (hb.cell (p := ⟨v0.heap.size + 1, 1, none⟩) zcf).trans cf1
    replace zcf : v0.heap.size + 1 < v1.heap.size := Nat.lt_of_lt_of_le zcf hb.size
    replace HB := hide (HB.out.trans (hb.mono HB.out.size))
    clear hb
    go_wp2_with fail
    refine (H2.out v1 (HI.out.rd.le (by omega))).mono ?_
    rintro e v2 ⟨vf, rfl, hfs, hb⟩
    replace HI := hide (HI.out.step (Stp.of (lo := 0) (hi := 0) hb) (.inl (Nat.zero_le _)))
    obtain ⟨o2, c2, hve, _⟩ := hfs.rd
    subst hve
    have HF := hide hfs
    clear hfs
    replace ct0 : v2.cell? ⟨v0.heap.size, 0, none⟩ = some (.slice ot m.length ct) := (hb.cell (p := ⟨v0.heap.size, 0, none⟩) zct).trans ct0
    replace zct : v0.heap.size < v2.heap.size := Nat.lt_of_lt_of_le zct hb.size
    replace cf0 : v2.cell? ⟨v0.heap.size + 1, 0, none⟩ = some (.int .i64 fa) := (hb.cell (p := ⟨v0.heap.size + 1, 0, none⟩) zcf).trans cf0
    replace cf1 : v2.cell? ⟨v0.heap.size + 1, 1, none⟩ = some (.int .i64 fp) := (hb.cell (p := ⟨v0.heap.size + 1, 1, none⟩) zcf).trans cf1
    replace zcf : v0.heap.size + 1 < v2.heap.size := Nat.lt_of_lt_of_le zcf hb.size
    replace HB := hide (HB.out.trans (hb.mono HB.out.size))
    clear hb
    go_wp2_with fail
    refine (H3.out v2 (HI.out.rd.le (by omega))).mono ?_
    rintro e v3 ⟨rfl, hb⟩
    replace HI := hide (HI.out.step (Stp.of (lo := 0) (hi := 0) hb) (.inl (Nat.zero_le _)))
    replace HF := hide (HF.out.step (Stp.of (lo := 0) (hi := 0) hb) (.inl (Nat.zero_le _)))
    replace ct0 : v3.cell? ⟨v0.heap.size, 0, none⟩ = some (.slice ot m.length ct) := (hb.cell (p := ⟨v0.heap.size, 0, none⟩) zct).trans ct0
    replace zct : v0.heap.size < v3.heap.size := Nat.lt_of_lt_of_le zct hb.size
    replace cf0 : v3.cell? ⟨v0.heap.size + 1, 0, none⟩ = some (.int .i64 fa) := (hb.cell (p := ⟨v0.heap.size + 1, 0, none⟩) zcf).trans cf0
    replace cf1 : v3.cell? ⟨v0.heap.size + 1, 1, none⟩ = some (.int .i64 fp) := (hb.cell (p := ⟨v0.heap.size + 1, 1, none⟩) zcf).trans cf1
    replace zcf : v0.heap.size + 1 < v3.heap.size := Nat.lt_of_lt_of_le zcf hb.size
    replace HB := hide (HB.out.trans (hb.mono HB.out.size))
    clear hb
    obtain ⟨n, hn⟩ : ∃ n, fs.length = n := ⟨_, rfl⟩
    have HN := hide hn
    simp only [hn]
    rw [hn] at h16
    clear hn
    go_wp2
    go_loopw [7] (fun iv wr => ∃ i : Nat, iv = .int .i64 ((i : Int) + 1) ∧ i ≤ 16 ∧ Hid (Below v3.heap.size v3 wr)) (fun iv _ => n - (intOf iv).toNat)
    case atStart => exact ⟨0, rfl, by omega, Below.refl _ _⟩
    case round =>
      obtain ⟨i, rfl, hi16, HBr⟩ := hrel
      have hsr := HBr.out.size
      by_cases hin : i + 1 < n
      · have hin' : (i : Int) + 1 < (n : Int) := by omega
        have hfl : i + 1 < fs.length := by have := HN.out; omega
        obtain ⟨g, rfl, _, hgw⟩ : ∃ g, o2 = some ⟨g, 0, none⟩ ∧ fs.length ≤ c2 ∧ g < v3.heap.size := by
          rcases own_some HF.out.1 with ⟨_, h, _⟩ | h
          · rw [h] at hfl; simp at hfl
          · exact h
        have r1 := rd_rowF HF.out.1 i (by omega)
        have r2 := rd_rowF HF.out.1 (i + 1) hfl
        have hcm := cmp_asc (HAsc.out i hfl) (HOk.out i (by omega)) (HOk.out (i + 1) hfl)
        obtain ⟨⟨xa, xp⟩, hx⟩ : ∃ z, fs.getD i (0, 0) = z := ⟨_, rfl⟩
        obtain ⟨⟨ya, yp⟩, hy⟩ : ∃ z, fs.getD (i + 1) (0, 0) = z := ⟨_, rfl⟩
        rw [hx] at r1 hcm
        rw [hy] at r2 hcm
        simp only at r1 r2 hcm
        have hgr : g < wr.heap.size := by omega
        have G0 := Grown.cell ((HBr.out.cell (p := ⟨g, i * 2, none⟩) hgw).trans r1.1) hgr
        have G1 := Grown.cell ((HBr.out.cell (p := ⟨g, i * 2 + 1, none⟩) hgw).trans r1.2) hgr
        have G2 := Grown.cell ((HBr.out.cell (p := ⟨g, (i + 1) * 2, none⟩) hgw).trans r2.1) hgr
        have G3 := Grown.cell ((HBr.out.cell (p := ⟨g, (i + 1) * 2 + 1, none⟩) hgw).trans r2.2) hgr
        have HCm := hide (fun W => implFlowCmp_any xa xp ya yp W)
        rw [hcm] at HCm
        clear r1 r2 hcm hx hy
        go_wp2
        (refine wp_region_grown (by kernel_rfl) (by kernel_rfl) ?_; intro hne9; (repeat (go_big_quiet_step ((go_at_call 34; exact grown_of _ (HCm.out _))))); (with_reducible refine wpQuiet_nil ?_); intro _ hw9; obtain ⟨pq, hw8⟩ := hw9; subst hw8)
        go_wp2
        go_roundw
        case rel => exact ⟨i + 1, by go_num, by omega, HBr.out.trans (pq.b.mono HBr.out.size)⟩
        case measure => simp [intOf]; omega
      · have hin' : decide ((i : Int) + 1 < (n : Int)) = false := decide_eq_false (by omega)
        have hb := HBr.out
        replace HI := hide (HI.out.step (Stp.of (lo := 0) (hi := 0) hb) (.inl (Nat.zero_le _)))
        clear HF
        replace ct0 : wr.cell? ⟨v0.heap.size, 0, none⟩ = some (.slice ot m.length ct) := (hb.cell (p := ⟨v0.heap.size, 0, none⟩) zct).trans ct0
        replace zct : v0.heap.size < wr.heap.size := Nat.lt_of_lt_of_le zct hb.size
        replace cf0 : wr.cell? ⟨v0.heap.size + 1, 0, none⟩ = some (.int .i64 fa) := (hb.cell (p := ⟨v0.heap.size + 1, 0, none⟩) zcf).trans cf0
        replace cf1 : wr.cell? ⟨v0.heap.size + 1, 1, none⟩ = some (.int .i64 fp) := (hb.cell (p := ⟨v0.heap.size + 1, 1, none⟩) zcf).trans cf1
        replace zcf : v0.heap.size + 1 < wr.heap.size := Nat.lt_of_lt_of_le zcf hb.size
        replace HB := hide (HB.out.trans (hb.mono HB.out.size))
        clear hb
        clear HBr
        go_wp2_with fail
        refine (H4.out wr (HI.out.rd.le (by omega))).mono ?_
        rintro e v4 ⟨rfl, hb⟩
        replace HI := hide (HI.out.step (Stp.of (lo := 0) (hi := 0) hb) (.inl (Nat.zero_le _)))
        replace ct0 : v4.cell? ⟨v0.heap.size, 0, none⟩ = some (.slice ot m.length ct) := (hb.cell (p := ⟨v0.heap.size, 0, none⟩) zct).trans ct0
        replace zct : v0.heap.size < v4.heap.size := Nat.lt_of_lt_of_le zct hb.size
        replace cf0 : v4.cell? ⟨v0.heap.size + 1, 0, none⟩ = some (.int .i64 fa) := (hb.cell (p := ⟨v0.heap.size + 1, 0, none⟩) zcf).trans cf0
        replace cf1 : v4.cell? ⟨v0.heap.size + 1, 1, none⟩ = some (.int .i64 fp) := (hb.cell (p := ⟨v0.heap.size + 1, 1, none⟩) zcf).trans cf1
        replace zcf : v0.heap.size + 1 < v4.heap.size := Nat.lt_of_lt_of_le zcf hb.size
        replace HB := hide (HB.out.trans (hb.mono HB.out.size))
        clear hb
        simp only [HN.out]
        go_wp2_with fail
        refine (H6.out v4).mono ?_
        rintro e v5 ⟨rfl, hb⟩
        replace HI := hide (HI.out.step (Stp.of (lo := 0) (hi := 0) hb) (.inl (Nat.zero_le _)))
        replace ct0 : v5.cell? ⟨v0.heap.size, 0, none⟩ = some (.slice ot m.length ct) := (hb.cell (p := ⟨v0.heap.size, 0, none⟩) zct).trans ct0
        replace zct : v0.heap.size < v5.heap.size := Nat.lt_of_lt_of_le zct hb.size
        replace cf0 : v5.cell? ⟨v0.heap.size + 1, 0, none⟩ = some (.int .i64 fa) := (hb.cell (p := ⟨v0.heap.size + 1, 0, none⟩) zcf).trans cf0
        replace cf1 : v5.cell? ⟨v0.heap.size + 1, 1, none⟩ = some (.int .i64 fp) := (hb.cell (p := ⟨v0.heap.size + 1, 1, none⟩) zcf).trans cf1
        replace zcf : v0.heap.size + 1 < v5.heap.size := Nat.lt_of_lt_of_le zcf hb.size
        replace HB := hide (HB.out.trans (hb.mono HB.out.size))
        clear hb
        have hlt := HLt.out
        have heq := HEq.out
        go_wp2_with fail
        refine (H5.out v5 (HI.out.rd.le (by omega))).mono ?_
        rintro e v6 ⟨rfl, hb⟩
        replace HI := hide (HI.out.step (Stp.of (lo := 0) (hi := 0) hb) (.inl (Nat.zero_le _)))
        replace ct0 : v6.cell? ⟨v0.heap.size, 0, none⟩ = some (.slice ot m.length ct) := (hb.cell (p := ⟨v0.heap.size, 0, none⟩) zct).trans ct0
        replace zct : v0.heap.size < v6.heap.size := Nat.lt_of_lt_of_le zct hb.size
        replace cf0 : v6.cell? ⟨v0.heap.size + 1, 0, none⟩ = some (.int .i64 fa) := (hb.cell (p := ⟨v0.heap.size + 1, 0, none⟩) zcf).trans cf0
        replace cf1 : v6.cell? ⟨v0.heap.size + 1, 1, none⟩ = some (.int .i64 fp) := (hb.cell (p := ⟨v0.heap.size + 1, 1, none⟩) zcf).trans cf1
        replace zcf : v0.heap.size + 1 < v6.heap.size := Nat.lt_of_lt_of_le zcf hb.size
        replace HB := hide (HB.out.trans (hb.mono HB.out.size))
        clear hb
        go_wp2_with fail
        refine (tables_any v6).mono ?_
        rintro e v7 ⟨rfl, hb⟩
        replace ct0 : v7.cell? ⟨v0.heap.size, 0, none⟩ = some (.slice ot m.length ct) := (hb.cell (p := ⟨v0.heap.size, 0, none⟩) zct).trans ct0
        replace zct : v0.heap.size < v7.heap.size := Nat.lt_of_lt_of_le zct hb.size
        replace cf0 : v7.cell? ⟨v0.heap.size + 1, 0, none⟩ = some (.int .i64 fa) := (hb.cell (p := ⟨v0.heap.size + 1, 0, none⟩) zcf).trans cf0
        replace cf1 : v7.cell? ⟨v0.heap.size + 1, 1, none⟩ = some (.int .i64 fp) := (hb.cell (p := ⟨v0.heap.size + 1, 1, none⟩) zcf).trans cf1
        replace zcf : v0.heap.size + 1 < v7.heap.size := Nat.lt_of_lt_of_le zcf hb.size
        replace HB := hide (HB.out.trans (hb.mono HB.out.size))
        clear hb
        go_wp2
        go_ret
        exact ⟨rfl, HB.out⟩

set_option maxRecDepth 100000 in
theorem fnHomes_lifted (os : Os) (started : os.Started) (H : Type) (enc : TypeId × Value → H) :
    ReturnsInHanded {} Try.checked os 6 .any (Rows.fnHomesSpec.pre6 enc Try.prog Try.f6 Rows.fnHomesRow.domain false) (Rows.fnHomesSpec.post enc Try.prog Try.f6 false true false false) := by
  refine returnsInHanded_of_change (C := Try.checked) own started (by kernel_rfl) Try.func6
    (ChangeSpec.witness6 (enc := enc) (C := Try.checked) false ⟨#[], #[.slice none 0 0], []⟩ 8 (by kernel_rfl) (by kernel_rfl) (by kernel_rfl) (by kernel_rfl)) ?_
  intro W base args ds gs before hval0 hW hcnd _
  have hval : ∀ (j : Nat) t v, Try.f6.params[j]? = some t → args[j]? = some v → Value.okWide Try.prog W .any base t v := hval0
  have hW' := hW
  obtain ⟨p, q, hA0, hV, rfl, hfz, hnd⟩ := hW
  have hA : DataW.TrodAll enc Try.prog W 0 (fun _ => true) true Try.f6.params.toList args.toList ds p := hA0
  rw [Try.params6] at hA hval
  obtain ⟨v0, vs0, d0, ds0, p0, q0, hargs, rfl, rfl, h0, r0⟩ := trodAll_cons hA
  obtain ⟨rfl, rfl, rfl⟩ := trodAll_nil r0
  obtain rfl : args = #[v0] := by cases args; simp_all
  obtain ⟨rfl, rfl⟩ := trodVars_none hV
  have k0 := h0
  have lt0 : ∀ x ∈ p0, x.block < W.heap.size := by obtain ⟨m, hm⟩ := k0; exact DataW.trod_lt m _ _ _ hm
  obtain ⟨o0, cap0, l0, rfl, hm0, hR0, hB80⟩ := open_bytes (hval 0 22 v0 rfl rfl) h0
  clear hA0 hval0
  refine (lawHomes o0 cap0 l0 W hm0 hR0 hB80 ).mono fun e W' ⟨he, bel⟩ => ?_
  subst he
  exact ⟨_, rfl, _, _, _, [], _, [], hW', trodAll_mk1 (shut_bool Try.underlying4 _), (trodAll_cons_mk (Below.trod laidOut (by kernel_rfl) (of_decide_eq_true (by kernel_rfl)) k0 bel lt0) trodAll_mk0), rfl, bel.frame _, fun h => by cases h⟩

theorem fnHomes_over : Rows.fnHomesRow.holds Try.pinned (OpenSpec.ofChange Rows.fnHomesSpec) :=
  OpenClaim.holds_of_wide 6 Try.f6 rfl rfl rfl rfl rfl rfl rfl ⟨rfl, rfl, rfl, rfl, rfl⟩ rfl rfl rfl rfl rfl (by kernel_rfl) Try.func6 (by kernel_rfl)
    (of_decide_eq_true (by kernel_rfl)) (by unfold Func.isWrapper; first | (rw [if_pos (by decide +kernel)]; kernel_rfl) | (rw [if_neg (by decide +kernel)]; exact ⟨rfl, rfl⟩))
    (fun os started H enc _ => fnHomes_lifted os started H enc)

theorem fnHomes_holds : Rows.FnHomesSaid := fnHomes_over


end Go.Proofs.Ytiijecnhbioehaa

