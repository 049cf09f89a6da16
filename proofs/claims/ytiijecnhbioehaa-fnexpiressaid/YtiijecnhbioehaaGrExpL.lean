/- For all bytes the law FnExpires answers true, and the bytes read as they did: just what is due goes; what is due first is not later than anything that is left. No conditions. -/
import Derived.Test.YtiijecnhbioehaaGrExpL0
namespace Go.Proofs.Ytiijecnhbioehaa
open Go.ChangeShapes Go.WideShapes Go.ChangeAt Go.RowKit Go.Joins
set_option linter.unusedVariables false
set_option linter.unusedSimpArgs false

set_option maxRecDepth 100000 in
set_option maxHeartbeats 16000000 in
theorem lawExpires (o : Option Addr) (cap : Nat) (l : List Int) (w : World) (hm : l.length ≤ maxLen) (hR : Rd w o l) (hB8 : isB l) :
    Calls Try.prog 5 #[.slice o l.length cap] w fun e w' => e = .returned (.bool true) ∧ Below w.heap.size w w' := by
  have hD := drawExpire_any o cap l w hR hB8 hm
  go_enter Try.func5, Try.ntmps5
  go_wp2_with fail
  refine hD.mono ?_
  rintro e v0 ⟨vt, m, now, rfl, hln, hin, hb1⟩
  obtain ⟨ot, ct, hve⟩ := InT.opn hin
  subst hve
  have hf : m.length ≤ 1048576 := by omega
  obtain ⟨n, hn⟩ : ∃ n, m.length = n := ⟨_, rfl⟩
  rw [hn] at hin
  simp only [hn]
  have HN := hide hn
  rw [hn] at hln
  clear hn
  have HB := hide hb1
  have HI := hide hin
  clear hb1 hin hD hR hB8 hm
  obtain ⟨W2, hW2⟩ : ∃ W, (v0.alloc (.cells #[.slice ot n ct] 25)) = W := ⟨_, rfl⟩
  have hb_W2 : Below v0.heap.size v0 W2 := by rw [← hW2]; exact ((Below.refl _ _).alloc (Nat.le_refl _) _)
  replace HB := hide (HB.out.trans (hb_W2.mono HB.out.size))
  have HIn := hide (HI.out.step (Stp.of (lo := 0) (hi := 0) hb_W2) (.inl (Nat.zero_le _)))
  clear HI
  have HI := HIn
  clear HIn
  clear hb_W2
  have zct : v0.heap.size < W2.heap.size := by rw [← hW2]; simp
  have ct0 : W2.cell? ⟨v0.heap.size, 0, none⟩ = some (.slice ot n ct) := by rw [← hW2]; simp [go_sem]
  have hml := expM_len m now
  have H1 := hide (fun W h => implExpire_sh (tab (.slice ot n ct)) m now W h hf)
  cases hT : tableOkB m with
  | false =>
    have hM : expM m now = [] := by unfold expM; rw [hT]; rfl
    have hNn : expN m now = -1 := by unfold expN; rw [hT]; rfl
    rw [hNn] at H1
    have H2 := hide (fun W h => specTableOk_sh (tab (.slice ot n ct)) m W h HI.out.cap hf)
    rw [hT] at H2
    obtain ⟨mx, hmx⟩ : ∃ q, expM m now = q := ⟨_, rfl⟩
    rw [hmx] at H1 hM hml
    clear hmx hNn hT
    go_wp2_with fail
    refine (H1.out W2 (HI.out.rd.le (by omega))).mono ?_
    rintro e v1 ⟨vx, rfl, hix, hb⟩
    replace HI := hide (HI.out.step (Stp.of (lo := 0) (hi := 0) hb) (.inl (Nat.zero_le _)))
    obtain ⟨ox, cx, hve⟩ := InT.opn hix
    subst hve
    obtain ⟨nx, hnx⟩ : ∃ n, mx.length = n := ⟨_, rfl⟩
    rw [hnx] at hix
    simp only [hnx]
    have HNX := hide hnx
    have HX := hide hix
    clear hix hnx
    replace ct0 : v1.cell? ⟨v0.heap.size, 0, none⟩ = some (.slice ot n ct) := (hb.cell (p := ⟨v0.heap.size, 0, none⟩) zct).trans ct0
    replace zct : v0.heap.size < v1.heap.size := Nat.lt_of_lt_of_le zct hb.size
    replace HB := hide (HB.out.trans (hb.mono HB.out.size))
    clear hb
    obtain rfl : nx = 0 := by rw [← HNX.out, hM]; rfl
    obtain ⟨W4, hW4⟩ : ∃ W, (v1.alloc (.cells #[.slice ox 0 cx] 25)) = W := ⟨_, rfl⟩
    have hb_W4 : Below v1.heap.size v1 W4 := by rw [← hW4]; exact ((Below.refl _ _).alloc (Nat.le_refl _) _)
    replace ct0 : W4.cell? ⟨v0.heap.size, 0, none⟩ = some (.slice ot n ct) := (hb_W4.cell (p := ⟨v0.heap.size, 0, none⟩) zct).trans ct0
    replace zct : v0.heap.size < W4.heap.size := Nat.lt_of_lt_of_le zct hb_W4.size
    replace HB := hide (HB.out.trans (hb_W4.mono HB.out.size))
    have HIn := hide (HI.out.step (Stp.of (lo := 0) (hi := 0) hb_W4) (.inl (Nat.zero_le _)))
    have HXn := hide (HX.out.step (Stp.of (lo := 0) (hi := 0) hb_W4) (.inl (Nat.zero_le _)))
    clear HI
    have HI := HIn
    clear HIn
    clear HX
    have HX := HXn
    clear HXn
    clear hb_W4
    have zcx : v1.heap.size < W4.heap.size := by rw [← hW4]; simp
    have cx0 : W4.cell? ⟨v1.heap.size, 0, none⟩ = some (.slice ox 0 cx) := by rw [← hW4]; simp [go_sem]
    go_wp2_with fail
    refine (H2.out W4 (HI.out.rd.le (by omega))).mono ?_
    rintro e v2 ⟨rfl, hb⟩
    replace HI := hide (HI.out.step (Stp.of (lo := 0) (hi := 0) hb) (.inl (Nat.zero_le _)))
    replace HX := hide (HX.out.step (Stp.of (lo := 0) (hi := 0) hb) (.inl (Nat.zero_le _)))
    replace ct0 : v2.cell? ⟨v0.heap.size, 0, none⟩ = some (.slice ot n ct) := (hb.cell (p := ⟨v0.heap.size, 0, none⟩) zct).trans ct0
    replace zct : v0.heap.size < v2.heap.size := Nat.lt_of_lt_of_le zct hb.size
    replace cx0 : v2.cell? ⟨v1.heap.size, 0, none⟩ = some (.slice ox 0 cx) := (hb.cell (p := ⟨v1.heap.size, 0, none⟩) zcx).trans cx0
    replace zcx : v1.heap.size < v2.heap.size := Nat.lt_of_lt_of_le zcx hb.size
    replace HB := hide (HB.out.trans (hb.mono HB.out.size))
    clear hb
    go_wp2_with fail
    refine (tables_any v2).mono ?_
    rintro e v3 ⟨rfl, hb⟩
    replace ct0 : v3.cell? ⟨v0.heap.size, 0, none⟩ = some (.slice ot n ct) := (hb.cell (p := ⟨v0.heap.size, 0, none⟩) zct).trans ct0
    replace zct : v0.heap.size < v3.heap.size := Nat.lt_of_lt_of_le zct hb.size
    replace cx0 : v3.cell? ⟨v1.heap.size, 0, none⟩ = some (.slice ox 0 cx) := (hb.cell (p := ⟨v1.heap.size, 0, none⟩) zcx).trans cx0
    replace zcx : v1.heap.size < v3.heap.size := Nat.lt_of_lt_of_le zcx hb.size
    replace HB := hide (HB.out.trans (hb.mono HB.out.size))
    clear hb
    go_wp2
    go_ret
    exact ⟨rfl, HB.out⟩
  | true =>
    have hMe : expM m now = (expL m now).1 := by unfold expM; rw [hT]; rfl
    have hNn : expN m now = ((expL m now).2 : Nat) := by unfold expN; rw [hT]; rfl
    obtain ⟨hTx, hcnt, _⟩ := exp_facts now hT
    have HEx := hide (exp_expOk now hT)
    rw [hMe, hNn] at H1
    rw [hMe] at hml
    obtain ⟨mx, hmx⟩ : ∃ q, (expL m now).1 = q := ⟨_, rfl⟩
    obtain ⟨nn, hnn⟩ : ∃ q, (expL m now).2 = q := ⟨_, rfl⟩
    rw [hmx, hnn] at H1
    rw [hmx] at hml hTx HEx
    rw [hmx, hnn] at hcnt
    clear hmx hnn hMe hNn
    obtain ⟨hsu, hst⟩ := soon_facts hTx
    have HSU := hide hsu
    have HST := hide hst
    have hc1 : countM m = (cnt m : Nat) := countM_cnt hT
    have hc2 : countM mx = (cnt mx : Nat) := countM_cnt hTx
    have hcl := cnt_le m
    have hc16 : cnt m ≤ 16 := by have := HN.out; omega
    clear hsu hst hcl
    have hn0 : ¬ ((nn : Int) < 0) := by omega
    go_wp2_with fail
    refine (H1.out W2 (HI.out.rd.le (by omega))).mono ?_
    rintro e v1 ⟨vx, rfl, hix, hb⟩
    replace HI := hide (HI.out.step (Stp.of (lo := 0) (hi := 0) hb) (.inl (Nat.zero_le _)))
    obtain ⟨ox, cx, hve⟩ := InT.opn hix
    subst hve
    obtain ⟨nx, hnx⟩ : ∃ n, mx.length = n := ⟨_, rfl⟩
    rw [hnx] at hix
    simp only [hnx]
    have HNX := hide hnx
    have HX := hide hix
    clear hix hnx
    replace ct0 : v1.cell? ⟨v0.heap.size, 0, none⟩ = some (.slice ot n ct) := (hb.cell (p := ⟨v0.heap.size, 0, none⟩) zct).trans ct0
    replace zct : v0.heap.size < v1.heap.size := Nat.lt_of_lt_of_le zct hb.size
    replace HB := hide (HB.out.trans (hb.mono HB.out.size))
    clear hb
    obtain ⟨W4, hW4⟩ : ∃ W, (v1.alloc (.cells #[.slice ox nx cx] 25)) = W := ⟨_, rfl⟩
    have hb_W4 : Below v1.heap.size v1 W4 := by rw [← hW4]; exact ((Below.refl _ _).alloc (Nat.le_refl _) _)
    replace ct0 : W4.cell? ⟨v0.heap.size, 0, none⟩ = some (.slice ot n ct) := (hb_W4.cell (p := ⟨v0.heap.size, 0, none⟩) zct).trans ct0
    replace zct : v0.heap.size < W4.heap.size := Nat.lt_of_lt_of_le zct hb_W4.size
    replace HB := hide (HB.out.trans (hb_W4.mono HB.out.size))
    have HIn := hide (HI.out.step (Stp.of (lo := 0) (hi := 0) hb_W4) (.inl (Nat.zero_le _)))
    have HXn := hide (HX.out.step (Stp.of (lo := 0) (hi := 0) hb_W4) (.inl (Nat.zero_le _)))
    clear HI
    have HI := HIn
    clear HIn
    clear HX
    have HX := HXn
    clear HXn
    clear hb_W4
    have zcx : v1.heap.size < W4.heap.size := by rw [← hW4]; simp
    have cx0 : W4.cell? ⟨v1.heap.size, 0, none⟩ = some (.slice ox nx cx) := by rw [← hW4]; simp [go_sem]
    have HT := hide (fun p : Grown W4 => implTableOk_sh (tab (.slice ox nx cx)) mx p.v ((HX.out.rd.kept p.b (by omega)).le (by have := p.b.size; omega)) HX.out.cap (by omega))
    rw [hTx] at HT
    have HCx := hide (fun p : Grown W4 => implCountOf_sh (tab (.slice ox nx cx)) mx p.v ((HX.out.rd.kept p.b (by omega)).le (by have := p.b.size; omega)) HX.out.cap (by omega))
    rw [hc2] at HCx
    have HCt := hide (fun p : Grown W4 => implCountOf_sh (tab (.slice ot n ct)) m p.v ((HI.out.rd.kept p.b (by omega)).le (by have := p.b.size; omega)) HI.out.cap hf)
    rw [hc1, ← hcnt] at HCt
    have hw : IntKind.i64.wrap ((cnt mx : Int) + (nn : Int)) = (cnt mx : Int) + (nn : Int) := by rw [IntKind.wrap_i64]; omega
    obtain ⟨nc, hnc⟩ : ∃ q, cnt mx = q := ⟨_, rfl⟩
    rw [hnc] at HCx HCt hw
    have hcs : ((nc + nn : Nat) : Int) = (nc : Int) + (nn : Int) := by omega
    rw [hcs] at HCt
    clear hnc hcnt hc1 hc2 hcs
    have GX := Grown.cell cx0 zcx
    have GT := Grown.cell ct0 zct
    go_wp2
    (refine wp_region_grown (by kernel_rfl) (by kernel_rfl) ?_; intro hne9; (repeat (go_big_quiet_step (first | (go_at_call 23; exact grown_of _ (HT.out _)) | (go_at_call 22; first | (with_reducible exact grown_of _ (HCx.out _)) | (with_reducible exact grown_of _ (HCt.out _)))))); (with_reducible refine wpQuiet_nil ?_); intro _ hw9; obtain ⟨pq, hw8⟩ := hw9; subst hw8)
    obtain ⟨g1, hg1⟩ : ∃ W, pq.v = W := ⟨_, rfl⟩
    have hb := pq.b
    rw [hg1] at hb ⊢
    clear GX GT HT HCx HCt hw
    replace HI := hide (HI.out.step (Stp.of (lo := 0) (hi := 0) hb) (.inl (Nat.zero_le _)))
    replace HX := hide (HX.out.step (Stp.of (lo := 0) (hi := 0) hb) (.inl (Nat.zero_le _)))
    replace ct0 : g1.cell? ⟨v0.heap.size, 0, none⟩ = some (.slice ot n ct) := (hb.cell (p := ⟨v0.heap.size, 0, none⟩) zct).trans ct0
    replace zct : v0.heap.size < g1.heap.size := Nat.lt_of_lt_of_le zct hb.size
    replace cx0 : g1.cell? ⟨v1.heap.size, 0, none⟩ = some (.slice ox nx cx) := (hb.cell (p := ⟨v1.heap.size, 0, none⟩) zcx).trans cx0
    replace zcx : v1.heap.size < g1.heap.size := Nat.lt_of_lt_of_le zcx hb.size
    replace HB := hide (HB.out.trans (hb.mono HB.out.size))
    clear hb
    clear hg1 pq
    go_wp2_with fail
    refine (implFlowsOf_sh (tab (.slice ot n ct)) m g1 (HI.out.rd.le (by omega)) hf).mono ?_
    rintro e v2 ⟨vf, rfl, hfs, hb⟩
    replace HI := hide (HI.out.step (Stp.of (lo := 0) (hi := 0) hb) (.inl (Nat.zero_le _)))
    replace HX := hide (HX.out.step (Stp.of (lo := 0) (hi := 0) hb) (.inl (Nat.zero_le _)))
    obtain ⟨o3, c3, hve, _⟩ := hfs.rd
    subst hve
    have HF := hide hfs
    clear hfs
    replace ct0 : v2.cell? ⟨v0.heap.size, 0, none⟩ = some (.slice ot n ct) := (hb.cell (p := ⟨v0.heap.size, 0, none⟩) zct).trans ct0
    replace zct : v0.heap.size < v2.heap.size := Nat.lt_of_lt_of_le zct hb.size
    replace cx0 : v2.cell? ⟨v1.heap.size, 0, none⟩ = some (.slice ox nx cx) := (hb.cell (p := ⟨v1.heap.size, 0, none⟩) zcx).trans cx0
    replace zcx : v1.heap.size < v2.heap.size := Nat.lt_of_lt_of_le zcx hb.size
    replace HB := hide (HB.out.trans (hb.mono HB.out.size))
    clear hb
    have h16 := flowsM_len m
    skip
    have HG1 := hide (fun xa xp W h => implGet_sh (tab (.slice ot n ct)) m xa xp W h hf)
    have HG2 := hide (fun xa xp W h => implGet_sh (tab (.slice ox nx cx)) mx xa xp W h (by omega))
    have HEl := HEx
    unfold expOk at HEl
    generalize hfsn : flowsM m = fs at *
    obtain ⟨nf, hnf⟩ : ∃ n, fs.length = n := ⟨_, rfl⟩
    have HNF := hide hnf
    simp only [hnf]
    rw [hnf] at h16
    clear hnf hfsn HEx
    go_wp2
    go_loopw [8] (fun iv wr => ∃ i : Nat, iv = .int .i64 i ∧ i ≤ nf ∧ Hid (Below v2.heap.size v2 wr)) (fun iv _ => nf - (intOf iv).toNat)
    case atStart => exact ⟨0, rfl, Nat.zero_le _, Below.refl _ _⟩
    case round =>
      obtain ⟨i, rfl, hi, HBr⟩ := hrel
      have hsr := HBr.out.size
      by_cases hin : i < nf
      · have hin' : (i : Int) < (nf : Int) := by omega
        have hfl : i < fs.length := by have := HNF.out; omega
        obtain ⟨g, rfl, _, hgw⟩ : ∃ g, o3 = some ⟨g, 0, none⟩ ∧ fs.length ≤ c3 ∧ g < v2.heap.size := by
          rcases own_some HF.out.1 with ⟨_, h, _⟩ | h
          · rw [h] at hfl; simp at hfl
          · exact h
        have r1 := rd_rowF HF.out.1 i hfl
        have hel := HEl.out i hfl
        obtain ⟨⟨xa, xp⟩, hx⟩ : ∃ z, fs.getD i (0, 0) = z := ⟨_, rfl⟩
        rw [hx] at r1 hel
        simp only at r1 hel
        clear hx
        have ax0 : wr.cell? ⟨v0.heap.size, 0, none⟩ = some (.slice ot n ct) := (HBr.out.cell (p := ⟨v0.heap.size, 0, none⟩) zct).trans ct0
        have ay0 : wr.cell? ⟨v1.heap.size, 0, none⟩ = some (.slice ox nx cx) := (HBr.out.cell (p := ⟨v1.heap.size, 0, none⟩) zcx).trans cx0
        have ag0 : wr.cell? ⟨g, i * 2, none⟩ = some (.int .i64 xa) := (HBr.out.cell (p := ⟨g, i * 2, none⟩) hgw).trans r1.1
        have ag1 : wr.cell? ⟨g, i * 2 + 1, none⟩ = some (.int .i64 xp) := (HBr.out.cell (p := ⟨g, i * 2 + 1, none⟩) hgw).trans r1.2
        clear ct0 cx0 r1
        have kx : v0.heap.size < wr.heap.size := by omega
        have ky : v1.heap.size < wr.heap.size := by omega
        have kg : g < wr.heap.size := by omega
        have HRw1 : Hid (RdT v2.heap.size wr (tab (.slice ot n ct)) m) := (HI.out.rd.le (by omega)).kept HBr.out (Nat.le_refl _)
        have HRw2 : Hid (RdT v2.heap.size wr (tab (.slice ox nx cx)) mx) := (HX.out.rd.le (by omega)).kept HBr.out (Nat.le_refl _)
        obtain ⟨q1, hq1⟩ : ∃ q, getM m xa xp = q := ⟨_, rfl⟩
        obtain ⟨q2, hq2⟩ : ∃ q, getM mx xa xp = q := ⟨_, rfl⟩
        obtain ⟨t1, ht1⟩ : ∃ q, gotB m xa xp = q := ⟨_, rfl⟩
        obtain ⟨t2, ht2⟩ : ∃ q, gotB mx xa xp = q := ⟨_, rfl⟩
        have HC1 := hide (HG1.out xa xp)
        have HC2 := hide (HG2.out xa xp)
        rw [hq1, ht1] at HC1
        rw [hq2, ht2] at HC2
        rw [hq1, hq2, ht2] at hel
        have HE1 := hide hel
        clear hel hq1 hq2 ht1 ht2 HG1 HG2
        go_upto_region 11 with fail
        go_cut [9, 10] from 58 to 95 (fun s9 s10 wx => ∃ B, s9 = .pointer (some ⟨B, 0, none⟩) ∧ s10 = .bool t1 ∧ Hid (wx.heap[B]? = some (.cells (slotCells q1) 35 (0, 0))) ∧ Hid (Below wr.heap.size wr wx) ∧ wr.heap.size ≤ B ∧ B < wx.heap.size)
        case first =>
          go_region_held3 (fun w' => w'.cell? ⟨v0.heap.size, 0, none⟩ = some (.slice ot n ct) ∧ w'.cell? ⟨v1.heap.size, 0, none⟩ = some (.slice ox nx cx) ∧ w'.cell? ⟨g, i * 2, none⟩ = some (.int .i64 xa) ∧ w'.cell? ⟨g, i * 2 + 1, none⟩ = some (.int .i64 xp)) (first | with_reducible exact ⟨k0_0, k0_1, k0_2, k0_3⟩ | with_reducible exact ⟨ax0, ay0, ag0, ag1⟩ | with_reducible exact ⟨set5_cell q1 k0_0 kx, set5_cell q1 k0_1 ky, set5_cell q1 k0_2 kg, set5_cell q1 k0_3 kg⟩ | go_keep) (first | (go_at_call 21; have hpre : Below wr.heap.size wr wr.drew := (Below.drew (Below.refl _ _)); have hc_ := HC1.out wr.drew ((HRw1.out.kept hpre (by omega)).le (by have := hpre.size; omega)); (with_reducible refine hc_.mono ?_); clear hc_; rintro e x0 ⟨rfl, hb⟩; have hx0 : Below wr.heap.size wr x0 := hpre.trans (hb.mono hpre.size); have sp0 : wr.heap.size ≤ x0.heap.size := hx0.size; have k0_0 := (hx0.cell (p := ⟨v0.heap.size, 0, none⟩) kx).trans ax0; have k0_1 := (hx0.cell (p := ⟨v1.heap.size, 0, none⟩) ky).trans ay0; have k0_2 := (hx0.cell (p := ⟨g, i * 2, none⟩) kg).trans ag0; have k0_3 := (hx0.cell (p := ⟨g, i * 2 + 1, none⟩) kg).trans ag1; clear hb) | (go_at_call 21; have hpre : Below wr.heap.size wr (wr.alloc (.cells #[.bool false, .int .i64 0, .int .i64 0, .int .i64 0, .int .i64 0] 35)).drew := (Below.drew ((Below.refl _ _).alloc (Nat.le_refl _) _)); have hc_ := HC1.out (wr.alloc (.cells #[.bool false, .int .i64 0, .int .i64 0, .int .i64 0, .int .i64 0] 35)).drew ((HRw1.out.kept hpre (by omega)).le (by have := hpre.size; omega)); (with_reducible refine hc_.mono ?_); clear hc_; rintro e x0 ⟨rfl, hb⟩; have hx0 : Below wr.heap.size wr x0 := hpre.trans (hb.mono hpre.size); have sp0 : wr.heap.size ≤ x0.heap.size := hx0.size; have k0_0 := (hx0.cell (p := ⟨v0.heap.size, 0, none⟩) kx).trans ax0; have k0_1 := (hx0.cell (p := ⟨v1.heap.size, 0, none⟩) ky).trans ay0; have k0_2 := (hx0.cell (p := ⟨g, i * 2, none⟩) kg).trans ag0; have k0_3 := (hx0.cell (p := ⟨g, i * 2 + 1, none⟩) kg).trans ag1; have hZ0 : x0.heap[wr.heap.size]? = some (.cells (slotCells sl0) 35 (0, 0)) := zero_slot (box_new0 hb); have hzl0 := (Array.getElem?_eq_some_iff.1 hZ0).1; have hzc0 : x0.cell? ⟨wr.heap.size, 0, none⟩ = some (.bool false) := block_cell1 hZ0 0 _ rfl; have hzf0 := frozen_of hZ0 0; have hzc1 : x0.cell? ⟨wr.heap.size, 1, none⟩ = some (.int .i64 0) := block_cell1 hZ0 1 _ rfl; have hzf1 := frozen_of hZ0 1; have hzc2 : x0.cell? ⟨wr.heap.size, 2, none⟩ = some (.int .i64 0) := block_cell1 hZ0 2 _ rfl; have hzf2 := frozen_of hZ0 2; have hzc3 : x0.cell? ⟨wr.heap.size, 3, none⟩ = some (.int .i64 0) := block_cell1 hZ0 3 _ rfl; have hzf3 := frozen_of hZ0 3; have hzc4 : x0.cell? ⟨wr.heap.size, 4, none⟩ = some (.int .i64 0) := block_cell1 hZ0 4 _ rfl; have hzf4 := frozen_of hZ0 4; clear hb) | fail)
          all_goals (go_wp2_with fail; go_meet)
          all_goals first
            | with_reducible exact fin5 q1 t1 hZ0 hx0 (Nat.le_refl _)
            | with_reducible exact fin5n q1 t1 hx0
        case rest =>
        obtain ⟨B1, rfl, rfl, HXB1, HBlB1, h1B1, h2B1⟩ := hcut
        obtain ⟨d1, hwc⟩ : ∃ W, W = wc := ⟨_, rfl⟩
        subst hwc
        have hsd1 := HBlB1.out.size
        replace ax0 : d1.cell? ⟨v0.heap.size, 0, none⟩ = some (.slice ot n ct) := (HBlB1.out.cell (p := ⟨v0.heap.size, 0, none⟩) kx).trans ax0
        replace ay0 : d1.cell? ⟨v1.heap.size, 0, none⟩ = some (.slice ox nx cx) := (HBlB1.out.cell (p := ⟨v1.heap.size, 0, none⟩) ky).trans ay0
        replace ag0 : d1.cell? ⟨g, i * 2, none⟩ = some (.int .i64 xa) := (HBlB1.out.cell (p := ⟨g, i * 2, none⟩) kg).trans ag0
        replace ag1 : d1.cell? ⟨g, i * 2 + 1, none⟩ = some (.int .i64 xp) := (HBlB1.out.cell (p := ⟨g, i * 2 + 1, none⟩) kg).trans ag1
        replace kx : v0.heap.size < d1.heap.size := Nat.lt_of_lt_of_le kx hsd1
        replace ky : v1.heap.size < d1.heap.size := Nat.lt_of_lt_of_le ky hsd1
        replace kg : g < d1.heap.size := Nat.lt_of_lt_of_le kg hsd1
        have HRd2 : Hid (RdT v2.heap.size d1 (tab (.slice ox nx cx)) mx) := HRw2.out.kept HBlB1.out (by omega)
        go_upto_region 12 with fail
        go_cut [11, 12] from 58 to 95 (fun s11 s12 wx => ∃ B, s11 = .pointer (some ⟨B, 0, none⟩) ∧ s12 = .bool t2 ∧ Hid (wx.heap[B]? = some (.cells (slotCells q2) 35 (0, 0))) ∧ Hid (Below d1.heap.size d1 wx) ∧ d1.heap.size ≤ B ∧ B < wx.heap.size)
        case first =>
          go_region_held3 (fun w' => w'.cell? ⟨v0.heap.size, 0, none⟩ = some (.slice ot n ct) ∧ w'.cell? ⟨v1.heap.size, 0, none⟩ = some (.slice ox nx cx) ∧ w'.cell? ⟨g, i * 2, none⟩ = some (.int .i64 xa) ∧ w'.cell? ⟨g, i * 2 + 1, none⟩ = some (.int .i64 xp)) (first | with_reducible exact ⟨k0_0, k0_1, k0_2, k0_3⟩ | with_reducible exact ⟨ax0, ay0, ag0, ag1⟩ | with_reducible exact ⟨set5_cell q2 k0_0 kx, set5_cell q2 k0_1 ky, set5_cell q2 k0_2 kg, set5_cell q2 k0_3 kg⟩ | go_keep) (first | (go_at_call 21; have hpre : Below d1.heap.size d1 d1.drew := (Below.drew (Below.refl _ _)); have hc_ := HC2.out d1.drew ((HRd2.out.kept hpre (by omega)).le (by have := hpre.size; omega)); (with_reducible refine hc_.mono ?_); clear hc_; rintro e x0 ⟨rfl, hb⟩; have hx0 : Below d1.heap.size d1 x0 := hpre.trans (hb.mono hpre.size); have sp0 : d1.heap.size ≤ x0.heap.size := hx0.size; have k0_0 := (hx0.cell (p := ⟨v0.heap.size, 0, none⟩) kx).trans ax0; have k0_1 := (hx0.cell (p := ⟨v1.heap.size, 0, none⟩) ky).trans ay0; have k0_2 := (hx0.cell (p := ⟨g, i * 2, none⟩) kg).trans ag0; have k0_3 := (hx0.cell (p := ⟨g, i * 2 + 1, none⟩) kg).trans ag1; clear hb) | (go_at_call 21; have hpre : Below d1.heap.size d1 (d1.alloc (.cells #[.bool false, .int .i64 0, .int .i64 0, .int .i64 0, .int .i64 0] 35)).drew := (Below.drew ((Below.refl _ _).alloc (Nat.le_refl _) _)); have hc_ := HC2.out (d1.alloc (.cells #[.bool false, .int .i64 0, .int .i64 0, .int .i64 0, .int .i64 0] 35)).drew ((HRd2.out.kept hpre (by omega)).le (by have := hpre.size; omega)); (with_reducible refine hc_.mono ?_); clear hc_; rintro e x0 ⟨rfl, hb⟩; have hx0 : Below d1.heap.size d1 x0 := hpre.trans (hb.mono hpre.size); have sp0 : d1.heap.size ≤ x0.heap.size := hx0.size; have k0_0 := (hx0.cell (p := ⟨v0.heap.size, 0, none⟩) kx).trans ax0; have k0_1 := (hx0.cell (p := ⟨v1.heap.size, 0, none⟩) ky).trans ay0; have k0_2 := (hx0.cell (p := ⟨g, i * 2, none⟩) kg).trans ag0; have k0_3 := (hx0.cell (p := ⟨g, i * 2 + 1, none⟩) kg).trans ag1; have hZ0 : x0.heap[d1.heap.size]? = some (.cells (slotCells sl0) 35 (0, 0)) := zero_slot (box_new0 hb); have hzl0 := (Array.getElem?_eq_some_iff.1 hZ0).1; have hzc0 : x0.cell? ⟨d1.heap.size, 0, none⟩ = some (.bool false) := block_cell1 hZ0 0 _ rfl; have hzf0 := frozen_of hZ0 0; have hzc1 : x0.cell? ⟨d1.heap.size, 1, none⟩ = some (.int .i64 0) := block_cell1 hZ0 1 _ rfl; have hzf1 := frozen_of hZ0 1; have hzc2 : x0.cell? ⟨d1.heap.size, 2, none⟩ = some (.int .i64 0) := block_cell1 hZ0 2 _ rfl; have hzf2 := frozen_of hZ0 2; have hzc3 : x0.cell? ⟨d1.heap.size, 3, none⟩ = some (.int .i64 0) := block_cell1 hZ0 3 _ rfl; have hzf3 := frozen_of hZ0 3; have hzc4 : x0.cell? ⟨d1.heap.size, 4, none⟩ = some (.int .i64 0) := block_cell1 hZ0 4 _ rfl; have hzf4 := frozen_of hZ0 4; clear hb) | fail)
          all_goals (go_wp2_with fail; go_meet)
          all_goals first
            | with_reducible exact fin5 q2 t2 hZ0 hx0 (Nat.le_refl _)
            | with_reducible exact fin5n q2 t2 hx0
        case rest =>
        obtain ⟨B2, rfl, rfl, HXB2, HBlB2, h1B2, h2B2⟩ := hcut
        obtain ⟨d2, hwc⟩ : ∃ W, W = wc := ⟨_, rfl⟩
        subst hwc
        have hsd2 := HBlB2.out.size
        replace ax0 : d2.cell? ⟨v0.heap.size, 0, none⟩ = some (.slice ot n ct) := (HBlB2.out.cell (p := ⟨v0.heap.size, 0, none⟩) kx).trans ax0
        replace ay0 : d2.cell? ⟨v1.heap.size, 0, none⟩ = some (.slice ox nx cx) := (HBlB2.out.cell (p := ⟨v1.heap.size, 0, none⟩) ky).trans ay0
        replace ag0 : d2.cell? ⟨g, i * 2, none⟩ = some (.int .i64 xa) := (HBlB2.out.cell (p := ⟨g, i * 2, none⟩) kg).trans ag0
        replace ag1 : d2.cell? ⟨g, i * 2 + 1, none⟩ = some (.int .i64 xp) := (HBlB2.out.cell (p := ⟨g, i * 2 + 1, none⟩) kg).trans ag1
        replace kx : v0.heap.size < d2.heap.size := Nat.lt_of_lt_of_le kx hsd2
        replace ky : v1.heap.size < d2.heap.size := Nat.lt_of_lt_of_le ky hsd2
        replace kg : g < d2.heap.size := Nat.lt_of_lt_of_le kg hsd2
        have HY1 : Hid (d2.heap[B1]? = some (.cells (slotCells q1) 35 (0, 0))) := (HBlB2.out.block B1 h2B1).trans HXB1.out
        have zB1 : B1 < d2.heap.size := by omega
        have HBe := hide (HBr.out.trans ((HBlB1.out.trans (HBlB2.out.mono hsd1)).mono hsr))
        have s00 : d2.cell? ⟨B1, 0, none⟩ = some (.bool q1.u) := block_cell1 HY1.out 0 _ rfl
        have s01 : d2.cell? ⟨B1, 1, none⟩ = some (.int .i64 q1.a) := block_cell1 HY1.out 1 _ rfl
        have s02 : d2.cell? ⟨B1, 2, none⟩ = some (.int .i64 q1.p) := block_cell1 HY1.out 2 _ rfl
        have s03 : d2.cell? ⟨B1, 3, none⟩ = some (.int .i64 q1.v) := block_cell1 HY1.out 3 _ rfl
        have s04 : d2.cell? ⟨B1, 4, none⟩ = some (.int .i64 q1.t) := block_cell1 HY1.out 4 _ rfl
        have s10 : d2.cell? ⟨B2, 0, none⟩ = some (.bool q2.u) := block_cell1 HXB2.out 0 _ rfl
        have s11 : d2.cell? ⟨B2, 1, none⟩ = some (.int .i64 q2.a) := block_cell1 HXB2.out 1 _ rfl
        have s12 : d2.cell? ⟨B2, 2, none⟩ = some (.int .i64 q2.p) := block_cell1 HXB2.out 2 _ rfl
        have s13 : d2.cell? ⟨B2, 3, none⟩ = some (.int .i64 q2.v) := block_cell1 HXB2.out 3 _ rfl
        have s14 : d2.cell? ⟨B2, 4, none⟩ = some (.int .i64 q2.t) := block_cell1 HXB2.out 4 _ rfl
        clear ax0 ay0 ag0 ag1
        obtain ⟨e1, e2⟩ := HE1.out
        clear HE1 HC1 HC2 HRw1 HRw2 HRd2 HXB1 HBlB1 HBlB2
        by_cases hlt : now < q1.t
        · obtain rfl := e2 hlt
          rw [decide_eq_true hlt] at e1
          subst e1
          have hgt : q2.t > now := hlt
          clear e2
          go_wp2
          go_roundw
          case rel => exact ⟨i + 1, by go_num, hin, HBe.out⟩
          case measure => simp [intOf]; omega
        · rw [decide_eq_false hlt] at e1
          subst e1
          have hgt : ¬ (q1.t > now) := hlt
          clear e2
          go_wp2
          go_roundw
          case rel => exact ⟨i + 1, by go_num, hin, HBe.out⟩
          case measure => simp [intOf]; omega
      · have hin' : ¬ ((i : Int) < (nf : Int)) := by omega
        clear HG1 HEl HF
        have hb := HBr.out
        replace HI := hide (HI.out.step (Stp.of (lo := 0) (hi := 0) hb) (.inl (Nat.zero_le _)))
        replace HX := hide (HX.out.step (Stp.of (lo := 0) (hi := 0) hb) (.inl (Nat.zero_le _)))
        replace ct0 : wr.cell? ⟨v0.heap.size, 0, none⟩ = some (.slice ot n ct) := (hb.cell (p := ⟨v0.heap.size, 0, none⟩) zct).trans ct0
        replace zct : v0.heap.size < wr.heap.size := Nat.lt_of_lt_of_le zct hb.size
        replace cx0 : wr.cell? ⟨v1.heap.size, 0, none⟩ = some (.slice ox nx cx) := (hb.cell (p := ⟨v1.heap.size, 0, none⟩) zcx).trans cx0
        replace zcx : v1.heap.size < wr.heap.size := Nat.lt_of_lt_of_le zcx hb.size
        replace HB := hide (HB.out.trans (hb.mono HB.out.size))
        clear hb
        clear HBr
        have hsu := HSU.out
        obtain ⟨so, hso⟩ : ∃ q, soonM mx = q := ⟨_, rfl⟩
        rw [hso] at hsu HST
        have HS1 := hide (implSoonest_sh (tab (.slice ox nx cx)) mx wr (HX.out.rd.le (by omega)) (by omega))
        rw [hso] at HS1
        have HSU2 := hide hsu
        clear hsu hso HSU
        go_wp2_with fail
        refine (HS1.out).mono ?_
        rintro e v3 ⟨rfl, hb⟩
        replace HI := hide (HI.out.step (Stp.of (lo := 0) (hi := 0) hb) (.inl (Nat.zero_le _)))
        replace HX := hide (HX.out.step (Stp.of (lo := 0) (hi := 0) hb) (.inl (Nat.zero_le _)))
        clear hin' hin hi
        replace ct0 : v3.cell? ⟨v0.heap.size, 0, none⟩ = some (.slice ot n ct) := (hb.cell (p := ⟨v0.heap.size, 0, none⟩) zct).trans ct0
        replace zct : v0.heap.size < v3.heap.size := Nat.lt_of_lt_of_le zct hb.size
        replace cx0 : v3.cell? ⟨v1.heap.size, 0, none⟩ = some (.slice ox nx cx) := (hb.cell (p := ⟨v1.heap.size, 0, none⟩) zcx).trans cx0
        replace zcx : v1.heap.size < v3.heap.size := Nat.lt_of_lt_of_le zcx hb.size
        replace HB := hide (HB.out.trans (hb.mono HB.out.size))
        clear hb
        obtain ⟨W8, hW8⟩ : ∃ W, (v3.alloc (.cells #[.bool so.u, .int .i64 so.a, .int .i64 so.p, .int .i64 so.v, .int .i64 so.t] 35)) = W := ⟨_, rfl⟩
        have hb_W8 : Below v3.heap.size v3 W8 := by rw [← hW8]; exact ((Below.refl _ _).alloc (Nat.le_refl _) _)
        replace ct0 : W8.cell? ⟨v0.heap.size, 0, none⟩ = some (.slice ot n ct) := (hb_W8.cell (p := ⟨v0.heap.size, 0, none⟩) zct).trans ct0
        replace zct : v0.heap.size < W8.heap.size := Nat.lt_of_lt_of_le zct hb_W8.size
        replace cx0 : W8.cell? ⟨v1.heap.size, 0, none⟩ = some (.slice ox nx cx) := (hb_W8.cell (p := ⟨v1.heap.size, 0, none⟩) zcx).trans cx0
        replace zcx : v1.heap.size < W8.heap.size := Nat.lt_of_lt_of_le zcx hb_W8.size
        replace HB := hide (HB.out.trans (hb_W8.mono HB.out.size))
        have HIn := hide (HI.out.step (Stp.of (lo := 0) (hi := 0) hb_W8) (.inl (Nat.zero_le _)))
        have HXn := hide (HX.out.step (Stp.of (lo := 0) (hi := 0) hb_W8) (.inl (Nat.zero_le _)))
        clear HI
        have HI := HIn
        clear HIn
        clear HX
        have HX := HXn
        clear HXn
        clear hb_W8
        have zcs : v3.heap.size < W8.heap.size := by rw [← hW8]; simp
        have cs0 : W8.cell? ⟨v3.heap.size, 0, none⟩ = some (.bool so.u) := by rw [← hW8]; simp [go_sem]
        have cs1 : W8.cell? ⟨v3.heap.size, 1, none⟩ = some (.int .i64 so.a) := by rw [← hW8]; simp [go_sem]
        have cs2 : W8.cell? ⟨v3.heap.size, 2, none⟩ = some (.int .i64 so.p) := by rw [← hW8]; simp [go_sem]
        have cs3 : W8.cell? ⟨v3.heap.size, 3, none⟩ = some (.int .i64 so.v) := by rw [← hW8]; simp [go_sem]
        have cs4 : W8.cell? ⟨v3.heap.size, 4, none⟩ = some (.int .i64 so.t) := by rw [← hW8]; simp [go_sem]
        go_wp2_with fail
        refine (implFlowsOf_sh (tab (.slice ox nx cx)) mx W8 (HX.out.rd.le (by omega)) (by omega)).mono ?_
        rintro e v4 ⟨vf, rfl, hfs, hb⟩
        replace HI := hide (HI.out.step (Stp.of (lo := 0) (hi := 0) hb) (.inl (Nat.zero_le _)))
        replace HX := hide (HX.out.step (Stp.of (lo := 0) (hi := 0) hb) (.inl (Nat.zero_le _)))
        obtain ⟨o4, c4, hve, _⟩ := hfs.rd
        subst hve
        have HF := hide hfs
        clear hfs
        replace ct0 : v4.cell? ⟨v0.heap.size, 0, none⟩ = some (.slice ot n ct) := (hb.cell (p := ⟨v0.heap.size, 0, none⟩) zct).trans ct0
        replace zct : v0.heap.size < v4.heap.size := Nat.lt_of_lt_of_le zct hb.size
        replace cx0 : v4.cell? ⟨v1.heap.size, 0, none⟩ = some (.slice ox nx cx) := (hb.cell (p := ⟨v1.heap.size, 0, none⟩) zcx).trans cx0
        replace zcx : v1.heap.size < v4.heap.size := Nat.lt_of_lt_of_le zcx hb.size
        replace cs0 : v4.cell? ⟨v3.heap.size, 0, none⟩ = some (.bool so.u) := (hb.cell (p := ⟨v3.heap.size, 0, none⟩) zcs).trans cs0
        replace cs1 : v4.cell? ⟨v3.heap.size, 1, none⟩ = some (.int .i64 so.a) := (hb.cell (p := ⟨v3.heap.size, 1, none⟩) zcs).trans cs1
        replace cs2 : v4.cell? ⟨v3.heap.size, 2, none⟩ = some (.int .i64 so.p) := (hb.cell (p := ⟨v3.heap.size, 2, none⟩) zcs).trans cs2
        replace cs3 : v4.cell? ⟨v3.heap.size, 3, none⟩ = some (.int .i64 so.v) := (hb.cell (p := ⟨v3.heap.size, 3, none⟩) zcs).trans cs3
        replace cs4 : v4.cell? ⟨v3.heap.size, 4, none⟩ = some (.int .i64 so.t) := (hb.cell (p := ⟨v3.heap.size, 4, none⟩) zcs).trans cs4
        replace zcs : v3.heap.size < v4.heap.size := Nat.lt_of_lt_of_le zcs hb.size
        replace HB := hide (HB.out.trans (hb.mono HB.out.size))
        clear hb
        have h17 := flowsM_len mx
        generalize hfsn : flowsM mx = ms at *
        obtain ⟨nm, hnm⟩ : ∃ n, ms.length = n := ⟨_, rfl⟩
        have HNM := hide hnm
        simp only [hnm]
        rw [hnm] at h17 HSU2
        clear hnm hfsn HS1
        have hsu := HSU2.out
        go_wp2
        go_loopw [16] (fun iv wr => ∃ i : Nat, iv = .int .i64 i ∧ i ≤ nm ∧ Hid (Below v4.heap.size v4 wr)) (fun iv _ => nm - (intOf iv).toNat)
        case atStart => exact ⟨0, rfl, Nat.zero_le _, Below.refl _ _⟩
        case round =>
          obtain ⟨i2, rfl, hi, HBr⟩ := hrel
          skip
          have hsr := HBr.out.size
          by_cases hin : i2 < nm
          · have hin' : (i2 : Int) < (nm : Int) := by omega
            have hfl : i2 < ms.length := by have := HNM.out; omega
            obtain ⟨g, rfl, _, hgw⟩ : ∃ g, o4 = some ⟨g, 0, none⟩ ∧ ms.length ≤ c4 ∧ g < v4.heap.size := by
              rcases own_some HF.out.1 with ⟨_, h, _⟩ | h
              · rw [h] at hfl; simp at hfl
              · exact h
            have r1 := rd_rowF HF.out.1 i2 hfl
            have hel := HST.out i2 hfl
            obtain ⟨⟨xa, xp⟩, hx⟩ : ∃ z, ms.getD i2 (0, 0) = z := ⟨_, rfl⟩
            rw [hx] at r1 hel
            simp only at r1 hel
            clear hx
            skip
            have ay0 : wr.cell? ⟨v1.heap.size, 0, none⟩ = some (.slice ox nx cx) := (HBr.out.cell (p := ⟨v1.heap.size, 0, none⟩) zcx).trans cx0
            have as3 : wr.cell? ⟨v3.heap.size, 4, none⟩ = some (.int .i64 so.t) := (HBr.out.cell (p := ⟨v3.heap.size, 4, none⟩) zcs).trans cs4
            have ag0 : wr.cell? ⟨g, i2 * 2, none⟩ = some (.int .i64 xa) := (HBr.out.cell (p := ⟨g, i2 * 2, none⟩) hgw).trans r1.1
            have ag1 : wr.cell? ⟨g, i2 * 2 + 1, none⟩ = some (.int .i64 xp) := (HBr.out.cell (p := ⟨g, i2 * 2 + 1, none⟩) hgw).trans r1.2
            have ky : v1.heap.size < wr.heap.size := by omega
            have ks : v3.heap.size < wr.heap.size := by omega
            have kg : g < wr.heap.size := by omega
            have HRw2 : Hid (RdT v4.heap.size wr (tab (.slice ox nx cx)) mx) := (HX.out.rd.le (by omega)).kept HBr.out (Nat.le_refl _)
            obtain ⟨q2, hq2⟩ : ∃ q, getM mx xa xp = q := ⟨_, rfl⟩
            obtain ⟨t2, ht2⟩ : ∃ q, gotB mx xa xp = q := ⟨_, rfl⟩
            have HC2 := hide (HG2.out xa xp)
            rw [hq2, ht2] at HC2
            rw [hq2] at hel
            have HE1 := hide hel
            have hpos : 0 < nm := by omega
            have hu : so.u = true := by rw [hsu]; exact decide_eq_true hpos
            have HU := hide hu
            clear hel hq2 ht2 HG2 hsu hu hpos r1 ct0 cx0 cs0 cs1 cs2 cs3 cs4
            go_upto_region 20 with fail
            go_cut [17, 18] from 103 to 126 (fun s17 s18 wx => ∃ B, s17 = .pointer (some ⟨B, 0, none⟩) ∧ s18 = .bool t2 ∧ Hid (wx.heap[B]? = some (.cells (slotCells q2) 35 (0, 0))) ∧ Hid (Below wr.heap.size wr wx) ∧ wr.heap.size ≤ B ∧ B < wx.heap.size)
            case first =>
              go_region_held3 (fun w' => w'.cell? ⟨v1.heap.size, 0, none⟩ = some (.slice ox nx cx) ∧ w'.cell? ⟨v3.heap.size, 4, none⟩ = some (.int .i64 so.t) ∧ w'.cell? ⟨g, i2 * 2, none⟩ = some (.int .i64 xa) ∧ w'.cell? ⟨g, i2 * 2 + 1, none⟩ = some (.int .i64 xp)) (first | with_reducible exact ⟨k0_0, k0_1, k0_2, k0_3⟩ | with_reducible exact ⟨ay0, as3, ag0, ag1⟩ | with_reducible exact ⟨set5_cell q2 k0_0 ky, set5_cell q2 k0_1 ks, set5_cell q2 k0_2 kg, set5_cell q2 k0_3 kg⟩ | go_keep) (first | (go_at_call 21; have hpre : Below wr.heap.size wr wr.drew := (Below.drew (Below.refl _ _)); have hc_ := HC2.out wr.drew ((HRw2.out.kept hpre (by omega)).le (by have := hpre.size; omega)); (with_reducible refine hc_.mono ?_); clear hc_; rintro e x0 ⟨rfl, hb⟩; have hx0 : Below wr.heap.size wr x0 := hpre.trans (hb.mono hpre.size); have sp0 : wr.heap.size ≤ x0.heap.size := hx0.size; have k0_0 := (hx0.cell (p := ⟨v1.heap.size, 0, none⟩) ky).trans ay0; have k0_1 := (hx0.cell (p := ⟨v3.heap.size, 4, none⟩) ks).trans as3; have k0_2 := (hx0.cell (p := ⟨g, i2 * 2, none⟩) kg).trans ag0; have k0_3 := (hx0.cell (p := ⟨g, i2 * 2 + 1, none⟩) kg).trans ag1; clear hb) | (go_at_call 21; have hpre : Below wr.heap.size wr (wr.alloc (.cells #[.bool false, .int .i64 0, .int .i64 0, .int .i64 0, .int .i64 0] 35)).drew := (Below.drew ((Below.refl _ _).alloc (Nat.le_refl _) _)); have hc_ := HC2.out (wr.alloc (.cells #[.bool false, .int .i64 0, .int .i64 0, .int .i64 0, .int .i64 0] 35)).drew ((HRw2.out.kept hpre (by omega)).le (by have := hpre.size; omega)); (with_reducible refine hc_.mono ?_); clear hc_; rintro e x0 ⟨rfl, hb⟩; have hx0 : Below wr.heap.size wr x0 := hpre.trans (hb.mono hpre.size); have sp0 : wr.heap.size ≤ x0.heap.size := hx0.size; have k0_0 := (hx0.cell (p := ⟨v1.heap.size, 0, none⟩) ky).trans ay0; have k0_1 := (hx0.cell (p := ⟨v3.heap.size, 4, none⟩) ks).trans as3; have k0_2 := (hx0.cell (p := ⟨g, i2 * 2, none⟩) kg).trans ag0; have k0_3 := (hx0.cell (p := ⟨g, i2 * 2 + 1, none⟩) kg).trans ag1; have hZ0 : x0.heap[wr.heap.size]? = some (.cells (slotCells sl0) 35 (0, 0)) := zero_slot (box_new0 hb); have hzl0 := (Array.getElem?_eq_some_iff.1 hZ0).1; have hzc0 : x0.cell? ⟨wr.heap.size, 0, none⟩ = some (.bool false) := block_cell1 hZ0 0 _ rfl; have hzf0 := frozen_of hZ0 0; have hzc1 : x0.cell? ⟨wr.heap.size, 1, none⟩ = some (.int .i64 0) := block_cell1 hZ0 1 _ rfl; have hzf1 := frozen_of hZ0 1; have hzc2 : x0.cell? ⟨wr.heap.size, 2, none⟩ = some (.int .i64 0) := block_cell1 hZ0 2 _ rfl; have hzf2 := frozen_of hZ0 2; have hzc3 : x0.cell? ⟨wr.heap.size, 3, none⟩ = some (.int .i64 0) := block_cell1 hZ0 3 _ rfl; have hzf3 := frozen_of hZ0 3; have hzc4 : x0.cell? ⟨wr.heap.size, 4, none⟩ = some (.int .i64 0) := block_cell1 hZ0 4 _ rfl; have hzf4 := frozen_of hZ0 4; clear hb) | fail)
              all_goals (go_wp2_with fail; go_meet)
              all_goals first
                | with_reducible exact fin5 q2 t2 hZ0 hx0 (Nat.le_refl _)
                | with_reducible exact fin5n q2 t2 hx0
            case rest =>
            obtain ⟨B1, rfl, rfl, HXB1, HBlB1, h1B1, h2B1⟩ := hcut
            obtain ⟨d1, hwc⟩ : ∃ W, W = wc := ⟨_, rfl⟩
            subst hwc
            have hsd1 := HBlB1.out.size
            replace ay0 : d1.cell? ⟨v1.heap.size, 0, none⟩ = some (.slice ox nx cx) := (HBlB1.out.cell (p := ⟨v1.heap.size, 0, none⟩) ky).trans ay0
            replace as3 : d1.cell? ⟨v3.heap.size, 4, none⟩ = some (.int .i64 so.t) := (HBlB1.out.cell (p := ⟨v3.heap.size, 4, none⟩) ks).trans as3
            replace ag0 : d1.cell? ⟨g, i2 * 2, none⟩ = some (.int .i64 xa) := (HBlB1.out.cell (p := ⟨g, i2 * 2, none⟩) kg).trans ag0
            replace ag1 : d1.cell? ⟨g, i2 * 2 + 1, none⟩ = some (.int .i64 xp) := (HBlB1.out.cell (p := ⟨g, i2 * 2 + 1, none⟩) kg).trans ag1
            replace ky : v1.heap.size < d1.heap.size := Nat.lt_of_lt_of_le ky hsd1
            replace ks : v3.heap.size < d1.heap.size := Nat.lt_of_lt_of_le ks hsd1
            replace kg : g < d1.heap.size := Nat.lt_of_lt_of_le kg hsd1
            have s4 : d1.cell? ⟨B1, 4, none⟩ = some (.int .i64 q2.t) := block_cell1 HXB1.out 4 _ rfl
            have HBe := hide (HBr.out.trans (HBlB1.out.mono hsr))
            have hgt : ¬ (so.t > q2.t) := by have := HE1.out; omega
            have hu := HU.out
            clear ay0 ag0 ag1 HE1 HC2 HRw2 HBlB1
            go_wp2
            go_roundw
            case rel => exact ⟨i2 + 1, by go_num, hin, HBe.out⟩
            case measure => simp [intOf]; omega
          · have hin' : ¬ ((i2 : Int) < (nm : Int)) := by omega
            have hb := HBr.out
            clear HF
            replace ct0 : wr.cell? ⟨v0.heap.size, 0, none⟩ = some (.slice ot n ct) := (hb.cell (p := ⟨v0.heap.size, 0, none⟩) zct).trans ct0
            replace zct : v0.heap.size < wr.heap.size := Nat.lt_of_lt_of_le zct hb.size
            replace cx0 : wr.cell? ⟨v1.heap.size, 0, none⟩ = some (.slice ox nx cx) := (hb.cell (p := ⟨v1.heap.size, 0, none⟩) zcx).trans cx0
            replace zcx : v1.heap.size < wr.heap.size := Nat.lt_of_lt_of_le zcx hb.size
            replace cs0 : wr.cell? ⟨v3.heap.size, 0, none⟩ = some (.bool so.u) := (hb.cell (p := ⟨v3.heap.size, 0, none⟩) zcs).trans cs0
            replace cs1 : wr.cell? ⟨v3.heap.size, 1, none⟩ = some (.int .i64 so.a) := (hb.cell (p := ⟨v3.heap.size, 1, none⟩) zcs).trans cs1
            replace cs2 : wr.cell? ⟨v3.heap.size, 2, none⟩ = some (.int .i64 so.p) := (hb.cell (p := ⟨v3.heap.size, 2, none⟩) zcs).trans cs2
            replace cs3 : wr.cell? ⟨v3.heap.size, 3, none⟩ = some (.int .i64 so.v) := (hb.cell (p := ⟨v3.heap.size, 3, none⟩) zcs).trans cs3
            replace cs4 : wr.cell? ⟨v3.heap.size, 4, none⟩ = some (.int .i64 so.t) := (hb.cell (p := ⟨v3.heap.size, 4, none⟩) zcs).trans cs4
            replace zcs : v3.heap.size < wr.heap.size := Nat.lt_of_lt_of_le zcs hb.size
            replace HB := hide (HB.out.trans (hb.mono HB.out.size))
            clear hb
            clear HBr
            by_cases hp : 0 < nm
            · have hp2 : (nm : Int) > 0 := by omega
              have hu : so.u = true := by rw [hsu]; exact decide_eq_true hp
              clear hsu hp
              go_wp2_with fail
              refine (tables_any wr).mono ?_
              rintro e v5 ⟨rfl, hb⟩
              replace ct0 : v5.cell? ⟨v0.heap.size, 0, none⟩ = some (.slice ot n ct) := (hb.cell (p := ⟨v0.heap.size, 0, none⟩) zct).trans ct0
              replace zct : v0.heap.size < v5.heap.size := Nat.lt_of_lt_of_le zct hb.size
              replace cx0 : v5.cell? ⟨v1.heap.size, 0, none⟩ = some (.slice ox nx cx) := (hb.cell (p := ⟨v1.heap.size, 0, none⟩) zcx).trans cx0
              replace zcx : v1.heap.size < v5.heap.size := Nat.lt_of_lt_of_le zcx hb.size
              replace cs0 : v5.cell? ⟨v3.heap.size, 0, none⟩ = some (.bool so.u) := (hb.cell (p := ⟨v3.heap.size, 0, none⟩) zcs).trans cs0
              replace cs1 : v5.cell? ⟨v3.heap.size, 1, none⟩ = some (.int .i64 so.a) := (hb.cell (p := ⟨v3.heap.size, 1, none⟩) zcs).trans cs1
              replace cs2 : v5.cell? ⟨v3.heap.size, 2, none⟩ = some (.int .i64 so.p) := (hb.cell (p := ⟨v3.heap.size, 2, none⟩) zcs).trans cs2
              replace cs3 : v5.cell? ⟨v3.heap.size, 3, none⟩ = some (.int .i64 so.v) := (hb.cell (p := ⟨v3.heap.size, 3, none⟩) zcs).trans cs3
              replace cs4 : v5.cell? ⟨v3.heap.size, 4, none⟩ = some (.int .i64 so.t) := (hb.cell (p := ⟨v3.heap.size, 4, none⟩) zcs).trans cs4
              replace zcs : v3.heap.size < v5.heap.size := Nat.lt_of_lt_of_le zcs hb.size
              replace HB := hide (HB.out.trans (hb.mono HB.out.size))
              clear hb
              go_wp2
              go_ret
              exact ⟨rfl, HB.out⟩
            · have hp2 : ¬ ((nm : Int) > 0) := by omega
              have hu : so.u = false := by rw [hsu]; exact decide_eq_false hp
              clear hsu hp
              go_wp2_with fail
              refine (tables_any wr).mono ?_
              rintro e v5 ⟨rfl, hb⟩
              replace ct0 : v5.cell? ⟨v0.heap.size, 0, none⟩ = some (.slice ot n ct) := (hb.cell (p := ⟨v0.heap.size, 0, none⟩) zct).trans ct0
              replace zct : v0.heap.size < v5.heap.size := Nat.lt_of_lt_of_le zct hb.size
              replace cx0 : v5.cell? ⟨v1.heap.size, 0, none⟩ = some (.slice ox nx cx) := (hb.cell (p := ⟨v1.heap.size, 0, none⟩) zcx).trans cx0
              replace zcx : v1.heap.size < v5.heap.size := Nat.lt_of_lt_of_le zcx hb.size
              replace cs0 : v5.cell? ⟨v3.heap.size, 0, none⟩ = some (.bool so.u) := (hb.cell (p := ⟨v3.heap.size, 0, none⟩) zcs).trans cs0
              replace cs1 : v5.cell? ⟨v3.heap.size, 1, none⟩ = some (.int .i64 so.a) := (hb.cell (p := ⟨v3.heap.size, 1, none⟩) zcs).trans cs1
              replace cs2 : v5.cell? ⟨v3.heap.size, 2, none⟩ = some (.int .i64 so.p) := (hb.cell (p := ⟨v3.heap.size, 2, none⟩) zcs).trans cs2
              replace cs3 : v5.cell? ⟨v3.heap.size, 3, none⟩ = some (.int .i64 so.v) := (hb.cell (p := ⟨v3.heap.size, 3, none⟩) zcs).trans cs3
              replace cs4 : v5.cell? ⟨v3.heap.size, 4, none⟩ = some (.int .i64 so.t) := (hb.cell (p := ⟨v3.heap.size, 4, none⟩) zcs).trans cs4
              replace zcs : v3.heap.size < v5.heap.size := Nat.lt_of_lt_of_le zcs hb.size
              replace HB := hide (HB.out.trans (hb.mono HB.out.size))
              clear hb
              go_wp2
              go_ret
              exact ⟨rfl, HB.out⟩

set_option maxRecDepth 100000 in
theorem fnExpires_lifted (os : Os) (started : os.Started) (H : Type) (enc : TypeId × Value → H) :
    ReturnsInHanded {} Try.checked os 5 .any (Rows.fnExpiresSpec.pre6 enc Try.prog Try.f5 Rows.fnExpiresRow.domain false) (Rows.fnExpiresSpec.post enc Try.prog Try.f5 false true false false) := by
  refine returnsInHanded_of_change (C := Try.checked) own started (by kernel_rfl) Try.func5
    (ChangeSpec.witness6 (enc := enc) (C := Try.checked) false ⟨#[], #[.slice none 0 0], []⟩ 8 (by kernel_rfl) (by kernel_rfl) (by kernel_rfl) (by kernel_rfl)) ?_
  intro W base args ds gs before hval0 hW hcnd _
  have hval : ∀ (j : Nat) t v, Try.f5.params[j]? = some t → args[j]? = some v → Value.okWide Try.prog W .any base t v := hval0
  have hW' := hW
  obtain ⟨p, q, hA0, hV, rfl, hfz, hnd⟩ := hW
  have hA : DataW.TrodAll enc Try.prog W 0 (fun _ => true) true Try.f5.params.toList args.toList ds p := hA0
  rw [Try.params5] at hA hval
  obtain ⟨v0, vs0, d0, ds0, p0, q0, hargs, rfl, rfl, h0, r0⟩ := trodAll_cons hA
  obtain ⟨rfl, rfl, rfl⟩ := trodAll_nil r0
  obtain rfl : args = #[v0] := by cases args; simp_all
  obtain ⟨rfl, rfl⟩ := trodVars_none hV
  have k0 := h0
  have lt0 : ∀ x ∈ p0, x.block < W.heap.size := by obtain ⟨m, hm⟩ := k0; exact DataW.trod_lt m _ _ _ hm
  obtain ⟨o0, cap0, l0, rfl, hm0, hR0, hB80⟩ := open_bytes (hval 0 22 v0 rfl rfl) h0
  clear hA0 hval0
  refine (lawExpires o0 cap0 l0 W hm0 hR0 hB80 ).mono fun e W' ⟨he, bel⟩ => ?_
  subst he
  exact ⟨_, rfl, _, _, _, [], _, [], hW', trodAll_mk1 (shut_bool Try.underlying4 _), (trodAll_cons_mk (Below.trod laidOut (by kernel_rfl) (of_decide_eq_true (by kernel_rfl)) k0 bel lt0) trodAll_mk0), rfl, bel.frame _, fun h => by cases h⟩

theorem fnExpires_over : Rows.fnExpiresRow.holds Try.pinned (OpenSpec.ofChange Rows.fnExpiresSpec) :=
  OpenClaim.holds_of_wide 5 Try.f5 rfl rfl rfl rfl rfl rfl rfl ⟨rfl, rfl, rfl, rfl, rfl⟩ rfl rfl rfl rfl rfl (by kernel_rfl) Try.func5 (by kernel_rfl)
    (of_decide_eq_true (by kernel_rfl)) (by unfold Func.isWrapper; first | (rw [if_pos (by decide +kernel)]; kernel_rfl) | (rw [if_neg (by decide +kernel)]; exact ⟨rfl, rfl⟩))
    (fun os started H enc _ => fnExpires_lifted os started H enc)

theorem fnExpires_holds : Rows.FnExpiresSaid := fnExpires_over


end Go.Proofs.Ytiijecnhbioehaa
