/- For all bytes the law FnPuts answers true, and the bytes read as they did: what is put into a drawn table is got; all else is got as it was; there is one more, if it was not there. No conditions. -/
import Derived.Test.YtiijecnhbioehaaGrElseMath
import Derived.Test.YtiijecnhbioehaaGrSDrawPT
namespace Go.Proofs.Ytiijecnhbioehaa
open Go.ChangeShapes Go.WideShapes Go.ChangeAt Go.RowKit Go.Joins
set_option linter.unusedVariables false
set_option linter.unusedSimpArgs false

set_option maxRecDepth 100000 in
set_option maxHeartbeats 8000000 in
theorem lawPuts (o : Option Addr) (cap : Nat) (l : List Int) (w : World) (hm : l.length ≤ maxLen) (hR : Rd w o l) (hB8 : isB l) :
    Calls Try.prog 3 #[.slice o l.length cap] w fun e w' => e = .returned (.bool true) ∧ Below w.heap.size w w' := by
  have hD := drawPut_any o cap l w hR hB8 hm
  go_enter Try.func3, Try.ntmps3
  go_wp2_with fail
  refine hD.mono ?_
  rintro e v0 ⟨vt, m, fa, fp, x, y, rfl, hln, hin, hb1⟩
  obtain ⟨ot, ct, hve⟩ := InT.opn hin
  subst hve
  have hf : m.length ≤ 1048576 := by omega
  obtain ⟨n, hn⟩ : ∃ n, m.length = n := ⟨_, rfl⟩
  rw [hn] at hin
  simp only [hn]
  have HN := hide hn
  rw [hn] at hln
  clear hn
  have HB := hide hb1
  have HI := hide hin
  clear hb1 hin hD hR hB8 hm
  obtain ⟨W2, hW2⟩ : ∃ W, ((v0.alloc (.cells #[.slice ot n ct] 25)).alloc (.cells #[.int .i64 fa, .int .i64 fp] 27)) = W := ⟨_, rfl⟩
  have hb_W2 : Below v0.heap.size v0 W2 := by rw [← hW2]; exact (((Below.refl _ _).alloc (Nat.le_refl _) _).alloc (by simp <;> omega) _)
  replace HB := hide (HB.out.trans (hb_W2.mono HB.out.size))
  have HIn := hide (HI.out.step (Stp.of (lo := 0) (hi := 0) hb_W2) (.inl (Nat.zero_le _)))
  clear HI
  have HI := HIn
  clear HIn
  clear hb_W2
  have zct : v0.heap.size < W2.heap.size := by rw [← hW2]; simp <;> omega
  have ct0 : W2.cell? ⟨v0.heap.size, 0, none⟩ = some (.slice ot n ct) := by rw [← hW2]; simp [go_sem]
  have zcf : v0.heap.size + 1 < W2.heap.size := by rw [← hW2]; simp
  have cf0 : W2.cell? ⟨v0.heap.size + 1, 0, none⟩ = some (.int .i64 fa) := by rw [← hW2]; simp [go_sem]
  have cf1 : W2.cell? ⟨v0.heap.size + 1, 1, none⟩ = some (.int .i64 fp) := by rw [← hW2]; simp [go_sem]
  have hml := putM_len m fa fp x y
  have H1 := hide (fun W h => implPut_sh (tab (.slice ot n ct)) m fa fp x y W h hf)
  have H2 := hide (fun W h => implGet_sh (tab (.slice ot n ct)) m fa fp W h hf)
  have H4 := hide (fun W h hc => implCountOf_sh (tab (.slice ot n ct)) m W h hc hf)
  cases hg : putB m fa fp x y with
  | false =>
    have hno := putM_no hg
    rw [hg] at H1
    clear hg H2 H4
    obtain ⟨mx, hmx⟩ : ∃ q, putM m fa fp x y = q := ⟨_, rfl⟩
    rw [hmx] at H1 hno hml
    clear hmx
    go_wp2_with fail
    refine (H1.out W2 (HI.out.rd.le (by omega))).mono ?_
    rintro e v1 ⟨vx, rfl, hix, hb⟩
    replace HI := hide (HI.out.step (Stp.of (lo := 0) (hi := 0) hb) (.inl (Nat.zero_le _)))
    obtain ⟨ox, cx, hve⟩ := InT.opn hix
    subst hve
    obtain ⟨nx, hnx⟩ : ∃ n, mx.length = n := ⟨_, rfl⟩
    rw [hnx] at hix
    simp only [hnx]
    have HNX := hide hnx
    have HX := hide hix
    clear hix hnx
    replace ct0 : v1.cell? ⟨v0.heap.size, 0, none⟩ = some (.slice ot n ct) := (hb.cell (p := ⟨v0.heap.size, 0, none⟩) zct).trans ct0
    replace zct : v0.heap.size < v1.heap.size := Nat.lt_of_lt_of_le zct hb.size
    replace cf0 : v1.cell? ⟨v0.heap.size + 1, 0, none⟩ = some (.int .i64 fa) := (hb.cell (p := ⟨v0.heap.size + 1, 0, none⟩) zcf).trans cf0
    replace cf1 : v1.cell? ⟨v0.heap.size + 1, 1, none⟩ = some (.int .i64 fp) := (hb.cell (p := ⟨v0.heap.size + 1, 1, none⟩) zcf).trans cf1
    replace zcf : v0.heap.size + 1 < v1.heap.size := Nat.lt_of_lt_of_le zcf hb.size
    replace HB := hide (HB.out.trans (hb.mono HB.out.size))
    clear hb
    obtain ⟨W4, hW4⟩ : ∃ W, (v1.alloc (.cells #[.slice ox nx cx] 25)) = W := ⟨_, rfl⟩
    have hb_W4 : Below v1.heap.size v1 W4 := by rw [← hW4]; exact ((Below.refl _ _).alloc (Nat.le_refl _) _)
    replace ct0 : W4.cell? ⟨v0.heap.size, 0, none⟩ = some (.slice ot n ct) := (hb_W4.cell (p := ⟨v0.heap.size, 0, none⟩) zct).trans ct0
    replace zct : v0.heap.size < W4.heap.size := Nat.lt_of_lt_of_le zct hb_W4.size
    replace cf0 : W4.cell? ⟨v0.heap.size + 1, 0, none⟩ = some (.int .i64 fa) := (hb_W4.cell (p := ⟨v0.heap.size + 1, 0, none⟩) zcf).trans cf0
    replace cf1 : W4.cell? ⟨v0.heap.size + 1, 1, none⟩ = some (.int .i64 fp) := (hb_W4.cell (p := ⟨v0.heap.size + 1, 1, none⟩) zcf).trans cf1
    replace zcf : v0.heap.size + 1 < W4.heap.size := Nat.lt_of_lt_of_le zcf hb_W4.size
    replace HB := hide (HB.out.trans (hb_W4.mono HB.out.size))
    have HIn := hide (HI.out.step (Stp.of (lo := 0) (hi := 0) hb_W4) (.inl (Nat.zero_le _)))
    have HXn := hide (HX.out.step (Stp.of (lo := 0) (hi := 0) hb_W4) (.inl (Nat.zero_le _)))
    clear HI
    have HI := HIn
    clear HIn
    clear HX
    have HX := HXn
    clear HXn
    clear hb_W4
    have zcx : v1.heap.size < W4.heap.size := by rw [← hW4]; simp
    have cx0 : W4.cell? ⟨v1.heap.size, 0, none⟩ = some (.slice ox nx cx) := by rw [← hW4]; simp [go_sem]
    rcases hno with hno | ⟨hno, hl1⟩
    · obtain rfl : nx = 0 := by rw [← HNX.out, hno]; rfl
      go_wp2_with fail
      refine (tables_any W4).mono ?_
      rintro e v2 ⟨rfl, hb⟩
      replace ct0 : v2.cell? ⟨v0.heap.size, 0, none⟩ = some (.slice ot n ct) := (hb.cell (p := ⟨v0.heap.size, 0, none⟩) zct).trans ct0
      replace zct : v0.heap.size < v2.heap.size := Nat.lt_of_lt_of_le zct hb.size
      replace cf0 : v2.cell? ⟨v0.heap.size + 1, 0, none⟩ = some (.int .i64 fa) := (hb.cell (p := ⟨v0.heap.size + 1, 0, none⟩) zcf).trans cf0
      replace cf1 : v2.cell? ⟨v0.heap.size + 1, 1, none⟩ = some (.int .i64 fp) := (hb.cell (p := ⟨v0.heap.size + 1, 1, none⟩) zcf).trans cf1
      replace zcf : v0.heap.size + 1 < v2.heap.size := Nat.lt_of_lt_of_le zcf hb.size
      replace cx0 : v2.cell? ⟨v1.heap.size, 0, none⟩ = some (.slice ox 0 cx) := (hb.cell (p := ⟨v1.heap.size, 0, none⟩) zcx).trans cx0
      replace zcx : v1.heap.size < v2.heap.size := Nat.lt_of_lt_of_le zcx hb.size
      replace HB := hide (HB.out.trans (hb.mono HB.out.size))
      clear hb
      go_wp2
      go_ret
      exact ⟨rfl, HB.out⟩
    · have hl3 : ¬ (nx = 0) := by rw [← HNX.out, hno]; omega
      have hl2 : ¬ ((nx : Int) = 0) := by omega
      have HS := hide (sameTable_any (tab (.slice ox nx cx)) (tab (.slice ot n ct)) m W4 (by have h : RdT W4.heap.size W4 (tab (.slice ox nx cx)) mx := (HX.out.rd.le (by omega)); rw [hno] at h; exact h) (HI.out.rd.le (by omega)) hf)
      clear hno hl1
      go_wp2_with fail
      refine (HS.out).mono ?_
      rintro e v2 ⟨rfl, hb⟩
      replace ct0 : v2.cell? ⟨v0.heap.size, 0, none⟩ = some (.slice ot n ct) := (hb.cell (p := ⟨v0.heap.size, 0, none⟩) zct).trans ct0
      replace zct : v0.heap.size < v2.heap.size := Nat.lt_of_lt_of_le zct hb.size
      replace cf0 : v2.cell? ⟨v0.heap.size + 1, 0, none⟩ = some (.int .i64 fa) := (hb.cell (p := ⟨v0.heap.size + 1, 0, none⟩) zcf).trans cf0
      replace cf1 : v2.cell? ⟨v0.heap.size + 1, 1, none⟩ = some (.int .i64 fp) := (hb.cell (p := ⟨v0.heap.size + 1, 1, none⟩) zcf).trans cf1
      replace zcf : v0.heap.size + 1 < v2.heap.size := Nat.lt_of_lt_of_le zcf hb.size
      replace cx0 : v2.cell? ⟨v1.heap.size, 0, none⟩ = some (.slice ox nx cx) := (hb.cell (p := ⟨v1.heap.size, 0, none⟩) zcx).trans cx0
      replace zcx : v1.heap.size < v2.heap.size := Nat.lt_of_lt_of_le zcx hb.size
      replace HB := hide (HB.out.trans (hb.mono HB.out.size))
      clear hb
      go_wp2_with fail
      refine (tables_any v2).mono ?_
      rintro e v3 ⟨rfl, hb⟩
      replace ct0 : v3.cell? ⟨v0.heap.size, 0, none⟩ = some (.slice ot n ct) := (hb.cell (p := ⟨v0.heap.size, 0, none⟩) zct).trans ct0
      replace zct : v0.heap.size < v3.heap.size := Nat.lt_of_lt_of_le zct hb.size
      replace cf0 : v3.cell? ⟨v0.heap.size + 1, 0, none⟩ = some (.int .i64 fa) := (hb.cell (p := ⟨v0.heap.size + 1, 0, none⟩) zcf).trans cf0
      replace cf1 : v3.cell? ⟨v0.heap.size + 1, 1, none⟩ = some (.int .i64 fp) := (hb.cell (p := ⟨v0.heap.size + 1, 1, none⟩) zcf).trans cf1
      replace zcf : v0.heap.size + 1 < v3.heap.size := Nat.lt_of_lt_of_le zcf hb.size
      replace cx0 : v3.cell? ⟨v1.heap.size, 0, none⟩ = some (.slice ox nx cx) := (hb.cell (p := ⟨v1.heap.size, 0, none⟩) zcx).trans cx0
      replace zcx : v1.heap.size < v3.heap.size := Nat.lt_of_lt_of_le zcx hb.size
      replace HB := hide (HB.out.trans (hb.mono HB.out.size))
      clear hb
      go_wp2
      go_ret
      exact ⟨rfl, HB.out⟩
  | true =>
    obtain ⟨hT, hTx, hgx, hsv, hst, hcx, hel⟩ := putM_yes hg
    rw [hg] at H1
    clear hg
    obtain ⟨mx, hmx⟩ : ∃ q, putM m fa fp x y = q := ⟨_, rfl⟩
    rw [hmx] at H1 hml hTx hgx hcx hel hsv hst
    clear hmx
    have hcb : countM m = (countL m : Nat) := by unfold countM; rw [if_pos hT]
    have hle := countTo_le m m.length
    have hcn : countL m ≤ 16 := by unfold countL; have := HN.out; omega
    clear hle
    go_wp2_with fail
    refine (H1.out W2 (HI.out.rd.le (by omega))).mono ?_
    rintro e v1 ⟨vx, rfl, hix, hb⟩
    replace HI := hide (HI.out.step (Stp.of (lo := 0) (hi := 0) hb) (.inl (Nat.zero_le _)))
    obtain ⟨ox, cx, hve⟩ := InT.opn hix
    subst hve
    obtain ⟨nx, hnx⟩ : ∃ n, mx.length = n := ⟨_, rfl⟩
    rw [hnx] at hix
    simp only [hnx]
    have HNX := hide hnx
    have HX := hide hix
    clear hix hnx
    replace ct0 : v1.cell? ⟨v0.heap.size, 0, none⟩ = some (.slice ot n ct) := (hb.cell (p := ⟨v0.heap.size, 0, none⟩) zct).trans ct0
    replace zct : v0.heap.size < v1.heap.size := Nat.lt_of_lt_of_le zct hb.size
    replace cf0 : v1.cell? ⟨v0.heap.size + 1, 0, none⟩ = some (.int .i64 fa) := (hb.cell (p := ⟨v0.heap.size + 1, 0, none⟩) zcf).trans cf0
    replace cf1 : v1.cell? ⟨v0.heap.size + 1, 1, none⟩ = some (.int .i64 fp) := (hb.cell (p := ⟨v0.heap.size + 1, 1, none⟩) zcf).trans cf1
    replace zcf : v0.heap.size + 1 < v1.heap.size := Nat.lt_of_lt_of_le zcf hb.size
    replace HB := hide (HB.out.trans (hb.mono HB.out.size))
    clear hb
    obtain ⟨W4, hW4⟩ : ∃ W, (v1.alloc (.cells #[.slice ox nx cx] 25)) = W := ⟨_, rfl⟩
    have hb_W4 : Below v1.heap.size v1 W4 := by rw [← hW4]; exact ((Below.refl _ _).alloc (Nat.le_refl _) _)
    replace ct0 : W4.cell? ⟨v0.heap.size, 0, none⟩ = some (.slice ot n ct) := (hb_W4.cell (p := ⟨v0.heap.size, 0, none⟩) zct).trans ct0
    replace zct : v0.heap.size < W4.heap.size := Nat.lt_of_lt_of_le zct hb_W4.size
    replace cf0 : W4.cell? ⟨v0.heap.size + 1, 0, none⟩ = some (.int .i64 fa) := (hb_W4.cell (p := ⟨v0.heap.size + 1, 0, none⟩) zcf).trans cf0
    replace cf1 : W4.cell? ⟨v0.heap.size + 1, 1, none⟩ = some (.int .i64 fp) := (hb_W4.cell (p := ⟨v0.heap.size + 1, 1, none⟩) zcf).trans cf1
    replace zcf : v0.heap.size + 1 < W4.heap.size := Nat.lt_of_lt_of_le zcf hb_W4.size
    replace HB := hide (HB.out.trans (hb_W4.mono HB.out.size))
    have HIn := hide (HI.out.step (Stp.of (lo := 0) (hi := 0) hb_W4) (.inl (Nat.zero_le _)))
    have HXn := hide (HX.out.step (Stp.of (lo := 0) (hi := 0) hb_W4) (.inl (Nat.zero_le _)))
    clear HI
    have HI := HIn
    clear HIn
    clear HX
    have HX := HXn
    clear HXn
    clear hb_W4
    have zcx : v1.heap.size < W4.heap.size := by rw [← hW4]; simp
    have cx0 : W4.cell? ⟨v1.heap.size, 0, none⟩ = some (.slice ox nx cx) := by rw [← hW4]; simp [go_sem]
    have H3 := hide (implGet_sh (tab (.slice ox nx cx)) mx fa fp W4 (HX.out.rd.le (by omega)) (by omega))
    rw [hgx] at H3
    obtain ⟨s, hs⟩ : ∃ q, getM mx fa fp = q := ⟨_, rfl⟩
    rw [hs] at H3 hsv hst
    have HSV := hide hsv
    have HST := hide hst
    clear hs hgx hsv hst
    go_wp2_with fail
    refine (H3.out).mono ?_
    rintro e v2 ⟨rfl, hb⟩
    replace HI := hide (HI.out.step (Stp.of (lo := 0) (hi := 0) hb) (.inl (Nat.zero_le _)))
    replace HX := hide (HX.out.step (Stp.of (lo := 0) (hi := 0) hb) (.inl (Nat.zero_le _)))
    replace ct0 : v2.cell? ⟨v0.heap.size, 0, none⟩ = some (.slice ot n ct) := (hb.cell (p := ⟨v0.heap.size, 0, none⟩) zct).trans ct0
    replace zct : v0.heap.size < v2.heap.size := Nat.lt_of_lt_of_le zct hb.size
    replace cf0 : v2.cell? ⟨v0.heap.size + 1, 0, none⟩ = some (.int .i64 fa) := (hb.cell (p := ⟨v0.heap.size + 1, 0, none⟩) zcf).trans cf0
    replace cf1 : v2.cell? ⟨v0.heap.size + 1, 1, none⟩ = some (.int .i64 fp) := (hb.cell (p := ⟨v0.heap.size + 1, 1, none⟩) zcf).trans cf1
    replace zcf : v0.heap.size + 1 < v2.heap.size := Nat.lt_of_lt_of_le zcf hb.size
    replace cx0 : v2.cell? ⟨v1.heap.size, 0, none⟩ = some (.slice ox nx cx) := (hb.cell (p := ⟨v1.heap.size, 0, none⟩) zcx).trans cx0
    replace zcx : v1.heap.size < v2.heap.size := Nat.lt_of_lt_of_le zcx hb.size
    replace HB := hide (HB.out.trans (hb.mono HB.out.size))
    clear hb
    obtain ⟨W6, hW6⟩ : ∃ W, (v2.alloc (.cells #[.bool s.u, .int .i64 s.a, .int .i64 s.p, .int .i64 s.v, .int .i64 s.t] 35)) = W := ⟨_, rfl⟩
    have hb_W6 : Below v2.heap.size v2 W6 := by rw [← hW6]; exact ((Below.refl _ _).alloc (Nat.le_refl _) _)
    replace ct0 : W6.cell? ⟨v0.heap.size, 0, none⟩ = some (.slice ot n ct) := (hb_W6.cell (p := ⟨v0.heap.size, 0, none⟩) zct).trans ct0
    replace zct : v0.heap.size < W6.heap.size := Nat.lt_of_lt_of_le zct hb_W6.size
    replace cf0 : W6.cell? ⟨v0.heap.size + 1, 0, none⟩ = some (.int .i64 fa) := (hb_W6.cell (p := ⟨v0.heap.size + 1, 0, none⟩) zcf).trans cf0
    replace cf1 : W6.cell? ⟨v0.heap.size + 1, 1, none⟩ = some (.int .i64 fp) := (hb_W6.cell (p := ⟨v0.heap.size + 1, 1, none⟩) zcf).trans cf1
    replace zcf : v0.heap.size + 1 < W6.heap.size := Nat.lt_of_lt_of_le zcf hb_W6.size
    replace cx0 : W6.cell? ⟨v1.heap.size, 0, none⟩ = some (.slice ox nx cx) := (hb_W6.cell (p := ⟨v1.heap.size, 0, none⟩) zcx).trans cx0
    replace zcx : v1.heap.size < W6.heap.size := Nat.lt_of_lt_of_le zcx hb_W6.size
    replace HB := hide (HB.out.trans (hb_W6.mono HB.out.size))
    have HIn := hide (HI.out.step (Stp.of (lo := 0) (hi := 0) hb_W6) (.inl (Nat.zero_le _)))
    have HXn := hide (HX.out.step (Stp.of (lo := 0) (hi := 0) hb_W6) (.inl (Nat.zero_le _)))
    clear HI
    have HI := HIn
    clear HIn
    clear HX
    have HX := HXn
    clear HXn
    clear hb_W6
    have zcs : v2.heap.size < W6.heap.size := by rw [← hW6]; simp
    have cs0 : W6.cell? ⟨v2.heap.size, 0, none⟩ = some (.bool s.u) := by rw [← hW6]; simp [go_sem]
    have cs1 : W6.cell? ⟨v2.heap.size, 1, none⟩ = some (.int .i64 s.a) := by rw [← hW6]; simp [go_sem]
    have cs2 : W6.cell? ⟨v2.heap.size, 2, none⟩ = some (.int .i64 s.p) := by rw [← hW6]; simp [go_sem]
    have cs3 : W6.cell? ⟨v2.heap.size, 3, none⟩ = some (.int .i64 s.v) := by rw [← hW6]; simp [go_sem]
    have cs4 : W6.cell? ⟨v2.heap.size, 4, none⟩ = some (.int .i64 s.t) := by rw [← hW6]; simp [go_sem]
    obtain ⟨s2, hs2⟩ : ∃ q, getM m fa fp = q := ⟨_, rfl⟩
    rw [hs2] at H2
    clear hs2
    rw [hcb] at H4
    have H5 := hide (fun W h => implTableOk_sh (tab (.slice ox nx cx)) mx W h HX.out.cap (by omega))
    rw [hTx] at H5
    have H6 := hide (fun W h => implCountOf_sh (tab (.slice ox nx cx)) mx W h HX.out.cap (by omega))
    rw [hcx, hcb] at H6
    have HEl := hide hel
    have HW : Hid (IntKind.i64.wrap ((countL m : Int) + 1) = (countL m : Int) + 1) := by unfold Hid; rw [IntKind.wrap_i64]; omega
    obtain ⟨nc, hnc⟩ : ∃ q, countL m = q := ⟨_, rfl⟩
    rw [hnc] at H4 H6 HW hcn
    clear hnc hcx hcb hel hT hTx H3
    cases hw : gotB m fa fp with
    | false =>
      rw [hw] at H2 H6
      simp only [if_true, Bool.false_eq_true, if_false, Int.add_zero] at H6
      have hwr := HW.out
      clear hw
      go_wp2_with fail
      refine (H2.out W6 (HI.out.rd.le (by omega))).mono ?_
      rintro e v3 ⟨rfl, hb⟩
      replace HI := hide (HI.out.step (Stp.of (lo := 0) (hi := 0) hb) (.inl (Nat.zero_le _)))
      replace HX := hide (HX.out.step (Stp.of (lo := 0) (hi := 0) hb) (.inl (Nat.zero_le _)))
      replace ct0 : v3.cell? ⟨v0.heap.size, 0, none⟩ = some (.slice ot n ct) := (hb.cell (p := ⟨v0.heap.size, 0, none⟩) zct).trans ct0
      replace zct : v0.heap.size < v3.heap.size := Nat.lt_of_lt_of_le zct hb.size
      replace cf0 : v3.cell? ⟨v0.heap.size + 1, 0, none⟩ = some (.int .i64 fa) := (hb.cell (p := ⟨v0.heap.size + 1, 0, none⟩) zcf).trans cf0
      replace cf1 : v3.cell? ⟨v0.heap.size + 1, 1, none⟩ = some (.int .i64 fp) := (hb.cell (p := ⟨v0.heap.size + 1, 1, none⟩) zcf).trans cf1
      replace zcf : v0.heap.size + 1 < v3.heap.size := Nat.lt_of_lt_of_le zcf hb.size
      replace cx0 : v3.cell? ⟨v1.heap.size, 0, none⟩ = some (.slice ox nx cx) := (hb.cell (p := ⟨v1.heap.size, 0, none⟩) zcx).trans cx0
      replace zcx : v1.heap.size < v3.heap.size := Nat.lt_of_lt_of_le zcx hb.size
      replace cs0 : v3.cell? ⟨v2.heap.size, 0, none⟩ = some (.bool s.u) := (hb.cell (p := ⟨v2.heap.size, 0, none⟩) zcs).trans cs0
      replace cs1 : v3.cell? ⟨v2.heap.size, 1, none⟩ = some (.int .i64 s.a) := (hb.cell (p := ⟨v2.heap.size, 1, none⟩) zcs).trans cs1
      replace cs2 : v3.cell? ⟨v2.heap.size, 2, none⟩ = some (.int .i64 s.p) := (hb.cell (p := ⟨v2.heap.size, 2, none⟩) zcs).trans cs2
      replace cs3 : v3.cell? ⟨v2.heap.size, 3, none⟩ = some (.int .i64 s.v) := (hb.cell (p := ⟨v2.heap.size, 3, none⟩) zcs).trans cs3
      replace cs4 : v3.cell? ⟨v2.heap.size, 4, none⟩ = some (.int .i64 s.t) := (hb.cell (p := ⟨v2.heap.size, 4, none⟩) zcs).trans cs4
      replace zcs : v2.heap.size < v3.heap.size := Nat.lt_of_lt_of_le zcs hb.size
      replace HB := hide (HB.out.trans (hb.mono HB.out.size))
      clear hb
      obtain ⟨W8, hW8⟩ : ∃ W, (v3.alloc (.cells #[.bool s2.u, .int .i64 s2.a, .int .i64 s2.p, .int .i64 s2.v, .int .i64 s2.t] 35)) = W := ⟨_, rfl⟩
      have hb_W8 : Below v3.heap.size v3 W8 := by rw [← hW8]; exact ((Below.refl _ _).alloc (Nat.le_refl _) _)
      replace ct0 : W8.cell? ⟨v0.heap.size, 0, none⟩ = some (.slice ot n ct) := (hb_W8.cell (p := ⟨v0.heap.size, 0, none⟩) zct).trans ct0
      replace zct : v0.heap.size < W8.heap.size := Nat.lt_of_lt_of_le zct hb_W8.size
      replace cf0 : W8.cell? ⟨v0.heap.size + 1, 0, none⟩ = some (.int .i64 fa) := (hb_W8.cell (p := ⟨v0.heap.size + 1, 0, none⟩) zcf).trans cf0
      replace cf1 : W8.cell? ⟨v0.heap.size + 1, 1, none⟩ = some (.int .i64 fp) := (hb_W8.cell (p := ⟨v0.heap.size + 1, 1, none⟩) zcf).trans cf1
      replace zcf : v0.heap.size + 1 < W8.heap.size := Nat.lt_of_lt_of_le zcf hb_W8.size
      replace cx0 : W8.cell? ⟨v1.heap.size, 0, none⟩ = some (.slice ox nx cx) := (hb_W8.cell (p := ⟨v1.heap.size, 0, none⟩) zcx).trans cx0
      replace zcx : v1.heap.size < W8.heap.size := Nat.lt_of_lt_of_le zcx hb_W8.size
      replace cs0 : W8.cell? ⟨v2.heap.size, 0, none⟩ = some (.bool s.u) := (hb_W8.cell (p := ⟨v2.heap.size, 0, none⟩) zcs).trans cs0
      replace cs1 : W8.cell? ⟨v2.heap.size, 1, none⟩ = some (.int .i64 s.a) := (hb_W8.cell (p := ⟨v2.heap.size, 1, none⟩) zcs).trans cs1
      replace cs2 : W8.cell? ⟨v2.heap.size, 2, none⟩ = some (.int .i64 s.p) := (hb_W8.cell (p := ⟨v2.heap.size, 2, none⟩) zcs).trans cs2
      replace cs3 : W8.cell? ⟨v2.heap.size, 3, none⟩ = some (.int .i64 s.v) := (hb_W8.cell (p := ⟨v2.heap.size, 3, none⟩) zcs).trans cs3
      replace cs4 : W8.cell? ⟨v2.heap.size, 4, none⟩ = some (.int .i64 s.t) := (hb_W8.cell (p := ⟨v2.heap.size, 4, none⟩) zcs).trans cs4
      replace zcs : v2.heap.size < W8.heap.size := Nat.lt_of_lt_of_le zcs hb_W8.size
      replace HB := hide (HB.out.trans (hb_W8.mono HB.out.size))
      have HIn := hide (HI.out.step (Stp.of (lo := 0) (hi := 0) hb_W8) (.inl (Nat.zero_le _)))
      have HXn := hide (HX.out.step (Stp.of (lo := 0) (hi := 0) hb_W8) (.inl (Nat.zero_le _)))
      clear HI
      have HI := HIn
      clear HIn
      clear HX
      have HX := HXn
      clear HXn
      clear hb_W8
      have zcu : v3.heap.size < W8.heap.size := by rw [← hW8]; simp
      have cu0 : W8.cell? ⟨v3.heap.size, 0, none⟩ = some (.bool s2.u) := by rw [← hW8]; simp [go_sem]
      have cu1 : W8.cell? ⟨v3.heap.size, 1, none⟩ = some (.int .i64 s2.a) := by rw [← hW8]; simp [go_sem]
      have cu2 : W8.cell? ⟨v3.heap.size, 2, none⟩ = some (.int .i64 s2.p) := by rw [← hW8]; simp [go_sem]
      have cu3 : W8.cell? ⟨v3.heap.size, 3, none⟩ = some (.int .i64 s2.v) := by rw [← hW8]; simp [go_sem]
      have cu4 : W8.cell? ⟨v3.heap.size, 4, none⟩ = some (.int .i64 s2.t) := by rw [← hW8]; simp [go_sem]
      go_wp2_with fail
      refine (H4.out W8 (HI.out.rd.le (by omega)) HI.out.cap).mono ?_
      rintro e v4 ⟨rfl, hb⟩
      replace HI := hide (HI.out.step (Stp.of (lo := 0) (hi := 0) hb) (.inl (Nat.zero_le _)))
      replace HX := hide (HX.out.step (Stp.of (lo := 0) (hi := 0) hb) (.inl (Nat.zero_le _)))
      replace ct0 : v4.cell? ⟨v0.heap.size, 0, none⟩ = some (.slice ot n ct) := (hb.cell (p := ⟨v0.heap.size, 0, none⟩) zct).trans ct0
      replace zct : v0.heap.size < v4.heap.size := Nat.lt_of_lt_of_le zct hb.size
      replace cf0 : v4.cell? ⟨v0.heap.size + 1, 0, none⟩ = some (.int .i64 fa) := (hb.cell (p := ⟨v0.heap.size + 1, 0, none⟩) zcf).trans cf0
      replace cf1 : v4.cell? ⟨v0.heap.size + 1, 1, none⟩ = some (.int .i64 fp) := (hb.cell (p := ⟨v0.heap.size + 1, 1, none⟩) zcf).trans cf1
      replace zcf : v0.heap.size + 1 < v4.heap.size := Nat.lt_of_lt_of_le zcf hb.size
      replace cx0 : v4.cell? ⟨v1.heap.size, 0, none⟩ = some (.slice ox nx cx) := (hb.cell (p := ⟨v1.heap.size, 0, none⟩) zcx).trans cx0
      replace zcx : v1.heap.size < v4.heap.size := Nat.lt_of_lt_of_le zcx hb.size
      replace cs0 : v4.cell? ⟨v2.heap.size, 0, none⟩ = some (.bool s.u) := (hb.cell (p := ⟨v2.heap.size, 0, none⟩) zcs).trans cs0
      replace cs1 : v4.cell? ⟨v2.heap.size, 1, none⟩ = some (.int .i64 s.a) := (hb.cell (p := ⟨v2.heap.size, 1, none⟩) zcs).trans cs1
      replace cs2 : v4.cell? ⟨v2.heap.size, 2, none⟩ = some (.int .i64 s.p) := (hb.cell (p := ⟨v2.heap.size, 2, none⟩) zcs).trans cs2
      replace cs3 : v4.cell? ⟨v2.heap.size, 3, none⟩ = some (.int .i64 s.v) := (hb.cell (p := ⟨v2.heap.size, 3, none⟩) zcs).trans cs3
      replace cs4 : v4.cell? ⟨v2.heap.size, 4, none⟩ = some (.int .i64 s.t) := (hb.cell (p := ⟨v2.heap.size, 4, none⟩) zcs).trans cs4
      replace zcs : v2.heap.size < v4.heap.size := Nat.lt_of_lt_of_le zcs hb.size
      replace cu0 : v4.cell? ⟨v3.heap.size, 0, none⟩ = some (.bool s2.u) := (hb.cell (p := ⟨v3.heap.size, 0, none⟩) zcu).trans cu0
      replace cu1 : v4.cell? ⟨v3.heap.size, 1, none⟩ = some (.int .i64 s2.a) := (hb.cell (p := ⟨v3.heap.size, 1, none⟩) zcu).trans cu1
      replace cu2 : v4.cell? ⟨v3.heap.size, 2, none⟩ = some (.int .i64 s2.p) := (hb.cell (p := ⟨v3.heap.size, 2, none⟩) zcu).trans cu2
      replace cu3 : v4.cell? ⟨v3.heap.size, 3, none⟩ = some (.int .i64 s2.v) := (hb.cell (p := ⟨v3.heap.size, 3, none⟩) zcu).trans cu3
      replace cu4 : v4.cell? ⟨v3.heap.size, 4, none⟩ = some (.int .i64 s2.t) := (hb.cell (p := ⟨v3.heap.size, 4, none⟩) zcu).trans cu4
      replace zcu : v3.heap.size < v4.heap.size := Nat.lt_of_lt_of_le zcu hb.size
      replace HB := hide (HB.out.trans (hb.mono HB.out.size))
      clear hb
      have hsv := HSV.out
      have hst := HST.out
      go_wp2_with fail
      refine (H5.out v4 (HX.out.rd.le (by omega))).mono ?_
      rintro e v5 ⟨rfl, hb⟩
      replace HI := hide (HI.out.step (Stp.of (lo := 0) (hi := 0) hb) (.inl (Nat.zero_le _)))
      replace HX := hide (HX.out.step (Stp.of (lo := 0) (hi := 0) hb) (.inl (Nat.zero_le _)))
      clear hsv hst
      replace ct0 : v5.cell? ⟨v0.heap.size, 0, none⟩ = some (.slice ot n ct) := (hb.cell (p := ⟨v0.heap.size, 0, none⟩) zct).trans ct0
      replace zct : v0.heap.size < v5.heap.size := Nat.lt_of_lt_of_le zct hb.size
      replace cf0 : v5.cell? ⟨v0.heap.size + 1, 0, none⟩ = some (.int .i64 fa) := (hb.cell (p := ⟨v0.heap.size + 1, 0, none⟩) zcf).trans cf0
      replace cf1 : v5.cell? ⟨v0.heap.size + 1, 1, none⟩ = some (.int .i64 fp) := (hb.cell (p := ⟨v0.heap.size + 1, 1, none⟩) zcf).trans cf1
      replace zcf : v0.heap.size + 1 < v5.heap.size := Nat.lt_of_lt_of_le zcf hb.size
      replace cx0 : v5.cell? ⟨v1.heap.size, 0, none⟩ = some (.slice ox nx cx) := (hb.cell (p := ⟨v1.heap.size, 0, none⟩) zcx).trans cx0
      replace zcx : v1.heap.size < v5.heap.size := Nat.lt_of_lt_of_le zcx hb.size
      replace cs0 : v5.cell? ⟨v2.heap.size, 0, none⟩ = some (.bool s.u) := (hb.cell (p := ⟨v2.heap.size, 0, none⟩) zcs).trans cs0
      replace cs1 : v5.cell? ⟨v2.heap.size, 1, none⟩ = some (.int .i64 s.a) := (hb.cell (p := ⟨v2.heap.size, 1, none⟩) zcs).trans cs1
      replace cs2 : v5.cell? ⟨v2.heap.size, 2, none⟩ = some (.int .i64 s.p) := (hb.cell (p := ⟨v2.heap.size, 2, none⟩) zcs).trans cs2
      replace cs3 : v5.cell? ⟨v2.heap.size, 3, none⟩ = some (.int .i64 s.v) := (hb.cell (p := ⟨v2.heap.size, 3, none⟩) zcs).trans cs3
      replace cs4 : v5.cell? ⟨v2.heap.size, 4, none⟩ = some (.int .i64 s.t) := (hb.cell (p := ⟨v2.heap.size, 4, none⟩) zcs).trans cs4
      replace zcs : v2.heap.size < v5.heap.size := Nat.lt_of_lt_of_le zcs hb.size
      replace cu0 : v5.cell? ⟨v3.heap.size, 0, none⟩ = some (.bool s2.u) := (hb.cell (p := ⟨v3.heap.size, 0, none⟩) zcu).trans cu0
      replace cu1 : v5.cell? ⟨v3.heap.size, 1, none⟩ = some (.int .i64 s2.a) := (hb.cell (p := ⟨v3.heap.size, 1, none⟩) zcu).trans cu1
      replace cu2 : v5.cell? ⟨v3.heap.size, 2, none⟩ = some (.int .i64 s2.p) := (hb.cell (p := ⟨v3.heap.size, 2, none⟩) zcu).trans cu2
      replace cu3 : v5.cell? ⟨v3.heap.size, 3, none⟩ = some (.int .i64 s2.v) := (hb.cell (p := ⟨v3.heap.size, 3, none⟩) zcu).trans cu3
      replace cu4 : v5.cell? ⟨v3.heap.size, 4, none⟩ = some (.int .i64 s2.t) := (hb.cell (p := ⟨v3.heap.size, 4, none⟩) zcu).trans cu4
      replace zcu : v3.heap.size < v5.heap.size := Nat.lt_of_lt_of_le zcu hb.size
      replace HB := hide (HB.out.trans (hb.mono HB.out.size))
      clear hb
      go_wp2_with fail
      refine (H6.out v5 (HX.out.rd.le (by omega))).mono ?_
      rintro e v6 ⟨rfl, hb⟩
      replace HI := hide (HI.out.step (Stp.of (lo := 0) (hi := 0) hb) (.inl (Nat.zero_le _)))
      replace HX := hide (HX.out.step (Stp.of (lo := 0) (hi := 0) hb) (.inl (Nat.zero_le _)))
      replace ct0 : v6.cell? ⟨v0.heap.size, 0, none⟩ = some (.slice ot n ct) := (hb.cell (p := ⟨v0.heap.size, 0, none⟩) zct).trans ct0
      replace zct : v0.heap.size < v6.heap.size := Nat.lt_of_lt_of_le zct hb.size
      replace cf0 : v6.cell? ⟨v0.heap.size + 1, 0, none⟩ = some (.int .i64 fa) := (hb.cell (p := ⟨v0.heap.size + 1, 0, none⟩) zcf).trans cf0
      replace cf1 : v6.cell? ⟨v0.heap.size + 1, 1, none⟩ = some (.int .i64 fp) := (hb.cell (p := ⟨v0.heap.size + 1, 1, none⟩) zcf).trans cf1
      replace zcf : v0.heap.size + 1 < v6.heap.size := Nat.lt_of_lt_of_le zcf hb.size
      replace cx0 : v6.cell? ⟨v1.heap.size, 0, none⟩ = some (.slice ox nx cx) := (hb.cell (p := ⟨v1.heap.size, 0, none⟩) zcx).trans cx0
      replace zcx : v1.heap.size < v6.heap.size := Nat.lt_of_lt_of_le zcx hb.size
      replace cs0 : v6.cell? ⟨v2.heap.size, 0, none⟩ = some (.bool s.u) := (hb.cell (p := ⟨v2.heap.size, 0, none⟩) zcs).trans cs0
      replace cs1 : v6.cell? ⟨v2.heap.size, 1, none⟩ = some (.int .i64 s.a) := (hb.cell (p := ⟨v2.heap.size, 1, none⟩) zcs).trans cs1
      replace cs2 : v6.cell? ⟨v2.heap.size, 2, none⟩ = some (.int .i64 s.p) := (hb.cell (p := ⟨v2.heap.size, 2, none⟩) zcs).trans cs2
      replace cs3 : v6.cell? ⟨v2.heap.size, 3, none⟩ = some (.int .i64 s.v) := (hb.cell (p := ⟨v2.heap.size, 3, none⟩) zcs).trans cs3
      replace cs4 : v6.cell? ⟨v2.heap.size, 4, none⟩ = some (.int .i64 s.t) := (hb.cell (p := ⟨v2.heap.size, 4, none⟩) zcs).trans cs4
      replace zcs : v2.heap.size < v6.heap.size := Nat.lt_of_lt_of_le zcs hb.size
      replace cu0 : v6.cell? ⟨v3.heap.size, 0, none⟩ = some (.bool s2.u) := (hb.cell (p := ⟨v3.heap.size, 0, none⟩) zcu).trans cu0
      replace cu1 : v6.cell? ⟨v3.heap.size, 1, none⟩ = some (.int .i64 s2.a) := (hb.cell (p := ⟨v3.heap.size, 1, none⟩) zcu).trans cu1
      replace cu2 : v6.cell? ⟨v3.heap.size, 2, none⟩ = some (.int .i64 s2.p) := (hb.cell (p := ⟨v3.heap.size, 2, none⟩) zcu).trans cu2
      replace cu3 : v6.cell? ⟨v3.heap.size, 3, none⟩ = some (.int .i64 s2.v) := (hb.cell (p := ⟨v3.heap.size, 3, none⟩) zcu).trans cu3
      replace cu4 : v6.cell? ⟨v3.heap.size, 4, none⟩ = some (.int .i64 s2.t) := (hb.cell (p := ⟨v3.heap.size, 4, none⟩) zcu).trans cu4
      replace zcu : v3.heap.size < v6.heap.size := Nat.lt_of_lt_of_le zcu hb.size
      replace HB := hide (HB.out.trans (hb.mono HB.out.size))
      clear hb
      go_wp2_with fail
      refine (others_any (tab (.slice ot n ct)) (tab (.slice ox nx cx)) m mx fa fp v6 (HI.out.rd.le (by omega)) (HX.out.rd.le (by omega)) (by have := HN.out; omega) hml HEl.out).mono ?_
      rintro e v7 ⟨rfl, hb⟩
      replace HI := hide (HI.out.step (Stp.of (lo := 0) (hi := 0) hb) (.inl (Nat.zero_le _)))
      replace HX := hide (HX.out.step (Stp.of (lo := 0) (hi := 0) hb) (.inl (Nat.zero_le _)))
      replace ct0 : v7.cell? ⟨v0.heap.size, 0, none⟩ = some (.slice ot n ct) := (hb.cell (p := ⟨v0.heap.size, 0, none⟩) zct).trans ct0
      replace zct : v0.heap.size < v7.heap.size := Nat.lt_of_lt_of_le zct hb.size
      replace cf0 : v7.cell? ⟨v0.heap.size + 1, 0, none⟩ = some (.int .i64 fa) := (hb.cell (p := ⟨v0.heap.size + 1, 0, none⟩) zcf).trans cf0
      replace cf1 : v7.cell? ⟨v0.heap.size + 1, 1, none⟩ = some (.int .i64 fp) := (hb.cell (p := ⟨v0.heap.size + 1, 1, none⟩) zcf).trans cf1
      replace zcf : v0.heap.size + 1 < v7.heap.size := Nat.lt_of_lt_of_le zcf hb.size
      replace cx0 : v7.cell? ⟨v1.heap.size, 0, none⟩ = some (.slice ox nx cx) := (hb.cell (p := ⟨v1.heap.size, 0, none⟩) zcx).trans cx0
      replace zcx : v1.heap.size < v7.heap.size := Nat.lt_of_lt_of_le zcx hb.size
      replace cs0 : v7.cell? ⟨v2.heap.size, 0, none⟩ = some (.bool s.u) := (hb.cell (p := ⟨v2.heap.size, 0, none⟩) zcs).trans cs0
      replace cs1 : v7.cell? ⟨v2.heap.size, 1, none⟩ = some (.int .i64 s.a) := (hb.cell (p := ⟨v2.heap.size, 1, none⟩) zcs).trans cs1
      replace cs2 : v7.cell? ⟨v2.heap.size, 2, none⟩ = some (.int .i64 s.p) := (hb.cell (p := ⟨v2.heap.size, 2, none⟩) zcs).trans cs2
      replace cs3 : v7.cell? ⟨v2.heap.size, 3, none⟩ = some (.int .i64 s.v) := (hb.cell (p := ⟨v2.heap.size, 3, none⟩) zcs).trans cs3
      replace cs4 : v7.cell? ⟨v2.heap.size, 4, none⟩ = some (.int .i64 s.t) := (hb.cell (p := ⟨v2.heap.size, 4, none⟩) zcs).trans cs4
      replace zcs : v2.heap.size < v7.heap.size := Nat.lt_of_lt_of_le zcs hb.size
      replace cu0 : v7.cell? ⟨v3.heap.size, 0, none⟩ = some (.bool s2.u) := (hb.cell (p := ⟨v3.heap.size, 0, none⟩) zcu).trans cu0
      replace cu1 : v7.cell? ⟨v3.heap.size, 1, none⟩ = some (.int .i64 s2.a) := (hb.cell (p := ⟨v3.heap.size, 1, none⟩) zcu).trans cu1
      replace cu2 : v7.cell? ⟨v3.heap.size, 2, none⟩ = some (.int .i64 s2.p) := (hb.cell (p := ⟨v3.heap.size, 2, none⟩) zcu).trans cu2
      replace cu3 : v7.cell? ⟨v3.heap.size, 3, none⟩ = some (.int .i64 s2.v) := (hb.cell (p := ⟨v3.heap.size, 3, none⟩) zcu).trans cu3
      replace cu4 : v7.cell? ⟨v3.heap.size, 4, none⟩ = some (.int .i64 s2.t) := (hb.cell (p := ⟨v3.heap.size, 4, none⟩) zcu).trans cu4
      replace zcu : v3.heap.size < v7.heap.size := Nat.lt_of_lt_of_le zcu hb.size
      replace HB := hide (HB.out.trans (hb.mono HB.out.size))
      clear hb
      go_wp2_with fail
      refine (tables_any v7).mono ?_
      rintro e v8 ⟨rfl, hb⟩
      replace ct0 : v8.cell? ⟨v0.heap.size, 0, none⟩ = some (.slice ot n ct) := (hb.cell (p := ⟨v0.heap.size, 0, none⟩) zct).trans ct0
      replace zct : v0.heap.size < v8.heap.size := Nat.lt_of_lt_of_le zct hb.size
      replace cf0 : v8.cell? ⟨v0.heap.size + 1, 0, none⟩ = some (.int .i64 fa) := (hb.cell (p := ⟨v0.heap.size + 1, 0, none⟩) zcf).trans cf0
      replace cf1 : v8.cell? ⟨v0.heap.size + 1, 1, none⟩ = some (.int .i64 fp) := (hb.cell (p := ⟨v0.heap.size + 1, 1, none⟩) zcf).trans cf1
      replace zcf : v0.heap.size + 1 < v8.heap.size := Nat.lt_of_lt_of_le zcf hb.size
      replace cx0 : v8.cell? ⟨v1.heap.size, 0, none⟩ = some (.slice ox nx cx) := (hb.cell (p := ⟨v1.heap.size, 0, none⟩) zcx).trans cx0
      replace zcx : v1.heap.size < v8.heap.size := Nat.lt_of_lt_of_le zcx hb.size
      replace cs0 : v8.cell? ⟨v2.heap.size, 0, none⟩ = some (.bool s.u) := (hb.cell (p := ⟨v2.heap.size, 0, none⟩) zcs).trans cs0
      replace cs1 : v8.cell? ⟨v2.heap.size, 1, none⟩ = some (.int .i64 s.a) := (hb.cell (p := ⟨v2.heap.size, 1, none⟩) zcs).trans cs1
      replace cs2 : v8.cell? ⟨v2.heap.size, 2, none⟩ = some (.int .i64 s.p) := (hb.cell (p := ⟨v2.heap.size, 2, none⟩) zcs).trans cs2
      replace cs3 : v8.cell? ⟨v2.heap.size, 3, none⟩ = some (.int .i64 s.v) := (hb.cell (p := ⟨v2.heap.size, 3, none⟩) zcs).trans cs3
      replace cs4 : v8.cell? ⟨v2.heap.size, 4, none⟩ = some (.int .i64 s.t) := (hb.cell (p := ⟨v2.heap.size, 4, none⟩) zcs).trans cs4
      replace zcs : v2.heap.size < v8.heap.size := Nat.lt_of_lt_of_le zcs hb.size
      replace cu0 : v8.cell? ⟨v3.heap.size, 0, none⟩ = some (.bool s2.u) := (hb.cell (p := ⟨v3.heap.size, 0, none⟩) zcu).trans cu0
      replace cu1 : v8.cell? ⟨v3.heap.size, 1, none⟩ = some (.int .i64 s2.a) := (hb.cell (p := ⟨v3.heap.size, 1, none⟩) zcu).trans cu1
      replace cu2 : v8.cell? ⟨v3.heap.size, 2, none⟩ = some (.int .i64 s2.p) := (hb.cell (p := ⟨v3.heap.size, 2, none⟩) zcu).trans cu2
      replace cu3 : v8.cell? ⟨v3.heap.size, 3, none⟩ = some (.int .i64 s2.v) := (hb.cell (p := ⟨v3.heap.size, 3, none⟩) zcu).trans cu3
      replace cu4 : v8.cell? ⟨v3.heap.size, 4, none⟩ = some (.int .i64 s2.t) := (hb.cell (p := ⟨v3.heap.size, 4, none⟩) zcu).trans cu4
      replace zcu : v3.heap.size < v8.heap.size := Nat.lt_of_lt_of_le zcu hb.size
      replace HB := hide (HB.out.trans (hb.mono HB.out.size))
      clear hb
      go_wp2
      go_ret
      exact ⟨rfl, HB.out⟩
    | true =>
      rw [hw] at H2 H6
      simp only [if_true, Bool.false_eq_true, if_false, Int.add_zero] at H6
      have hwr := HW.out
      clear hw
      go_wp2_with fail
      refine (H2.out W6 (HI.out.rd.le (by omega))).mono ?_
      rintro e v3 ⟨rfl, hb⟩
      replace HI := hide (HI.out.step (Stp.of (lo := 0) (hi := 0) hb) (.inl (Nat.zero_le _)))
      replace HX := hide (HX.out.step (Stp.of (lo := 0) (hi := 0) hb) (.inl (Nat.zero_le _)))
      replace ct0 : v3.cell? ⟨v0.heap.size, 0, none⟩ = some (.slice ot n ct) := (hb.cell (p := ⟨v0.heap.size, 0, none⟩) zct).trans ct0
      replace zct : v0.heap.size < v3.heap.size := Nat.lt_of_lt_of_le zct hb.size
      replace cf0 : v3.cell? ⟨v0.heap.size + 1, 0, none⟩ = some (.int .i64 fa) := (hb.cell (p := ⟨v0.heap.size + 1, 0, none⟩) zcf).trans cf0
      replace cf1 : v3.cell? ⟨v0.heap.size + 1, 1, none⟩ = some (.int .i64 fp) := (hb.cell (p := ⟨v0.heap.size + 1, 1, none⟩) zcf).trans cf1
      replace zcf : v0.heap.size + 1 < v3.heap.size := Nat.lt_of_lt_of_le zcf hb.size
      replace cx0 : v3.cell? ⟨v1.heap.size, 0, none⟩ = some (.slice ox nx cx) := (hb.cell (p := ⟨v1.heap.size, 0, none⟩) zcx).trans cx0
      replace zcx : v1.heap.size < v3.heap.size := Nat.lt_of_lt_of_le zcx hb.size
      replace cs0 : v3.cell? ⟨v2.heap.size, 0, none⟩ = some (.bool s.u) := (hb.cell (p := ⟨v2.heap.size, 0, none⟩) zcs).trans cs0
      replace cs1 : v3.cell? ⟨v2.heap.size, 1, none⟩ = some (.int .i64 s.a) := (hb.cell (p := ⟨v2.heap.size, 1, none⟩) zcs).trans cs1
      replace cs2 : v3.cell? ⟨v2.heap.size, 2, none⟩ = some (.int .i64 s.p) := (hb.cell (p := ⟨v2.heap.size, 2, none⟩) zcs).trans cs2
      replace cs3 : v3.cell? ⟨v2.heap.size, 3, none⟩ = some (.int .i64 s.v) := (hb.cell (p := ⟨v2.heap.size, 3, none⟩) zcs).trans cs3
      replace cs4 : v3.cell? ⟨v2.heap.size, 4, none⟩ = some (.int .i64 s.t) := (hb.cell (p := ⟨v2.heap.size, 4, none⟩) zcs).trans cs4
      replace zcs : v2.heap.size < v3.heap.size := Nat.lt_of_lt_of_le zcs hb.size
      replace HB := hide (HB.out.trans (hb.mono HB.out.size))
      clear hb
      obtain ⟨W8, hW8⟩ : ∃ W, (v3.alloc (.cells #[.bool s2.u, .int .i64 s2.a, .int .i64 s2.p, .int .i64 s2.v, .int .i64 s2.t] 35)) = W := ⟨_, rfl⟩
      have hb_W8 : Below v3.heap.size v3 W8 := by rw [← hW8]; exact ((Below.refl _ _).alloc (Nat.le_refl _) _)
      replace ct0 : W8.cell? ⟨v0.heap.size, 0, none⟩ = some (.slice ot n ct) := (hb_W8.cell (p := ⟨v0.heap.size, 0, none⟩) zct).trans ct0
      replace zct : v0.heap.size < W8.heap.size := Nat.lt_of_lt_of_le zct hb_W8.size
      replace cf0 : W8.cell? ⟨v0.heap.size + 1, 0, none⟩ = some (.int .i64 fa) := (hb_W8.cell (p := ⟨v0.heap.size + 1, 0, none⟩) zcf).trans cf0
      replace cf1 : W8.cell? ⟨v0.heap.size + 1, 1, none⟩ = some (.int .i64 fp) := (hb_W8.cell (p := ⟨v0.heap.size + 1, 1, none⟩) zcf).trans cf1
      replace zcf : v0.heap.size + 1 < W8.heap.size := Nat.lt_of_lt_of_le zcf hb_W8.size
      replace cx0 : W8.cell? ⟨v1.heap.size, 0, none⟩ = some (.slice ox nx cx) := (hb_W8.cell (p := ⟨v1.heap.size, 0, none⟩) zcx).trans cx0
      replace zcx : v1.heap.size < W8.heap.size := Nat.lt_of_lt_of_le zcx hb_W8.size
      replace cs0 : W8.cell? ⟨v2.heap.size, 0, none⟩ = some (.bool s.u) := (hb_W8.cell (p := ⟨v2.heap.size, 0, none⟩) zcs).trans cs0
      replace cs1 : W8.cell? ⟨v2.heap.size, 1, none⟩ = some (.int .i64 s.a) := (hb_W8.cell (p := ⟨v2.heap.size, 1, none⟩) zcs).trans cs1
      replace cs2 : W8.cell? ⟨v2.heap.size, 2, none⟩ = some (.int .i64 s.p) := (hb_W8.cell (p := ⟨v2.heap.size, 2, none⟩) zcs).trans cs2
      replace cs3 : W8.cell? ⟨v2.heap.size, 3, none⟩ = some (.int .i64 s.v) := (hb_W8.cell (p := ⟨v2.heap.size, 3, none⟩) zcs).trans cs3
      replace cs4 : W8.cell? ⟨v2.heap.size, 4, none⟩ = some (.int .i64 s.t) := (hb_W8.cell (p := ⟨v2.heap.size, 4, none⟩) zcs).trans cs4
      replace zcs : v2.heap.size < W8.heap.size := Nat.lt_of_lt_of_le zcs hb_W8.size
      replace HB := hide (HB.out.trans (hb_W8.mono HB.out.size))
      have HIn := hide (HI.out.step (Stp.of (lo := 0) (hi := 0) hb_W8) (.inl (Nat.zero_le _)))
      have HXn := hide (HX.out.step (Stp.of (lo := 0) (hi := 0) hb_W8) (.inl (Nat.zero_le _)))
      clear HI
      have HI := HIn
      clear HIn
      clear HX
      have HX := HXn
      clear HXn
      clear hb_W8
      have zcu : v3.heap.size < W8.heap.size := by rw [← hW8]; simp
      have cu0 : W8.cell? ⟨v3.heap.size, 0, none⟩ = some (.bool s2.u) := by rw [← hW8]; simp [go_sem]
      have cu1 : W8.cell? ⟨v3.heap.size, 1, none⟩ = some (.int .i64 s2.a) := by rw [← hW8]; simp [go_sem]
      have cu2 : W8.cell? ⟨v3.heap.size, 2, none⟩ = some (.int .i64 s2.p) := by rw [← hW8]; simp [go_sem]
      have cu3 : W8.cell? ⟨v3.heap.size, 3, none⟩ = some (.int .i64 s2.v) := by rw [← hW8]; simp [go_sem]
      have cu4 : W8.cell? ⟨v3.heap.size, 4, none⟩ = some (.int .i64 s2.t) := by rw [← hW8]; simp [go_sem]
      go_wp2_with fail
      refine (H4.out W8 (HI.out.rd.le (by omega)) HI.out.cap).mono ?_
      rintro e v4 ⟨rfl, hb⟩
      replace HI := hide (HI.out.step (Stp.of (lo := 0) (hi := 0) hb) (.inl (Nat.zero_le _)))
      replace HX := hide (HX.out.step (Stp.of (lo := 0) (hi := 0) hb) (.inl (Nat.zero_le _)))
      replace ct0 : v4.cell? ⟨v0.heap.size, 0, none⟩ = some (.slice ot n ct) := (hb.cell (p := ⟨v0.heap.size, 0, none⟩) zct).trans ct0
      replace zct : v0.heap.size < v4.heap.size := Nat.lt_of_lt_of_le zct hb.size
      replace cf0 : v4.cell? ⟨v0.heap.size + 1, 0, none⟩ = some (.int .i64 fa) := (hb.cell (p := ⟨v0.heap.size + 1, 0, none⟩) zcf).trans cf0
      replace cf1 : v4.cell? ⟨v0.heap.size + 1, 1, none⟩ = some (.int .i64 fp) := (hb.cell (p := ⟨v0.heap.size + 1, 1, none⟩) zcf).trans cf1
      replace zcf : v0.heap.size + 1 < v4.heap.size := Nat.lt_of_lt_of_le zcf hb.size
      replace cx0 : v4.cell? ⟨v1.heap.size, 0, none⟩ = some (.slice ox nx cx) := (hb.cell (p := ⟨v1.heap.size, 0, none⟩) zcx).trans cx0
      replace zcx : v1.heap.size < v4.heap.size := Nat.lt_of_lt_of_le zcx hb.size
      replace cs0 : v4.cell? ⟨v2.heap.size, 0, none⟩ = some (.bool s.u) := (hb.cell (p := ⟨v2.heap.size, 0, none⟩) zcs).trans cs0
      replace cs1 : v4.cell? ⟨v2.heap.size, 1, none⟩ = some (.int .i64 s.a) := (hb.cell (p := ⟨v2.heap.size, 1, none⟩) zcs).trans cs1
      replace cs2 : v4.cell? ⟨v2.heap.size, 2, none⟩ = some (.int .i64 s.p) := (hb.cell (p := ⟨v2.heap.size, 2, none⟩) zcs).trans cs2
      replace cs3 : v4.cell? ⟨v2.heap.size, 3, none⟩ = some (.int .i64 s.v) := (hb.cell (p := ⟨v2.heap.size, 3, none⟩) zcs).trans cs3
      replace cs4 : v4.cell? ⟨v2.heap.size, 4, none⟩ = some (.int .i64 s.t) := (hb.cell (p := ⟨v2.heap.size, 4, none⟩) zcs).trans cs4
      replace zcs : v2.heap.size < v4.heap.size := Nat.lt_of_lt_of_le zcs hb.size
      replace cu0 : v4.cell? ⟨v3.heap.size, 0, none⟩ = some (.bool s2.u) := (hb.cell (p := ⟨v3.heap.size, 0, none⟩) zcu).trans cu0
      replace cu1 : v4.cell? ⟨v3.heap.size, 1, none⟩ = some (.int .i64 s2.a) := (hb.cell (p := ⟨v3.heap.size, 1, none⟩) zcu).trans cu1
      replace cu2 : v4.cell? ⟨v3.heap.size, 2, none⟩ = some (.int .i64 s2.p) := (hb.cell (p := ⟨v3.heap.size, 2, none⟩) zcu).trans cu2
      replace cu3 : v4.cell? ⟨v3.heap.size, 3, none⟩ = some (.int .i64 s2.v) := (hb.cell (p := ⟨v3.heap.size, 3, none⟩) zcu).trans cu3
      replace cu4 : v4.cell? ⟨v3.heap.size, 4, none⟩ = some (.int .i64 s2.t) := (hb.cell (p := ⟨v3.heap.size, 4, none⟩) zcu).trans cu4
      replace zcu : v3.heap.size < v4.heap.size := Nat.lt_of_lt_of_le zcu hb.size
      replace HB := hide (HB.out.trans (hb.mono HB.out.size))
      clear hb
      have hsv := HSV.out
      have hst := HST.out
      go_wp2_with fail
      refine (H5.out v4 (HX.out.rd.le (by omega))).mono ?_
      rintro e v5 ⟨rfl, hb⟩
      replace HI := hide (HI.out.step (Stp.of (lo := 0) (hi := 0) hb) (.inl (Nat.zero_le _)))
      replace HX := hide (HX.out.step (Stp.of (lo := 0) (hi := 0) hb) (.inl (Nat.zero_le _)))
      clear hsv hst
      replace ct0 : v5.cell? ⟨v0.heap.size, 0, none⟩ = some (.slice ot n ct) := (hb.cell (p := ⟨v0.heap.size, 0, none⟩) zct).trans ct0
      replace zct : v0.heap.size < v5.heap.size := Nat.lt_of_lt_of_le zct hb.size
      replace cf0 : v5.cell? ⟨v0.heap.size + 1, 0, none⟩ = some (.int .i64 fa) := (hb.cell (p := ⟨v0.heap.size + 1, 0, none⟩) zcf).trans cf0
      replace cf1 : v5.cell? ⟨v0.heap.size + 1, 1, none⟩ = some (.int .i64 fp) := (hb.cell (p := ⟨v0.heap.size + 1, 1, none⟩) zcf).trans cf1
      replace zcf : v0.heap.size + 1 < v5.heap.size := Nat.lt_of_lt_of_le zcf hb.size
      replace cx0 : v5.cell? ⟨v1.heap.size, 0, none⟩ = some (.slice ox nx cx) := (hb.cell (p := ⟨v1.heap.size, 0, none⟩) zcx).trans cx0
      replace zcx : v1.heap.size < v5.heap.size := Nat.lt_of_lt_of_le zcx hb.size
      replace cs0 : v5.cell? ⟨v2.heap.size, 0, none⟩ = some (.bool s.u) := (hb.cell (p := ⟨v2.heap.size, 0, none⟩) zcs).trans cs0
      replace cs1 : v5.cell? ⟨v2.heap.size, 1, none⟩ = some (.int .i64 s.a) := (hb.cell (p := ⟨v2.heap.size, 1, none⟩) zcs).trans cs1
      replace cs2 : v5.cell? ⟨v2.heap.size, 2, none⟩ = some (.int .i64 s.p) := (hb.cell (p := ⟨v2.heap.size, 2, none⟩) zcs).trans cs2
      replace cs3 : v5.cell? ⟨v2.heap.size, 3, none⟩ = some (.int .i64 s.v) := (hb.cell (p := ⟨v2.heap.size, 3, none⟩) zcs).trans cs3
      replace cs4 : v5.cell? ⟨v2.heap.size, 4, none⟩ = some (.int .i64 s.t) := (hb.cell (p := ⟨v2.heap.size, 4, none⟩) zcs).trans cs4
      replace zcs : v2.heap.size < v5.heap.size := Nat.lt_of_lt_of_le zcs hb.size
      replace cu0 : v5.cell? ⟨v3.heap.size, 0, none⟩ = some (.bool s2.u) := (hb.cell (p := ⟨v3.heap.size, 0, none⟩) zcu).trans cu0
      replace cu1 : v5.cell? ⟨v3.heap.size, 1, none⟩ = some (.int .i64 s2.a) := (hb.cell (p := ⟨v3.heap.size, 1, none⟩) zcu).trans cu1
      replace cu2 : v5.cell? ⟨v3.heap.size, 2, none⟩ = some (.int .i64 s2.p) := (hb.cell (p := ⟨v3.heap.size, 2, none⟩) zcu).trans cu2
      replace cu3 : v5.cell? ⟨v3.heap.size, 3, none⟩ = some (.int .i64 s2.v) := (hb.cell (p := ⟨v3.heap.size, 3, none⟩) zcu).trans cu3
      replace cu4 : v5.cell? ⟨v3.heap.size, 4, none⟩ = some (.int .i64 s2.t) := (hb.cell (p := ⟨v3.heap.size, 4, none⟩) zcu).trans cu4
      replace zcu : v3.heap.size < v5.heap.size := Nat.lt_of_lt_of_le zcu hb.size
      replace HB := hide (HB.out.trans (hb.mono HB.out.size))
      clear hb
      go_wp2_with fail
      refine (H6.out v5 (HX.out.rd.le (by omega))).mono ?_
      rintro e v6 ⟨rfl, hb⟩
      replace HI := hide (HI.out.step (Stp.of (lo := 0) (hi := 0) hb) (.inl (Nat.zero_le _)))
      replace HX := hide (HX.out.step (Stp.of (lo := 0) (hi := 0) hb) (.inl (Nat.zero_le _)))
      replace ct0 : v6.cell? ⟨v0.heap.size, 0, none⟩ = some (.slice ot n ct) := (hb.cell (p := ⟨v0.heap.size, 0, none⟩) zct).trans ct0
      replace zct : v0.heap.size < v6.heap.size := Nat.lt_of_lt_of_le zct hb.size
      replace cf0 : v6.cell? ⟨v0.heap.size + 1, 0, none⟩ = some (.int .i64 fa) := (hb.cell (p := ⟨v0.heap.size + 1, 0, none⟩) zcf).trans cf0
      replace cf1 : v6.cell? ⟨v0.heap.size + 1, 1, none⟩ = some (.int .i64 fp) := (hb.cell (p := ⟨v0.heap.size + 1, 1, none⟩) zcf).trans cf1
      replace zcf : v0.heap.size + 1 < v6.heap.size := Nat.lt_of_lt_of_le zcf hb.size
      replace cx0 : v6.cell? ⟨v1.heap.size, 0, none⟩ = some (.slice ox nx cx) := (hb.cell (p := ⟨v1.heap.size, 0, none⟩) zcx).trans cx0
      replace zcx : v1.heap.size < v6.heap.size := Nat.lt_of_lt_of_le zcx hb.size
      replace cs0 : v6.cell? ⟨v2.heap.size, 0, none⟩ = some (.bool s.u) := (hb.cell (p := ⟨v2.heap.size, 0, none⟩) zcs).trans cs0
      replace cs1 : v6.cell? ⟨v2.heap.size, 1, none⟩ = some (.int .i64 s.a) := (hb.cell (p := ⟨v2.heap.size, 1, none⟩) zcs).trans cs1
      replace cs2 : v6.cell? ⟨v2.heap.size, 2, none⟩ = some (.int .i64 s.p) := (hb.cell (p := ⟨v2.heap.size, 2, none⟩) zcs).trans cs2
      replace cs3 : v6.cell? ⟨v2.heap.size, 3, none⟩ = some (.int .i64 s.v) := (hb.cell (p := ⟨v2.heap.size, 3, none⟩) zcs).trans cs3
      replace cs4 : v6.cell? ⟨v2.heap.size, 4, none⟩ = some (.int .i64 s.t) := (hb.cell (p := ⟨v2.heap.size, 4, none⟩) zcs).trans cs4
      replace zcs : v2.heap.size < v6.heap.size := Nat.lt_of_lt_of_le zcs hb.size
      replace cu0 : v6.cell? ⟨v3.heap.size, 0, none⟩ = some (.bool s2.u) := (hb.cell (p := ⟨v3.heap.size, 0, none⟩) zcu).trans cu0
      replace cu1 : v6.cell? ⟨v3.heap.size, 1, none⟩ = some (.int .i64 s2.a) := (hb.cell (p := ⟨v3.heap.size, 1, none⟩) zcu).trans cu1
      replace cu2 : v6.cell? ⟨v3.heap.size, 2, none⟩ = some (.int .i64 s2.p) := (hb.cell (p := ⟨v3.heap.size, 2, none⟩) zcu).trans cu2
      replace cu3 : v6.cell? ⟨v3.heap.size, 3, none⟩ = some (.int .i64 s2.v) := (hb.cell (p := ⟨v3.heap.size, 3, none⟩) zcu).trans cu3
      replace cu4 : v6.cell? ⟨v3.heap.size, 4, none⟩ = some (.int .i64 s2.t) := (hb.cell (p := ⟨v3.heap.size, 4, none⟩) zcu).trans cu4
      replace zcu : v3.heap.size < v6.heap.size := Nat.lt_of_lt_of_le zcu hb.size
      replace HB := hide (HB.out.trans (hb.mono HB.out.size))
      clear hb
      go_wp2_with fail
      refine (others_any (tab (.slice ot n ct)) (tab (.slice ox nx cx)) m mx fa fp v6 (HI.out.rd.le (by omega)) (HX.out.rd.le (by omega)) (by have := HN.out; omega) hml HEl.out).mono ?_
      rintro e v7 ⟨rfl, hb⟩
      replace HI := hide (HI.out.step (Stp.of (lo := 0) (hi := 0) hb) (.inl (Nat.zero_le _)))
      replace HX := hide (HX.out.step (Stp.of (lo := 0) (hi := 0) hb) (.inl (Nat.zero_le _)))
      replace ct0 : v7.cell? ⟨v0.heap.size, 0, none⟩ = some (.slice ot n ct) := (hb.cell (p := ⟨v0.heap.size, 0, none⟩) zct).trans ct0
      replace zct : v0.heap.size < v7.heap.size := Nat.lt_of_lt_of_le zct hb.size
      replace cf0 : v7.cell? ⟨v0.heap.size + 1, 0, none⟩ = some (.int .i64 fa) := (hb.cell (p := ⟨v0.heap.size + 1, 0, none⟩) zcf).trans cf0
      replace cf1 : v7.cell? ⟨v0.heap.size + 1, 1, none⟩ = some (.int .i64 fp) := (hb.cell (p := ⟨v0.heap.size + 1, 1, none⟩) zcf).trans cf1
      replace zcf : v0.heap.size + 1 < v7.heap.size := Nat.lt_of_lt_of_le zcf hb.size
      replace cx0 : v7.cell? ⟨v1.heap.size, 0, none⟩ = some (.slice ox nx cx) := (hb.cell (p := ⟨v1.heap.size, 0, none⟩) zcx).trans cx0
      replace zcx : v1.heap.size < v7.heap.size := Nat.lt_of_lt_of_le zcx hb.size
      replace cs0 : v7.cell? ⟨v2.heap.size, 0, none⟩ = some (.bool s.u) := (hb.cell (p := ⟨v2.heap.size, 0, none⟩) zcs).trans cs0
      replace cs1 : v7.cell? ⟨v2.heap.size, 1, none⟩ = some (.int .i64 s.a) := (hb.cell (p := ⟨v2.heap.size, 1, none⟩) zcs).trans cs1
      replace cs2 : v7.cell? ⟨v2.heap.size, 2, none⟩ = some (.int .i64 s.p) := (hb.cell (p := ⟨v2.heap.size, 2, none⟩) zcs).trans cs2
      replace cs3 : v7.cell? ⟨v2.heap.size, 3, none⟩ = some (.int .i64 s.v) := (hb.cell (p := ⟨v2.heap.size, 3, none⟩) zcs).trans cs3
      replace cs4 : v7.cell? ⟨v2.heap.size, 4, none⟩ = some (.int .i64 s.t) := (hb.cell (p := ⟨v2.heap.size, 4, none⟩) zcs).trans cs4
      replace zcs : v2.heap.size < v7.heap.size := Nat.lt_of_lt_of_le zcs hb.size
      replace cu0 : v7.cell? ⟨v3.heap.size, 0, none⟩ = some (.bool s2.u) := (hb.cell (p := ⟨v3.heap.size, 0, none⟩) zcu).trans cu0
      replace cu1 : v7.cell? ⟨v3.heap.size, 1, none⟩ = some (.int .i64 s2.a) := (hb.cell (p := ⟨v3.heap.size, 1, none⟩) zcu).trans cu1
      replace cu2 : v7.cell? ⟨v3.heap.size, 2, none⟩ = some (.int .i64 s2.p) := (hb.cell (p := ⟨v3.heap.size, 2, none⟩) zcu).trans cu2
      replace cu3 : v7.cell? ⟨v3.heap.size, 3, none⟩ = some (.int .i64 s2.v) := (hb.cell (p := ⟨v3.heap.size, 3, none⟩) zcu).trans cu3
      replace cu4 : v7.cell? ⟨v3.heap.size, 4, none⟩ = some (.int .i64 s2.t) := (hb.cell (p := ⟨v3.heap.size, 4, none⟩) zcu).trans cu4
      replace zcu : v3.heap.size < v7.heap.size := Nat.lt_of_lt_of_le zcu hb.size
      replace HB := hide (HB.out.trans (hb.mono HB.out.size))
      clear hb
      go_wp2_with fail
      refine (tables_any v7).mono ?_
      rintro e v8 ⟨rfl, hb⟩
      replace ct0 : v8.cell? ⟨v0.heap.size, 0, none⟩ = some (.slice ot n ct) := (hb.cell (p := ⟨v0.heap.size, 0, none⟩) zct).trans ct0
      replace zct : v0.heap.size < v8.heap.size := Nat.lt_of_lt_of_le zct hb.size
      replace cf0 : v8.cell? ⟨v0.heap.size + 1, 0, none⟩ = some (.int .i64 fa) := (hb.cell (p := ⟨v0.heap.size + 1, 0, none⟩) zcf).trans cf0
      replace cf1 : v8.cell? ⟨v0.heap.size + 1, 1, none⟩ = some (.int .i64 fp) := (hb.cell (p := ⟨v0.heap.size + 1, 1, none⟩) zcf).trans cf1
      replace zcf : v0.heap.size + 1 < v8.heap.size := Nat.lt_of_lt_of_le zcf hb.size
      replace cx0 : v8.cell? ⟨v1.heap.size, 0, none⟩ = some (.slice ox nx cx) := (hb.cell (p := ⟨v1.heap.size, 0, none⟩) zcx).trans cx0
      replace zcx : v1.heap.size < v8.heap.size := Nat.lt_of_lt_of_le zcx hb.size
      replace cs0 : v8.cell? ⟨v2.heap.size, 0, none⟩ = some (.bool s.u) := (hb.cell (p := ⟨v2.heap.size, 0, none⟩) zcs).trans cs0
      replace cs1 : v8.cell? ⟨v2.heap.size, 1, none⟩ = some (.int .i64 s.a) := (hb.cell (p := ⟨v2.heap.size, 1, none⟩) zcs).trans cs1
      replace cs2 : v8.cell? ⟨v2.heap.size, 2, none⟩ = some (.int .i64 s.p) := (hb.cell (p := ⟨v2.heap.size, 2, none⟩) zcs).trans cs2
      replace cs3 : v8.cell? ⟨v2.heap.size, 3, none⟩ = some (.int .i64 s.v) := (hb.cell (p := ⟨v2.heap.size, 3, none⟩) zcs).trans cs3
      replace cs4 : v8.cell? ⟨v2.heap.size, 4, none⟩ = some (.int .i64 s.t) := (hb.cell (p := ⟨v2.heap.size, 4, none⟩) zcs).trans cs4
      replace zcs : v2.heap.size < v8.heap.size := Nat.lt_of_lt_of_le zcs hb.size
      replace cu0 : v8.cell? ⟨v3.heap.size, 0, none⟩ = some (.bool s2.u) := (hb.cell (p := ⟨v3.heap.size, 0, none⟩) zcu).trans cu0
      replace cu1 : v8.cell? ⟨v3.heap.size, 1, none⟩ = some (.int .i64 s2.a) := (hb.cell (p := ⟨v3.heap.size, 1, none⟩) zcu).trans cu1
      replace cu2 : v8.cell? ⟨v3.heap.size, 2, none⟩ = some (.int .i64 s2.p) := (hb.cell (p := ⟨v3.heap.size, 2, none⟩) zcu).trans cu2
      replace cu3 : v8.cell? ⟨v3.heap.size, 3, none⟩ = some (.int .i64 s2.v) := (hb.cell (p := ⟨v3.heap.size, 3, none⟩) zcu).trans cu3
      replace cu4 : v8.cell? ⟨v3.heap.size, 4, none⟩ = some (.int .i64 s2.t) := (hb.cell (p := ⟨v3.heap.size, 4, none⟩) zcu).trans cu4
      replace zcu : v3.heap.size < v8.heap.size := Nat.lt_of_lt_of_le zcu hb.size
      replace HB := hide (HB.out.trans (hb.mono HB.out.size))
      clear hb
      go_wp2
      go_ret
      exact ⟨rfl, HB.out⟩

set_option maxRecDepth 100000 in
theorem fnPuts_lifted (os : Os) (started : os.Started) (H : Type) (enc : TypeId × Value → H) :
    ReturnsInHanded {} Try.checked os 3 .any (Rows.fnPutsSpec.pre6 enc Try.prog Try.f3 Rows.fnPutsRow.domain false) (Rows.fnPutsSpec.post enc Try.prog Try.f3 false true false false) := by
  refine returnsInHanded_of_change (C := Try.checked) own started (by kernel_rfl) Try.func3
    (ChangeSpec.witness6 (enc := enc) (C := Try.checked) false ⟨#[], #[.slice none 0 0], []⟩ 8 (by kernel_rfl) (by kernel_rfl) (by kernel_rfl) (by kernel_rfl)) ?_
  intro W base args ds gs before hval0 hW hcnd _
  have hval : ∀ (j : Nat) t v, Try.f3.params[j]? = some t → args[j]? = some v → Value.okWide Try.prog W .any base t v := hval0
  have hW' := hW
  obtain ⟨p, q, hA0, hV, rfl, hfz, hnd⟩ := hW
  have hA : DataW.TrodAll enc Try.prog W 0 (fun _ => true) true Try.f3.params.toList args.toList ds p := hA0
  rw [Try.params3] at hA hval
  obtain ⟨v0, vs0, d0, ds0, p0, q0, hargs, rfl, rfl, h0, r0⟩ := trodAll_cons hA
  obtain ⟨rfl, rfl, rfl⟩ := trodAll_nil r0
  obtain rfl : args = #[v0] := by cases args; simp_all
  obtain ⟨rfl, rfl⟩ := trodVars_none hV
  have k0 := h0
  have lt0 : ∀ x ∈ p0, x.block < W.heap.size := by obtain ⟨m, hm⟩ := k0; exact DataW.trod_lt m _ _ _ hm
  obtain ⟨o0, cap0, l0, rfl, hm0, hR0, hB80⟩ := open_bytes (hval 0 22 v0 rfl rfl) h0
  clear hA0 hval0
  refine (lawPuts o0 cap0 l0 W hm0 hR0 hB80 ).mono fun e W' ⟨he, bel⟩ => ?_
  subst he
  exact ⟨_, rfl, _, _, _, [], _, [], hW', trodAll_mk1 (shut_bool Try.underlying4 _), (trodAll_cons_mk (Below.trod laidOut (by kernel_rfl) (of_decide_eq_true (by kernel_rfl)) k0 bel lt0) trodAll_mk0), rfl, bel.frame _, fun h => by cases h⟩

theorem fnPuts_over : Rows.fnPutsRow.holds Try.pinned (OpenSpec.ofChange Rows.fnPutsSpec) :=
  OpenClaim.holds_of_wide 3 Try.f3 rfl rfl rfl rfl rfl rfl rfl ⟨rfl, rfl, rfl, rfl, rfl⟩ rfl rfl rfl rfl rfl (by kernel_rfl) Try.func3 (by kernel_rfl)
    (of_decide_eq_true (by kernel_rfl)) (by unfold Func.isWrapper; first | (rw [if_pos (by decide +kernel)]; kernel_rfl) | (rw [if_neg (by decide +kernel)]; exact ⟨rfl, rfl⟩))
    (fun os started H enc _ => fnPuts_lifted os started H enc)

theorem fnPuts_holds : Rows.FnPutsSaid := fnPuts_over


end Go.Proofs.Ytiijecnhbioehaa
