/- For all bytes the law FnDrops answers true, and the bytes read as they did: what is dropped of a drawn table is not got; all else is as it was, wherever it stands. No conditions. -/
import Derived.Test.YtiijecnhbioehaaGrElseMath
import Derived.Test.YtiijecnhbioehaaGrSHome5T
namespace Go.Proofs.Ytiijecnhbioehaa
open Go.ChangeShapes Go.WideShapes Go.ChangeAt Go.RowKit Go.Joins
set_option linter.unusedVariables false
set_option linter.unusedSimpArgs false

set_option maxHeartbeats 2000000 in
theorem drawDrop_any (o : Option Addr) (cap : Nat) (l : List Int) (w : World) (hR : Rd w o l) (hB8 : isB l) (hm : l.length ≤ maxLen) :
    Calls Try.prog 25 #[.slice o l.length cap] w fun e w' => ∃ v m a p, e = .returned (.tuple #[v, flow a p]) ∧ (1 ≤ m.length ∧ m.length ≤ 16) ∧ InT w.heap.size w'.heap.size w' v m ∧ Below w.heap.size w w' := by
  obtain ⟨W0, hW0⟩ : ∃ W, ((w.alloc (.cells #[.slice none 0 0] 25)).alloc (.cells #[.int .i64 0, .int .i64 0] 27)) = W := ⟨_, rfl⟩
  have hb_W0 : Below w.heap.size w W0 := by rw [← hW0]; exact (((Below.refl _ _).alloc (Nat.le_refl _) _).alloc (by simp <;> omega) _)
  have HB := hide hb_W0
  clear hb_W0
  have zx : w.heap.size < W0.heap.size := by rw [← hW0]; simp <;> omega
  have x0 : W0.cell? ⟨w.heap.size, 0, none⟩ = some (.slice none 0 0) := by rw [← hW0]; simp [go_sem]
  have fx0 : W0.frozen? ⟨w.heap.size, 0, none⟩ = false := by rw [← hW0]; simp [go_sem]
  have zy : w.heap.size + 1 < W0.heap.size := by rw [← hW0]; simp
  have y0 : W0.cell? ⟨w.heap.size + 1, 0, none⟩ = some (.int .i64 0) := by rw [← hW0]; simp [go_sem]
  have y1 : W0.cell? ⟨w.heap.size + 1, 1, none⟩ = some (.int .i64 0) := by rw [← hW0]; simp [go_sem]
  have fy0 : W0.frozen? ⟨w.heap.size + 1, 0, none⟩ = false := by rw [← hW0]; simp [go_sem]
  have fy1 : W0.frozen? ⟨w.heap.size + 1, 1, none⟩ = false := by rw [← hW0]; simp [go_sem]
  have hz0 := zy
  have hD := drawHome_any o cap l W0 (Rd.kept hR HB.out) hB8 hm
  clear hR
  go_enter Try.func25, Try.ntmps25
  go_wp2_with fail
  refine (hD).mono ?_
  rintro e v1 ⟨vt, m, fa, fp, rfl, hln, hin, hb⟩
  obtain ⟨ot, ct, hve⟩ := InT.opn hin
  subst hve
  have HI := hide hin
  have hs1 := hb.size
  clear hin
  replace x0 : v1.cell? ⟨w.heap.size, 0, none⟩ = some (.slice none 0 0) := (hb.cell (p := ⟨w.heap.size, 0, none⟩) zx).trans x0
  replace fx0 : v1.frozen? ⟨w.heap.size, 0, none⟩ = false := (hb.frozen (p := ⟨w.heap.size, 0, none⟩) zx).trans fx0
  replace zx : w.heap.size < v1.heap.size := Nat.lt_of_lt_of_le zx hb.size
  replace y0 : v1.cell? ⟨w.heap.size + 1, 0, none⟩ = some (.int .i64 0) := (hb.cell (p := ⟨w.heap.size + 1, 0, none⟩) zy).trans y0
  replace y1 : v1.cell? ⟨w.heap.size + 1, 1, none⟩ = some (.int .i64 0) := (hb.cell (p := ⟨w.heap.size + 1, 1, none⟩) zy).trans y1
  replace fy0 : v1.frozen? ⟨w.heap.size + 1, 0, none⟩ = false := (hb.frozen (p := ⟨w.heap.size + 1, 0, none⟩) zy).trans fy0
  replace fy1 : v1.frozen? ⟨w.heap.size + 1, 1, none⟩ = false := (hb.frozen (p := ⟨w.heap.size + 1, 1, none⟩) zy).trans fy1
  replace zy : w.heap.size + 1 < v1.heap.size := Nat.lt_of_lt_of_le zy hb.size
  replace HB := hide (HB.out.trans (hb.mono HB.out.size))
  clear hb
  clear hD hW0
  go_wp2
  refine bodyPost_ret (v := .tuple #[(tab (.slice ot m.length ct)), flow fa fp]) (by simp [results, Try.results25, go_sem, x0, y0, y1]) rfl ⟨_, m, fa, fp, rfl, hln, ?_, ?_⟩
  · exact (((HI.out.step (stp_set v1 w.heap.size 0 (.slice ot m.length ct)) (.inl (by omega))).step (stp_set _ (w.heap.size + 1) 0 (.int .i64 fa)) (.inl (by omega))).step (stp_set _ (w.heap.size + 1) 1 (.int .i64 fp)) (.inl (by omega))).mono (by omega) (by simp)
  · exact ((HB.out.setCell (p := ⟨w.heap.size, 0, none⟩) (Nat.le_refl _) _).setCell (p := ⟨w.heap.size + 1, 0, none⟩) (by simp) _).setCell (p := ⟨w.heap.size + 1, 1, none⟩) (by simp) _

set_option maxRecDepth 100000 in
set_option maxHeartbeats 8000000 in
theorem lawDrops (o : Option Addr) (cap : Nat) (l : List Int) (w : World) (hm : l.length ≤ maxLen) (hR : Rd w o l) (hB8 : isB l) :
    Calls Try.prog 4 #[.slice o l.length cap] w fun e w' => e = .returned (.bool true) ∧ Below w.heap.size w w' := by
  have hD := drawDrop_any o cap l w hR hB8 hm
  go_enter Try.func4, Try.ntmps4
  go_wp2_with fail
  refine hD.mono ?_
  rintro e v0 ⟨vt, m, fa, fp, rfl, hln, hin, hb1⟩
  obtain ⟨ot, ct, hve⟩ := InT.opn hin
  subst hve
  have hf : m.length ≤ 1048576 := by omega
  obtain ⟨n, hn⟩ : ∃ n, m.length = n := ⟨_, rfl⟩
  rw [hn] at hin
  simp only [hn]
  have HN := hide hn
  rw [hn] at hln
  clear hn
  have HB := hide hb1
  have HI := hide hin
  clear hb1 hin hD hR hB8 hm
  obtain ⟨W2, hW2⟩ : ∃ W, ((v0.alloc (.cells #[.slice ot n ct] 25)).alloc (.cells #[.int .i64 fa, .int .i64 fp] 27)) = W := ⟨_, rfl⟩
  have hb_W2 : Below v0.heap.size v0 W2 := by rw [← hW2]; exact (((Below.refl _ _).alloc (Nat.le_refl _) _).alloc (by simp <;> omega) _)
  replace HB := hide (HB.out.trans (hb_W2.mono HB.out.size))
  have HIn := hide (HI.out.step (Stp.of (lo := 0) (hi := 0) hb_W2) (.inl (Nat.zero_le _)))
  clear HI
  have HI := HIn
  clear HIn
  clear hb_W2
  have zct : v0.heap.size < W2.heap.size := by rw [← hW2]; simp <;> omega
  have ct0 : W2.cell? ⟨v0.heap.size, 0, none⟩ = some (.slice ot n ct) := by rw [← hW2]; simp [go_sem]
  have zcf : v0.heap.size + 1 < W2.heap.size := by rw [← hW2]; simp
  have cf0 : W2.cell? ⟨v0.heap.size + 1, 0, none⟩ = some (.int .i64 fa) := by rw [← hW2]; simp [go_sem]
  have cf1 : W2.cell? ⟨v0.heap.size + 1, 1, none⟩ = some (.int .i64 fp) := by rw [← hW2]; simp [go_sem]
  have hml := dropM_len m fa fp
  have H1 := hide (fun W h => implDrop_sh (tab (.slice ot n ct)) m fa fp W h hf)
  have H2 := hide (fun W h => implGet_sh (tab (.slice ot n ct)) m fa fp W h hf)
  cases hg : gotB m fa fp with
  | false =>
    have hno := dropM_no hg
    rw [hg] at H1 H2
    clear hg
    obtain ⟨mx, hmx⟩ : ∃ q, dropM m fa fp = q := ⟨_, rfl⟩
    obtain ⟨s, hs⟩ : ∃ q, getM m fa fp = q := ⟨_, rfl⟩
    rw [hmx] at H1 hno hml
    rw [hs] at H2
    clear hmx hs
    go_wp2_with fail
    refine (H1.out W2 (HI.out.rd.le (by omega))).mono ?_
    rintro e v1 ⟨vx, rfl, hix, hb⟩
    replace HI := hide (HI.out.step (Stp.of (lo := 0) (hi := 0) hb) (.inl (Nat.zero_le _)))
    obtain ⟨ox, cx, hve⟩ := InT.opn hix
    subst hve
    obtain ⟨nx, hnx⟩ : ∃ n, mx.length = n := ⟨_, rfl⟩
    rw [hnx] at hix
    simp only [hnx]
    have HNX := hide hnx
    have HX := hide hix
    clear hix hnx
    replace ct0 : v1.cell? ⟨v0.heap.size, 0, none⟩ = some (.slice ot n ct) := (hb.cell (p := ⟨v0.heap.size, 0, none⟩) zct).trans ct0
    replace zct : v0.heap.size < v1.heap.size := Nat.lt_of_lt_of_le zct hb.size
    replace cf0 : v1.cell? ⟨v0.heap.size + 1, 0, none⟩ = some (.int .i64 fa) := (hb.cell (p := ⟨v0.heap.size + 1, 0, none⟩) zcf).trans cf0
    replace cf1 : v1.cell? ⟨v0.heap.size + 1, 1, none⟩ = some (.int .i64 fp) := (hb.cell (p := ⟨v0.heap.size + 1, 1, none⟩) zcf).trans cf1
    replace zcf : v0.heap.size + 1 < v1.heap.size := Nat.lt_of_lt_of_le zcf hb.size
    replace HB := hide (HB.out.trans (hb.mono HB.out.size))
    clear hb
    obtain ⟨W4, hW4⟩ : ∃ W, (v1.alloc (.cells #[.slice ox nx cx] 25)) = W := ⟨_, rfl⟩
    have hb_W4 : Below v1.heap.size v1 W4 := by rw [← hW4]; exact ((Below.refl _ _).alloc (Nat.le_refl _) _)
    replace ct0 : W4.cell? ⟨v0.heap.size, 0, none⟩ = some (.slice ot n ct) := (hb_W4.cell (p := ⟨v0.heap.size, 0, none⟩) zct).trans ct0
    replace zct : v0.heap.size < W4.heap.size := Nat.lt_of_lt_of_le zct hb_W4.size
    replace cf0 : W4.cell? ⟨v0.heap.size + 1, 0, none⟩ = some (.int .i64 fa) := (hb_W4.cell (p := ⟨v0.heap.size + 1, 0, none⟩) zcf).trans cf0
    replace cf1 : W4.cell? ⟨v0.heap.size + 1, 1, none⟩ = some (.int .i64 fp) := (hb_W4.cell (p := ⟨v0.heap.size + 1, 1, none⟩) zcf).trans cf1
    replace zcf : v0.heap.size + 1 < W4.heap.size := Nat.lt_of_lt_of_le zcf hb_W4.size
    replace HB := hide (HB.out.trans (hb_W4.mono HB.out.size))
    have HIn := hide (HI.out.step (Stp.of (lo := 0) (hi := 0) hb_W4) (.inl (Nat.zero_le _)))
    have HXn := hide (HX.out.step (Stp.of (lo := 0) (hi := 0) hb_W4) (.inl (Nat.zero_le _)))
    clear HI
    have HI := HIn
    clear HIn
    clear HX
    have HX := HXn
    clear HXn
    clear hb_W4
    have zcx : v1.heap.size < W4.heap.size := by rw [← hW4]; simp
    have cx0 : W4.cell? ⟨v1.heap.size, 0, none⟩ = some (.slice ox nx cx) := by rw [← hW4]; simp [go_sem]
    go_wp2_with fail
    refine (H2.out W4 (HI.out.rd.le (by omega))).mono ?_
    rintro e v2 ⟨rfl, hb⟩
    replace HI := hide (HI.out.step (Stp.of (lo := 0) (hi := 0) hb) (.inl (Nat.zero_le _)))
    replace HX := hide (HX.out.step (Stp.of (lo := 0) (hi := 0) hb) (.inl (Nat.zero_le _)))
    replace ct0 : v2.cell? ⟨v0.heap.size, 0, none⟩ = some (.slice ot n ct) := (hb.cell (p := ⟨v0.heap.size, 0, none⟩) zct).trans ct0
    replace zct : v0.heap.size < v2.heap.size := Nat.lt_of_lt_of_le zct hb.size
    replace cf0 : v2.cell? ⟨v0.heap.size + 1, 0, none⟩ = some (.int .i64 fa) := (hb.cell (p := ⟨v0.heap.size + 1, 0, none⟩) zcf).trans cf0
    replace cf1 : v2.cell? ⟨v0.heap.size + 1, 1, none⟩ = some (.int .i64 fp) := (hb.cell (p := ⟨v0.heap.size + 1, 1, none⟩) zcf).trans cf1
    replace zcf : v0.heap.size + 1 < v2.heap.size := Nat.lt_of_lt_of_le zcf hb.size
    replace cx0 : v2.cell? ⟨v1.heap.size, 0, none⟩ = some (.slice ox nx cx) := (hb.cell (p := ⟨v1.heap.size, 0, none⟩) zcx).trans cx0
    replace zcx : v1.heap.size < v2.heap.size := Nat.lt_of_lt_of_le zcx hb.size
    replace HB := hide (HB.out.trans (hb.mono HB.out.size))
    clear hb
    obtain ⟨W6, hW6⟩ : ∃ W, (v2.alloc (.cells #[.bool s.u, .int .i64 s.a, .int .i64 s.p, .int .i64 s.v, .int .i64 s.t] 35)) = W := ⟨_, rfl⟩
    have hb_W6 : Below v2.heap.size v2 W6 := by rw [← hW6]; exact ((Below.refl _ _).alloc (Nat.le_refl _) _)
    replace ct0 : W6.cell? ⟨v0.heap.size, 0, none⟩ = some (.slice ot n ct) := (hb_W6.cell (p := ⟨v0.heap.size, 0, none⟩) zct).trans ct0
    replace zct : v0.heap.size < W6.heap.size := Nat.lt_of_lt_of_le zct hb_W6.size
    replace cf0 : W6.cell? ⟨v0.heap.size + 1, 0, none⟩ = some (.int .i64 fa) := (hb_W6.cell (p := ⟨v0.heap.size + 1, 0, none⟩) zcf).trans cf0
    replace cf1 : W6.cell? ⟨v0.heap.size + 1, 1, none⟩ = some (.int .i64 fp) := (hb_W6.cell (p := ⟨v0.heap.size + 1, 1, none⟩) zcf).trans cf1
    replace zcf : v0.heap.size + 1 < W6.heap.size := Nat.lt_of_lt_of_le zcf hb_W6.size
    replace cx0 : W6.cell? ⟨v1.heap.size, 0, none⟩ = some (.slice ox nx cx) := (hb_W6.cell (p := ⟨v1.heap.size, 0, none⟩) zcx).trans cx0
    replace zcx : v1.heap.size < W6.heap.size := Nat.lt_of_lt_of_le zcx hb_W6.size
    replace HB := hide (HB.out.trans (hb_W6.mono HB.out.size))
    have HIn := hide (HI.out.step (Stp.of (lo := 0) (hi := 0) hb_W6) (.inl (Nat.zero_le _)))
    have HXn := hide (HX.out.step (Stp.of (lo := 0) (hi := 0) hb_W6) (.inl (Nat.zero_le _)))
    clear HI
    have HI := HIn
    clear HIn
    clear HX
    have HX := HXn
    clear HXn
    clear hb_W6
    have zcs : v2.heap.size < W6.heap.size := by rw [← hW6]; simp
    have cs0 : W6.cell? ⟨v2.heap.size, 0, none⟩ = some (.bool s.u) := by rw [← hW6]; simp [go_sem]
    have cs1 : W6.cell? ⟨v2.heap.size, 1, none⟩ = some (.int .i64 s.a) := by rw [← hW6]; simp [go_sem]
    have cs2 : W6.cell? ⟨v2.heap.size, 2, none⟩ = some (.int .i64 s.p) := by rw [← hW6]; simp [go_sem]
    have cs3 : W6.cell? ⟨v2.heap.size, 3, none⟩ = some (.int .i64 s.v) := by rw [← hW6]; simp [go_sem]
    have cs4 : W6.cell? ⟨v2.heap.size, 4, none⟩ = some (.int .i64 s.t) := by rw [← hW6]; simp [go_sem]
    rcases hno with hno | ⟨hno, hl1⟩
    · have hl0 : nx = 0 := by rw [← HNX.out, hno]; rfl
      go_wp2_with fail
      refine (tables_any W6).mono ?_
      rintro e v3 ⟨rfl, hb⟩
      replace ct0 : v3.cell? ⟨v0.heap.size, 0, none⟩ = some (.slice ot n ct) := (hb.cell (p := ⟨v0.heap.size, 0, none⟩) zct).trans ct0
      replace zct : v0.heap.size < v3.heap.size := Nat.lt_of_lt_of_le zct hb.size
      replace cf0 : v3.cell? ⟨v0.heap.size + 1, 0, none⟩ = some (.int .i64 fa) := (hb.cell (p := ⟨v0.heap.size + 1, 0, none⟩) zcf).trans cf0
      replace cf1 : v3.cell? ⟨v0.heap.size + 1, 1, none⟩ = some (.int .i64 fp) := (hb.cell (p := ⟨v0.heap.size + 1, 1, none⟩) zcf).trans cf1
      replace zcf : v0.heap.size + 1 < v3.heap.size := Nat.lt_of_lt_of_le zcf hb.size
      replace cx0 : v3.cell? ⟨v1.heap.size, 0, none⟩ = some (.slice ox nx cx) := (hb.cell (p := ⟨v1.heap.size, 0, none⟩) zcx).trans cx0
      replace zcx : v1.heap.size < v3.heap.size := Nat.lt_of_lt_of_le zcx hb.size
      replace cs0 : v3.cell? ⟨v2.heap.size, 0, none⟩ = some (.bool s.u) := (hb.cell (p := ⟨v2.heap.size, 0, none⟩) zcs).trans cs0
      replace cs1 : v3.cell? ⟨v2.heap.size, 1, none⟩ = some (.int .i64 s.a) := (hb.cell (p := ⟨v2.heap.size, 1, none⟩) zcs).trans cs1
      replace cs2 : v3.cell? ⟨v2.heap.size, 2, none⟩ = some (.int .i64 s.p) := (hb.cell (p := ⟨v2.heap.size, 2, none⟩) zcs).trans cs2
      replace cs3 : v3.cell? ⟨v2.heap.size, 3, none⟩ = some (.int .i64 s.v) := (hb.cell (p := ⟨v2.heap.size, 3, none⟩) zcs).trans cs3
      replace cs4 : v3.cell? ⟨v2.heap.size, 4, none⟩ = some (.int .i64 s.t) := (hb.cell (p := ⟨v2.heap.size, 4, none⟩) zcs).trans cs4
      replace zcs : v2.heap.size < v3.heap.size := Nat.lt_of_lt_of_le zcs hb.size
      replace HB := hide (HB.out.trans (hb.mono HB.out.size))
      clear hb
      go_wp2
      go_ret
      exact ⟨rfl, HB.out⟩
    · have hl3 : ¬ (nx = 0) := by rw [← HNX.out, hno]; omega
      have hl2 : ¬ ((nx : Int) = 0) := by omega
      have HS := hide (sameTable_any (tab (.slice ox nx cx)) (tab (.slice ot n ct)) m W6 (by have h : RdT W6.heap.size W6 (tab (.slice ox nx cx)) mx := (HX.out.rd.le (by omega)); rw [hno] at h; exact h) (HI.out.rd.le (by omega)) hf)
      clear hno hl1
      go_wp2_with fail
      refine (HS.out).mono ?_
      rintro e v3 ⟨rfl, hb⟩
      replace ct0 : v3.cell? ⟨v0.heap.size, 0, none⟩ = some (.slice ot n ct) := (hb.cell (p := ⟨v0.heap.size, 0, none⟩) zct).trans ct0
      replace zct : v0.heap.size < v3.heap.size := Nat.lt_of_lt_of_le zct hb.size
      replace cf0 : v3.cell? ⟨v0.heap.size + 1, 0, none⟩ = some (.int .i64 fa) := (hb.cell (p := ⟨v0.heap.size + 1, 0, none⟩) zcf).trans cf0
      replace cf1 : v3.cell? ⟨v0.heap.size + 1, 1, none⟩ = some (.int .i64 fp) := (hb.cell (p := ⟨v0.heap.size + 1, 1, none⟩) zcf).trans cf1
      replace zcf : v0.heap.size + 1 < v3.heap.size := Nat.lt_of_lt_of_le zcf hb.size
      replace cx0 : v3.cell? ⟨v1.heap.size, 0, none⟩ = some (.slice ox nx cx) := (hb.cell (p := ⟨v1.heap.size, 0, none⟩) zcx).trans cx0
      replace zcx : v1.heap.size < v3.heap.size := Nat.lt_of_lt_of_le zcx hb.size
      replace cs0 : v3.cell? ⟨v2.heap.size, 0, none⟩ = some (.bool s.u) := (hb.cell (p := ⟨v2.heap.size, 0, none⟩) zcs).trans cs0
      replace cs1 : v3.cell? ⟨v2.heap.size, 1, none⟩ = some (.int .i64 s.a) := (hb.cell (p := ⟨v2.heap.size, 1, none⟩) zcs).trans cs1
      replace cs2 : v3.cell? ⟨v2.heap.size, 2, none⟩ = some (.int .i64 s.p) := (hb.cell (p := ⟨v2.heap.size, 2, none⟩) zcs).trans cs2
      replace cs3 : v3.cell? ⟨v2.heap.size, 3, none⟩ = some (.int .i64 s.v) := (hb.cell (p := ⟨v2.heap.size, 3, none⟩) zcs).trans cs3
      replace cs4 : v3.cell? ⟨v2.heap.size, 4, none⟩ = some (.int .i64 s.t) := (hb.cell (p := ⟨v2.heap.size, 4, none⟩) zcs).trans cs4
      replace zcs : v2.heap.size < v3.heap.size := Nat.lt_of_lt_of_le zcs hb.size
      replace HB := hide (HB.out.trans (hb.mono HB.out.size))
      clear hb
      go_wp2_with fail
      refine (tables_any v3).mono ?_
      rintro e v4 ⟨rfl, hb⟩
      replace ct0 : v4.cell? ⟨v0.heap.size, 0, none⟩ = some (.slice ot n ct) := (hb.cell (p := ⟨v0.heap.size, 0, none⟩) zct).trans ct0
      replace zct : v0.heap.size < v4.heap.size := Nat.lt_of_lt_of_le zct hb.size
      replace cf0 : v4.cell? ⟨v0.heap.size + 1, 0, none⟩ = some (.int .i64 fa) := (hb.cell (p := ⟨v0.heap.size + 1, 0, none⟩) zcf).trans cf0
      replace cf1 : v4.cell? ⟨v0.heap.size + 1, 1, none⟩ = some (.int .i64 fp) := (hb.cell (p := ⟨v0.heap.size + 1, 1, none⟩) zcf).trans cf1
      replace zcf : v0.heap.size + 1 < v4.heap.size := Nat.lt_of_lt_of_le zcf hb.size
      replace cx0 : v4.cell? ⟨v1.heap.size, 0, none⟩ = some (.slice ox nx cx) := (hb.cell (p := ⟨v1.heap.size, 0, none⟩) zcx).trans cx0
      replace zcx : v1.heap.size < v4.heap.size := Nat.lt_of_lt_of_le zcx hb.size
      replace cs0 : v4.cell? ⟨v2.heap.size, 0, none⟩ = some (.bool s.u) := (hb.cell (p := ⟨v2.heap.size, 0, none⟩) zcs).trans cs0
      replace cs1 : v4.cell? ⟨v2.heap.size, 1, none⟩ = some (.int .i64 s.a) := (hb.cell (p := ⟨v2.heap.size, 1, none⟩) zcs).trans cs1
      replace cs2 : v4.cell? ⟨v2.heap.size, 2, none⟩ = some (.int .i64 s.p) := (hb.cell (p := ⟨v2.heap.size, 2, none⟩) zcs).trans cs2
      replace cs3 : v4.cell? ⟨v2.heap.size, 3, none⟩ = some (.int .i64 s.v) := (hb.cell (p := ⟨v2.heap.size, 3, none⟩) zcs).trans cs3
      replace cs4 : v4.cell? ⟨v2.heap.size, 4, none⟩ = some (.int .i64 s.t) := (hb.cell (p := ⟨v2.heap.size, 4, none⟩) zcs).trans cs4
      replace zcs : v2.heap.size < v4.heap.size := Nat.lt_of_lt_of_le zcs hb.size
      replace HB := hide (HB.out.trans (hb.mono HB.out.size))
      clear hb
      go_wp2
      go_ret
      exact ⟨rfl, HB.out⟩
  | true =>
    obtain ⟨hT, hTx, hgx, hcx, hel⟩ := dropM_yes hg
    rw [hg] at H1
    clear hg H2
    obtain ⟨mx, hmx⟩ : ∃ q, dropM m fa fp = q := ⟨_, rfl⟩
    rw [hmx] at H1 hml hTx hgx hcx hel
    clear hmx
    have hcb : countM m = (countL m : Nat) := by unfold countM; rw [if_pos hT]
    have hle := countTo_le m m.length
    go_wp2_with fail
    refine (H1.out W2 (HI.out.rd.le (by omega))).mono ?_
    rintro e v1 ⟨vx, rfl, hix, hb⟩
    replace HI := hide (HI.out.step (Stp.of (lo := 0) (hi := 0) hb) (.inl (Nat.zero_le _)))
    obtain ⟨ox, cx, hve⟩ := InT.opn hix
    subst hve
    obtain ⟨nx, hnx⟩ : ∃ n, mx.length = n := ⟨_, rfl⟩
    rw [hnx] at hix
    simp only [hnx]
    have HNX := hide hnx
    have HX := hide hix
    clear hix hnx
    replace ct0 : v1.cell? ⟨v0.heap.size, 0, none⟩ = some (.slice ot n ct) := (hb.cell (p := ⟨v0.heap.size, 0, none⟩) zct).trans ct0
    replace zct : v0.heap.size < v1.heap.size := Nat.lt_of_lt_of_le zct hb.size
    replace cf0 : v1.cell? ⟨v0.heap.size + 1, 0, none⟩ = some (.int .i64 fa) := (hb.cell (p := ⟨v0.heap.size + 1, 0, none⟩) zcf).trans cf0
    replace cf1 : v1.cell? ⟨v0.heap.size + 1, 1, none⟩ = some (.int .i64 fp) := (hb.cell (p := ⟨v0.heap.size + 1, 1, none⟩) zcf).trans cf1
    replace zcf : v0.heap.size + 1 < v1.heap.size := Nat.lt_of_lt_of_le zcf hb.size
    replace HB := hide (HB.out.trans (hb.mono HB.out.size))
    clear hb
    obtain ⟨W4, hW4⟩ : ∃ W, (v1.alloc (.cells #[.slice ox nx cx] 25)) = W := ⟨_, rfl⟩
    have hb_W4 : Below v1.heap.size v1 W4 := by rw [← hW4]; exact ((Below.refl _ _).alloc (Nat.le_refl _) _)
    replace ct0 : W4.cell? ⟨v0.heap.size, 0, none⟩ = some (.slice ot n ct) := (hb_W4.cell (p := ⟨v0.heap.size, 0, none⟩) zct).trans ct0
    replace zct : v0.heap.size < W4.heap.size := Nat.lt_of_lt_of_le zct hb_W4.size
    replace cf0 : W4.cell? ⟨v0.heap.size + 1, 0, none⟩ = some (.int .i64 fa) := (hb_W4.cell (p := ⟨v0.heap.size + 1, 0, none⟩) zcf).trans cf0
    replace cf1 : W4.cell? ⟨v0.heap.size + 1, 1, none⟩ = some (.int .i64 fp) := (hb_W4.cell (p := ⟨v0.heap.size + 1, 1, none⟩) zcf).trans cf1
    replace zcf : v0.heap.size + 1 < W4.heap.size := Nat.lt_of_lt_of_le zcf hb_W4.size
    replace HB := hide (HB.out.trans (hb_W4.mono HB.out.size))
    have HIn := hide (HI.out.step (Stp.of (lo := 0) (hi := 0) hb_W4) (.inl (Nat.zero_le _)))
    have HXn := hide (HX.out.step (Stp.of (lo := 0) (hi := 0) hb_W4) (.inl (Nat.zero_le _)))
    clear HI
    have HI := HIn
    clear HIn
    clear HX
    have HX := HXn
    clear HXn
    clear hb_W4
    have zcx : v1.heap.size < W4.heap.size := by rw [← hW4]; simp
    have cx0 : W4.cell? ⟨v1.heap.size, 0, none⟩ = some (.slice ox nx cx) := by rw [← hW4]; simp [go_sem]
    have H3 := hide (implGet_sh (tab (.slice ox nx cx)) mx fa fp W4 (HX.out.rd.le (by omega)) (by omega))
    rw [hgx] at H3
    obtain ⟨s, hs⟩ : ∃ q, getM mx fa fp = q := ⟨_, rfl⟩
    rw [hs] at H3
    clear hs hgx
    go_wp2_with fail
    refine (H3.out).mono ?_
    rintro e v2 ⟨rfl, hb⟩
    replace HI := hide (HI.out.step (Stp.of (lo := 0) (hi := 0) hb) (.inl (Nat.zero_le _)))
    replace HX := hide (HX.out.step (Stp.of (lo := 0) (hi := 0) hb) (.inl (Nat.zero_le _)))
    replace ct0 : v2.cell? ⟨v0.heap.size, 0, none⟩ = some (.slice ot n ct) := (hb.cell (p := ⟨v0.heap.size, 0, none⟩) zct).trans ct0
    replace zct : v0.heap.size < v2.heap.size := Nat.lt_of_lt_of_le zct hb.size
    replace cf0 : v2.cell? ⟨v0.heap.size + 1, 0, none⟩ = some (.int .i64 fa) := (hb.cell (p := ⟨v0.heap.size + 1, 0, none⟩) zcf).trans cf0
    replace cf1 : v2.cell? ⟨v0.heap.size + 1, 1, none⟩ = some (.int .i64 fp) := (hb.cell (p := ⟨v0.heap.size + 1, 1, none⟩) zcf).trans cf1
    replace zcf : v0.heap.size + 1 < v2.heap.size := Nat.lt_of_lt_of_le zcf hb.size
    replace cx0 : v2.cell? ⟨v1.heap.size, 0, none⟩ = some (.slice ox nx cx) := (hb.cell (p := ⟨v1.heap.size, 0, none⟩) zcx).trans cx0
    replace zcx : v1.heap.size < v2.heap.size := Nat.lt_of_lt_of_le zcx hb.size
    replace HB := hide (HB.out.trans (hb.mono HB.out.size))
    clear hb
    obtain ⟨W6, hW6⟩ : ∃ W, (v2.alloc (.cells #[.bool s.u, .int .i64 s.a, .int .i64 s.p, .int .i64 s.v, .int .i64 s.t] 35)) = W := ⟨_, rfl⟩
    have hb_W6 : Below v2.heap.size v2 W6 := by rw [← hW6]; exact ((Below.refl _ _).alloc (Nat.le_refl _) _)
    replace ct0 : W6.cell? ⟨v0.heap.size, 0, none⟩ = some (.slice ot n ct) := (hb_W6.cell (p := ⟨v0.heap.size, 0, none⟩) zct).trans ct0
    replace zct : v0.heap.size < W6.heap.size := Nat.lt_of_lt_of_le zct hb_W6.size
    replace cf0 : W6.cell? ⟨v0.heap.size + 1, 0, none⟩ = some (.int .i64 fa) := (hb_W6.cell (p := ⟨v0.heap.size + 1, 0, none⟩) zcf).trans cf0
    replace cf1 : W6.cell? ⟨v0.heap.size + 1, 1, none⟩ = some (.int .i64 fp) := (hb_W6.cell (p := ⟨v0.heap.size + 1, 1, none⟩) zcf).trans cf1
    replace zcf : v0.heap.size + 1 < W6.heap.size := Nat.lt_of_lt_of_le zcf hb_W6.size
    replace cx0 : W6.cell? ⟨v1.heap.size, 0, none⟩ = some (.slice ox nx cx) := (hb_W6.cell (p := ⟨v1.heap.size, 0, none⟩) zcx).trans cx0
    replace zcx : v1.heap.size < W6.heap.size := Nat.lt_of_lt_of_le zcx hb_W6.size
    replace HB := hide (HB.out.trans (hb_W6.mono HB.out.size))
    have HIn := hide (HI.out.step (Stp.of (lo := 0) (hi := 0) hb_W6) (.inl (Nat.zero_le _)))
    have HXn := hide (HX.out.step (Stp.of (lo := 0) (hi := 0) hb_W6) (.inl (Nat.zero_le _)))
    clear HI
    have HI := HIn
    clear HIn
    clear HX
    have HX := HXn
    clear HXn
    clear hb_W6
    have zcs : v2.heap.size < W6.heap.size := by rw [← hW6]; simp
    have cs0 : W6.cell? ⟨v2.heap.size, 0, none⟩ = some (.bool s.u) := by rw [← hW6]; simp [go_sem]
    have cs1 : W6.cell? ⟨v2.heap.size, 1, none⟩ = some (.int .i64 s.a) := by rw [← hW6]; simp [go_sem]
    have cs2 : W6.cell? ⟨v2.heap.size, 2, none⟩ = some (.int .i64 s.p) := by rw [← hW6]; simp [go_sem]
    have cs3 : W6.cell? ⟨v2.heap.size, 3, none⟩ = some (.int .i64 s.v) := by rw [← hW6]; simp [go_sem]
    have cs4 : W6.cell? ⟨v2.heap.size, 4, none⟩ = some (.int .i64 s.t) := by rw [← hW6]; simp [go_sem]
    have HT := hide (fun p : Grown W6 => implTableOk_sh (tab (.slice ox nx cx)) mx p.v ((HX.out.rd.kept p.b (by omega)).le (by have := p.b.size; omega)) HX.out.cap (by omega))
    rw [hTx] at HT
    have HCx := hide (fun p : Grown W6 => implCountOf_sh (tab (.slice ox nx cx)) mx p.v ((HX.out.rd.kept p.b (by omega)).le (by have := p.b.size; omega)) HX.out.cap (by omega))
    rw [hcx, hcb] at HCx
    have HCt := hide (fun p : Grown W6 => implCountOf_sh (tab (.slice ot n ct)) m p.v ((HI.out.rd.kept p.b (by omega)).le (by have := p.b.size; omega)) HI.out.cap hf)
    rw [hcb] at HCt
    have HOt := hide (fun p : Grown W6 => others_any (tab (.slice ot n ct)) (tab (.slice ox nx cx)) m mx fa fp p.v ((HI.out.rd.kept p.b (by omega)).le (by have := p.b.size; omega)) ((HX.out.rd.kept p.b (by omega)).le (by have := p.b.size; omega)) (by have := HN.out; omega) hml hel)
    have HTb := hide (fun p : Grown W6 => tables_any p.v)
    have hcn : countL m ≤ 16 := by unfold countL; have := HN.out; omega
    have hw : IntKind.i64.wrap ((countL m : Int) - 1) = (countL m : Int) - 1 := by rw [IntKind.wrap_i64]; omega
    generalize countL m = nc at *
    clear hel hT hTx hcx hcb hle H1 H3
    have GX := Grown.cell cx0 zcx
    have GT := Grown.cell ct0 zct
    have GF0 := Grown.cell cf0 zcf
    have GF1 := Grown.cell cf1 zcf
    go_wp2
    (refine wp_region_grown (by kernel_rfl) (by kernel_rfl) ?_; intro hne9; (repeat (go_big_quiet_step (first | (go_at_call 23; exact grown_of _ (HT.out _)) | (go_at_call 22; first | (with_reducible exact grown_of _ (HCx.out _)) | (with_reducible exact grown_of _ (HCt.out _))) | (go_at_call 24; exact grown_of _ (HOt.out _)) | (go_at_call 20; exact grown_of _ (HTb.out _))))); (with_reducible refine wpQuiet_nil ?_); intro _ hw9; obtain ⟨pq, hw8⟩ := hw9; subst hw8)
    go_wp2
    go_ret
    exact ⟨rfl, HB.out.trans (pq.b.mono HB.out.size)⟩

set_option maxRecDepth 100000 in
theorem fnDrops_lifted (os : Os) (started : os.Started) (H : Type) (enc : TypeId × Value → H) :
    ReturnsInHanded {} Try.checked os 4 .any (Rows.fnDropsSpec.pre6 enc Try.prog Try.f4 Rows.fnDropsRow.domain false) (Rows.fnDropsSpec.post enc Try.prog Try.f4 false true false false) := by
  refine returnsInHanded_of_change (C := Try.checked) own started (by kernel_rfl) Try.func4
    (ChangeSpec.witness6 (enc := enc) (C := Try.checked) false ⟨#[], #[.slice none 0 0], []⟩ 8 (by kernel_rfl) (by kernel_rfl) (by kernel_rfl) (by kernel_rfl)) ?_
  intro W base args ds gs before hval0 hW hcnd _
  have hval : ∀ (j : Nat) t v, Try.f4.params[j]? = some t → args[j]? = some v → Value.okWide Try.prog W .any base t v := hval0
  have hW' := hW
  obtain ⟨p, q, hA0, hV, rfl, hfz, hnd⟩ := hW
  have hA : DataW.TrodAll enc Try.prog W 0 (fun _ => true) true Try.f4.params.toList args.toList ds p := hA0
  rw [Try.params4] at hA hval
  obtain ⟨v0, vs0, d0, ds0, p0, q0, hargs, rfl, rfl, h0, r0⟩ := trodAll_cons hA
  obtain ⟨rfl, rfl, rfl⟩ := trodAll_nil r0
  obtain rfl : args = #[v0] := by cases args; simp_all
  obtain ⟨rfl, rfl⟩ := trodVars_none hV
  have k0 := h0
  have lt0 : ∀ x ∈ p0, x.block < W.heap.size := by obtain ⟨m, hm⟩ := k0; exact DataW.trod_lt m _ _ _ hm
  obtain ⟨o0, cap0, l0, rfl, hm0, hR0, hB80⟩ := open_bytes (hval 0 22 v0 rfl rfl) h0
  clear hA0 hval0
  refine (lawDrops o0 cap0 l0 W hm0 hR0 hB80 ).mono fun e W' ⟨he, bel⟩ => ?_
  subst he
  exact ⟨_, rfl, _, _, _, [], _, [], hW', trodAll_mk1 (shut_bool Try.underlying4 _), (trodAll_cons_mk (Below.trod laidOut (by kernel_rfl) (of_decide_eq_true (by kernel_rfl)) k0 bel lt0) trodAll_mk0), rfl, bel.frame _, fun h => by cases h⟩

theorem fnDrops_over : Rows.fnDropsRow.holds Try.pinned (OpenSpec.ofChange Rows.fnDropsSpec) :=
  OpenClaim.holds_of_wide 4 Try.f4 rfl rfl rfl rfl rfl rfl rfl ⟨rfl, rfl, rfl, rfl, rfl⟩ rfl rfl rfl rfl rfl (by kernel_rfl) Try.func4 (by kernel_rfl)
    (of_decide_eq_true (by kernel_rfl)) (by unfold Func.isWrapper; first | (rw [if_pos (by decide +kernel)]; kernel_rfl) | (rw [if_neg (by decide +kernel)]; exact ⟨rfl, rfl⟩))
    (fun os started H enc _ => fnDrops_lifted os started H enc)

theorem fnDrops_holds : Rows.FnDropsSaid := fnDrops_over


end Go.Proofs.Ytiijecnhbioehaa
