/- For every code the law FnPools answers true: a command that is done leaves a pool that may be, and the table that was behind the latest. No conditions. -/
import Derived.Test.YtldjaapbkihibaaGrSamePool
import Derived.Test.YtldjaapbkihibaaGrSPools
import Derived.BigQuiet
namespace Go.Proofs.Ytldjaapbkihibaa
open Go.ChangeShapes Go.WideShapes Go.ChangeAt Go.RowKit Go.Joins
set_option linter.unusedVariables false
set_option linter.unusedSimpArgs false


set_option maxRecDepth 100000 in
set_option maxHeartbeats 16000000 in
theorem lawPools (o0 : Option Addr) (cap : Nat) (l : List Int) (w : World) (hm : l.length ≤ maxLen) (hR : Rd w o0 l) (hB8 : isB l) :
    Calls Try.prog 3 #[.slice o0 l.length cap] w fun e w' => e = .returned (.bool true) ∧ Below w.heap.size w w' := by
  have HDC := hide (drawPDo_any o0 cap l w hR hB8 hm)
  clear hR hB8 hm
  go_enter Try.func3, Try.ntmps3
  go_wp2_with fail
  refine HDC.out.mono ?_
  rintro e w1 ⟨v, m, a, i, g, rfl, hin, hf, hb1⟩
  clear HDC
  have HF := hide hf
  obtain ⟨o, c, oR, cR, hve⟩ := hin.opn
  have hrd := hin.rd
  have hrc := hin.mono (Nat.zero_le _) (Nat.le_refl _)
  obtain ⟨key, hkey⟩ : ∃ x, m.key = x := ⟨_, rfl⟩
  obtain ⟨nb, hnb⟩ : ∃ x, m.l.length = x := ⟨_, rfl⟩
  obtain ⟨n, hn⟩ : ∃ x, m.ring.length = x := ⟨_, rfl⟩
  rw [hkey, hnb, hn] at hve
  subst hve
  have HN := hide hn
  have hb2 : Below w1.heap.size w1 ((w1.alloc (.cells #[.int .i64 key, .slice o nb c, .slice oR n cR] 26)).alloc (.cells #[.int .i64 a, .int .i64 i, .int .i64 g] 28)) := (((Below.refl _ _).alloc (Nat.le_refl _) _).alloc (by simp <;> omega) _)
  have HRC := hide ((hrc.kept hb2 (Nat.le_refl _)).le hb2.size)
  have HRD := hide ((hrd.kept hb2 (Nat.le_refl _)).le hb2.size)
  have HB2 := hide (hb1.trans (hb2.mono hb1.size))
  have HX2 : Hid (((w1.alloc (.cells #[.int .i64 key, .slice o nb c, .slice oR n cR] 26)).alloc (.cells #[.int .i64 a, .int .i64 i, .int .i64 g] 28)).heap[w1.heap.size]? = some (.cells #[.int .i64 key, .slice o nb c, .slice oR n cR] 26 (0, 0))) := box_old2 w1 _ _ _
  have HC2 : Hid (((w1.alloc (.cells #[.int .i64 key, .slice o nb c, .slice oR n cR] 26)).alloc (.cells #[.int .i64 a, .int .i64 i, .int .i64 g] 28)).heap[w1.heap.size + 1]? = some (.cells #[.int .i64 a, .int .i64 i, .int .i64 g] 28 (0, 0))) := box_new2 w1 _ _ _
  have hz2 : w1.heap.size + 1 < (((w1.alloc (.cells #[.int .i64 key, .slice o nb c, .slice oR n cR] 26)).alloc (.cells #[.int .i64 a, .int .i64 i, .int .i64 g] 28))).heap.size := by simp
  clear hb1 hb2 hin hrd hrc hf hkey hnb hn
  go_wp2_with fail
  generalize ((w1.alloc (.cells #[.int .i64 key, .slice o nb c, .slice oR n cR] 26)).alloc (.cells #[.int .i64 a, .int .i64 i, .int .i64 g] 28)) = W2 at *
  obtain ⟨B, hB⟩ : ∃ B, w1.heap.size = B := ⟨_, rfl⟩
  simp only [hB] at HX2 HC2 hz2 ⊢
  clear hB
  refine (implPoolDo_sh _ m a i g W2 HRC.out HF.out).mono ?_
  rintro e w3 ⟨vx, rfl, inx, hb3⟩
  have HF2 := hide (pdo_fit a i g HF.out)
  have HNO := hide (fun h => pdo_no (m := m) (a := a) (i := i) (g := g) h)
  have HYE := hide (fun h => pdo_yes (m := m) (a := a) (i := i) (g := g) h)
  obtain ⟨x, hx⟩ : ∃ x, pdoM m a i g = x := ⟨_, rfl⟩
  rw [hx] at inx HF2 HNO HYE
  clear hx
  obtain ⟨o2, c2, oR2, cR2, hve⟩ := inx.opn
  have hrdx := inx.rd
  obtain ⟨key2, hkey2⟩ : ∃ y, x.key = y := ⟨_, rfl⟩
  obtain ⟨nb2, hnb2⟩ : ∃ y, x.l.length = y := ⟨_, rfl⟩
  obtain ⟨n2, hn2⟩ : ∃ y, x.ring.length = y := ⟨_, rfl⟩
  rw [hkey2, hnb2, hn2] at hve
  subst hve
  have HN2 := hide hn2
  have HNB2 := hide hnb2
  have hs3 := hb3.size
  obtain ⟨W4, hW4⟩ : ∃ W, (w3.alloc (.cells #[.int .i64 key2, .slice o2 nb2 c2, .slice oR2 n2 cR2] 26)) = W := ⟨_, rfl⟩
  have hb4 : Below w3.heap.size w3 W4 := by rw [← hW4]; exact (Below.refl _ _).alloc (Nat.le_refl _) _
  have HRX := hide ((hrdx.kept hb4 (Nat.le_refl _)).le hb4.size)
  have HRD4 := hide ((HRD.out.kept (hb3.trans (hb4.mono hb3.size)) (Nat.le_refl _)).le (hb3.trans (hb4.mono hb3.size)).size)
  have HB4 := hide ((HB2.out.trans (hb3.mono HB2.out.size)).trans (hb4.mono (Nat.le_trans HB2.out.size hb3.size)))
  have HX4 : Hid (W4.heap[w3.heap.size]? = some (.cells #[.int .i64 key2, .slice o2 nb2 c2, .slice oR2 n2 cR2] 26 (0, 0))) := by rw [← hW4]; exact World.alloc_heap_new w3 _
  have HP4 := hide ((hb4.block B (by omega)).trans ((hb3.block B (by omega)).trans HX2.out))
  have HC4 := hide ((hb4.block (B + 1) (by omega)).trans ((hb3.block (B + 1) (by omega)).trans HC2.out))
  have hz4 : w3.heap.size < W4.heap.size := by rw [← hW4]; simp
  have hBW : B + 1 < w3.heap.size := by omega
  clear hb3 hb4 inx hrdx hkey2 hnb2 hn2 HRC HRD HB2 HX2 HC2 hz2 hs3
  cases hfl : pdoF m a i g with
  | false =>
    have hno := HNO.out hfl
    clear HNO HYE hfl
    rcases hno with h0 | ⟨hxm, h1, h8⟩
    · have hn0 : n2 = 0 := by rw [← HN2.out]; exact h0
      subst hn0
      have x2 : W4.cell? ⟨w3.heap.size, 2, none⟩ = some (.slice oR2 0 cR2) := bx_cell HX4.out 2 _ rfl
      have HPL := hide (pools_any W4)
      clear h0
      go_wp2_with fail
      refine HPL.out.mono ?_
      rintro e w6 ⟨rfl, hb6⟩
      have HB6 := hide (HB4.out.trans (hb6.mono HB4.out.size))
      clear hb6
      go_wp2
      go_ret
      exact ⟨rfl, HB6.out⟩
    · have HSP := hide (samePool_sh _ _ m W4 (by rw [hxm] at HRX; exact HRX.out) HRD4.out HF.out h8)
      have hn1 : ¬ ((n2 : Int) = 0) := by
        have : n2 = m.ring.length := by rw [← HN2.out, hxm]
        omega
      clear hxm h1 h8
      have x0 : W4.cell? ⟨w3.heap.size, 0, none⟩ = some (.int .i64 key2) := bx_cell HX4.out 0 _ rfl
      have x1 : W4.cell? ⟨w3.heap.size, 1, none⟩ = some (.slice o2 nb2 c2) := bx_cell HX4.out 1 _ rfl
      have x2 : W4.cell? ⟨w3.heap.size, 2, none⟩ = some (.slice oR2 n2 cR2) := bx_cell HX4.out 2 _ rfl
      have p0 : W4.cell? ⟨B, 0, none⟩ = some (.int .i64 key) := bx_cell HP4.out 0 _ rfl
      have p1 : W4.cell? ⟨B, 1, none⟩ = some (.slice o nb c) := bx_cell HP4.out 1 _ rfl
      have p2 : W4.cell? ⟨B, 2, none⟩ = some (.slice oR n cR) := bx_cell HP4.out 2 _ rfl
      go_wp2_with fail
      refine HSP.out.mono ?_
      rintro e w5 ⟨rfl, hb5⟩
      have HB5 := hide (HB4.out.trans (hb5.mono HB4.out.size))
      have HPL := hide (pools_any w5)
      clear hb5 x0 x1 x2 p0 p1 p2
      go_wp2_with fail
      refine HPL.out.mono ?_
      rintro e w6 ⟨rfl, hb6⟩
      have HB6 := hide (HB5.out.trans (hb6.mono HB5.out.size))
      clear hb6
      go_wp2
      go_ret
      exact ⟨rfl, HB6.out⟩
  | true =>
    obtain ⟨lb, hp, hcm, hdo, hxe, hxp⟩ := HYE.out hfl
    clear HNO HYE hfl
    obtain ⟨f1, f2, f3, f4, f5⟩ := pool_facts hp
    have hsaid := do_said f2 hcm hdo
    have hxl : x.l = lb := by rw [hxe]
    have hxr : x.ring.length = n2 := HN2.out
    have hr1 : x.ring.getD 1 [] = m.ring.getD 0 [] := by rw [hxe]; dsimp only; rw [take_getD _ _ _ _ (by omega), List.getD_cons_succ]
    have hn2 : 2 ≤ n2 ∧ n2 ≤ 3 := by
      rw [← hxr, hxe]
      dsimp only
      rw [List.length_take, List.length_cons]
      omega
    have h8 : (m.ring.getD 0 []).length = 8 := (tab_pair (f5 0 (by omega))).1
    have hn1 : 1 ≤ n := by rw [← HN.out]; exact f3
    rw [← hxl] at hsaid
    have HSA := hide hsaid
    have hca : 0 ≤ a ∧ a ≤ 3 := by have := cmdOkB_iff.1 hcm; unfold CmdOk at this; omega
    clear hsaid hxl hxr hxe hdo hcm hp f1 f2 f4 f5 f3
    have hBD : B + 1 < W4.heap.size := by omega
    obtain ⟨vb1, vr1, e1, _, rr1⟩ := HRX.out
    obtain ⟨vb2, vr2, e2, _, rr2⟩ := HRD4.out
    simp only [Value.agg.injEq, Array.mk.injEq, List.cons.injEq, and_true] at e1 e2
    obtain ⟨e10, e11, e12⟩ := e1
    obtain ⟨e20, e21, e22⟩ := e2
    clear e10 e11 e20 e21
    subst e12 e22
    obtain ⟨b1, t1, u1, rfl, hb1, a1, r1⟩ := RiRows.at rr1 (Nat.le_refl _) 1 (by rw [HN2.out]; omega)
    obtain ⟨b2, t2, u2, rfl, hb2, a2, r2⟩ := RiRows.at rr2 (Nat.le_refl _) 0 (by rw [HN.out]; omega)
    rw [hr1] at r1
    have hfi := HF.out.2.2.2
    obtain ⟨ll, hll⟩ : ∃ y, m.ring.getD 0 [] = y := ⟨_, rfl⟩
    have hg4 := hfi.1 0 (by rw [HN.out]; omega)
    have hg5 := hfi.2 0 (by rw [HN.out]; omega)
    rw [hll] at r1 r2 h8 hg4 hg5
    obtain ⟨o3, c3, rfl, rd1⟩ := RiT.rd r1
    obtain ⟨o4, c4, rfl, rd2⟩ := RiT.rd r2
    have HMv := hide (fun p : Grown W4 => implMoved_any o3 o4 c3 c4 ll ll p.v ((rd1.kept p.b (Nat.le_refl _)).le p.b.size) ((rd2.kept p.b (Nat.le_refl _)).le p.b.size) hg4 hg4 hg5 hg5)
    have HPO := hide (fun p : Grown W4 => implPoolOk_sh _ x p.v ((HRX.out.kept p.b (Nat.le_refl _)).le p.b.size) HF2.out)
    rw [movedI_self h8] at HMv
    rw [h8] at HMv a1 a2
    rw [hxp] at HPO
    rw [Nat.add_zero] at a2
    clear rr1 rr2 r1 r2 rd1 rd2 hll h8 hg4 hg5 hfi hr1 hxp HRD4
    have gx0 := Grown.cell (show W4.cell? ⟨w3.heap.size, 0, none⟩ = some (.int .i64 key2) from bx_cell HX4.out 0 _ rfl) hz4
    have gx1 := Grown.cell (show W4.cell? ⟨w3.heap.size, 1, none⟩ = some (.slice o2 nb2 c2) from bx_cell HX4.out 1 _ rfl) hz4
    have gx2 := Grown.cell (show W4.cell? ⟨w3.heap.size, 2, none⟩ = some (.slice (some ⟨b1, t1, none⟩) n2 cR2) from bx_cell HX4.out 2 _ rfl) hz4
    have gp2 := Grown.cell (show W4.cell? ⟨B, 2, none⟩ = some (.slice (some ⟨b2, t2, none⟩) n cR) from bx_cell HP4.out 2 _ rfl) (show B < W4.heap.size by omega)
    have G1 := Grown.cell a1 hb1
    have G2 := Grown.cell a2 hb2
    have hq2 : ¬ ((n2 : Int) < 2) := by omega
    have hq3 : ¬ (3 < (n2 : Int)) := by omega
    have hq4 : (1 : Int) < (n2 : Int) := by omega
    have hq5 : 0 < n := by omega
    have hd2 : decide ((n2 : Int) < 2) = false := decide_eq_false hq2
    have hd3 : decide (3 < (n2 : Int)) = false := decide_eq_false hq3
    go_wp2
    (refine wp_region_grown (by kernel_rfl) (by kernel_rfl) ?_; intro hne9; (repeat (go_big_quiet_step (first | (go_at_call 16; exact grown_of _ (HPO.out _)) | (go_at_call 17; exact grown_of _ (HMv.out _))))); (with_reducible refine wpQuiet_nil ?_); intro _ hw9; obtain ⟨pq, hw8⟩ := hw9; subst hw8)
    have hb5 := pq.b
    obtain ⟨W5, hW5⟩ : ∃ W, pq.v = W := ⟨_, rfl⟩
    rw [hW5] at hb5 ⊢
    have HX5 := hide ((hb5.block _ hz4).trans HX4.out)
    have HC5 := hide ((hb5.block _ hBD).trans HC4.out)
    have HB5 := hide (HB4.out.trans (hb5.mono HB4.out.size))
    have HRX5 := hide ((HRX.out.kept hb5 (Nat.le_refl _)).le hb5.size)
    have hz5 := Nat.lt_of_lt_of_le hz4 hb5.size
    have hBD5 := Nat.lt_of_lt_of_le hBD hb5.size
    clear gx0 gx1 gx2 gp2 G1 G2 HMv HPO HX4 HC4 HP4 HB4 HRX hb5 hW5 hq2 hq3 hq4 hq5 hd2 hd3 hz4 hBD a1 a2 hb1 hb2 hn2 hn1 HN
    obtain ⟨vbk, vrk, ek, hbk, _⟩ := HRX5.out
    simp only [Value.agg.injEq, Array.mk.injEq, List.cons.injEq, and_true] at ek
    obtain ⟨ek0, ek, ek2⟩ := ek
    clear ek0 ek2
    subst ek
    have HBK := hide hbk
    have hnb2 : nb2 ≤ 1048576 := by rw [← HNB2.out]; exact HF2.out.1
    clear hbk HRX5
    go_wp2
    go_loopw [2, 7, 8] (fun rv fv iv wr => ∃ j : Nat, j ≤ nb2 ∧ iv = .int .i64 (j : Int) ∧ rv = .bool false ∧ fv = .bool ((x.l.take j).any (fun b => b.1 == i)) ∧ Hid (Below W5.heap.size W5 wr))
      (fun _ _ iv _ => nb2 - (intOf iv).toNat)
    case atStart => exact ⟨0, Nat.zero_le _, rfl, rfl, by simp, Below.refl _ _⟩
    case round =>
      rename World => wr
      obtain ⟨j, hj', rfl, rfl, rfl, HBr⟩ := hrel
      have x1 : wr.cell? ⟨w3.heap.size, 1, none⟩ = some (.slice o2 nb2 c2) := bx_cell ((HBr.out.block _ hz5).trans HX5.out) 1 _ rfl
      have hcb := (HBr.out.block _ hBD5).trans HC5.out
      have k0 : wr.cell? ⟨B + 1, 0, none⟩ = some (.int .i64 a) := bx_cell hcb 0 _ rfl
      have k1 : wr.cell? ⟨B + 1, 1, none⟩ = some (.int .i64 i) := bx_cell hcb 1 _ rfl
      have k2 : wr.cell? ⟨B + 1, 2, none⟩ = some (.int .i64 g) := bx_cell hcb 2 _ rfl
      have hBr := Nat.lt_of_lt_of_le hBD5 HBr.out.size
      clear hcb
      by_cases hlt : j < nb2
      · have hlt' : (j : Int) < (nb2 : Int) := by omega
        obtain ⟨gb, fb, rfl, hgb, s0, s1, s2⟩ := RiK.cell HBK.out j (by rw [HNB2.out]; exact hlt)
        replace s0 := bC HBr.out s0 hgb
        replace s1 := bC HBr.out s1 hgb
        replace s2 := bC HBr.out s2 hgb
        have HTK := hide (take_any x.l i j (by rw [HNB2.out]; exact hlt))
        have HSJ := hide (HSA.out.1 (x.l.getD j (0, 0, false)) (by rw [List.getD_eq_getElem?_getD, List.getElem?_eq_getElem (by rw [HNB2.out]; exact hlt)]; exact List.getElem_mem _))
        generalize x.l.getD j (0, 0, false) = d at *
        obtain ⟨d0, d1, d2⟩ := d
        dsimp only at s0 s1 s2 HTK HSJ
        obtain ⟨fd, hfd⟩ : ∃ y, (x.l.take j).any (fun b => b.1 == i) = y := ⟨_, rfl⟩
        rw [hfd] at HTK ⊢
        clear hfd
        obtain ⟨W6, hW6⟩ : ∃ W, wr.alloc (.cells #[.int .i64 d0, .int .i64 d1, .bool d2] 39) = W := ⟨_, rfl⟩
        have hb6 : Below wr.heap.size wr W6 := by rw [← hW6]; exact (Below.refl _ _).alloc (Nat.le_refl _) _
        have q0 : W6.cell? ⟨wr.heap.size, 0, none⟩ = some (.int .i64 d0) := by rw [← hW6]; simp [go_sem]
        have q1 : W6.cell? ⟨wr.heap.size, 1, none⟩ = some (.int .i64 d1) := by rw [← hW6]; simp [go_sem]
        have q2 : W6.cell? ⟨wr.heap.size, 2, none⟩ = some (.bool d2) := by rw [← hW6]; simp [go_sem]
        have m0 := bC hb6 k0 hBr
        have m1 := bC hb6 k1 hBr
        have m2 := bC hb6 k2 hBr
        have HB9 := hide (HBr.out.trans (hb6.mono HBr.out.size))
        clear hb6 k0 k1 k2
        by_cases hid : d0 = i
        · have hsj := HSJ.out hid
          have HTT : Hid ((x.l.take (j + 1)).any (fun b => b.1 == i) = true) := by unfold Hid; rw [HTK.out, hid]; simp
          subst hid
          clear HTK HSJ
          by_cases h1 : a ≤ 1
          · have e1 : d1 = g := hsj.1 h1
            have h2 : ¬ (a = 2) := by omega
            subst e1
            clear hsj
            go_wp2
            go_roundw
            case rel => exact ⟨j + 1, by omega, by go_num, rfl, by rw [HTT.out], HB9.out⟩
            case measure => simp [intOf]; omega
          · by_cases h2 : a = 2
            · have e1 : d2 = true := hsj.2 h2
              subst e1
              subst h2
              clear hsj h1
              go_wp2
              go_roundw
              case rel => exact ⟨j + 1, by omega, by go_num, rfl, by rw [HTT.out], HB9.out⟩
              case measure => simp [intOf]; omega
            · clear hsj
              go_wp2
              go_roundw
              case rel => exact ⟨j + 1, by omega, by go_num, rfl, by rw [HTT.out], HB9.out⟩
              case measure => simp [intOf]; omega
        · have HTT : Hid ((x.l.take (j + 1)).any (fun b => b.1 == i) = fd) := by unfold Hid; rw [HTK.out]; simp [hid]
          clear HTK HSJ
          go_wp2
          go_roundw
          case rel => exact ⟨j + 1, by omega, by go_num, rfl, by rw [HTT.out], HB9.out⟩
          case measure => simp [intOf]; omega
      · have e : j = nb2 := by omega
        subst e
        rw [show x.l.take j = x.l by rw [← HNB2.out, List.take_length], HSA.out.2]
        have HPL := hide (pools_any wr)
        have HB7 := hide (HB5.out.trans (HBr.out.mono HB5.out.size))
        by_cases h3 : a = 3
        · subst h3
          go_wp2_with fail
          refine HPL.out.mono ?_
          rintro e w8 ⟨rfl, hb8⟩
          have HB8 := hide (HB7.out.trans (hb8.mono HB7.out.size))
          clear hb8
          go_wp2
          go_ret
          exact ⟨rfl, HB8.out⟩
        · rw [decide_eq_true (show a ≠ 3 from h3)]
          have h3a : (a == 3) = false := by simpa using h3
          have h3b : (a != 3) = true := by simpa using h3
          have h3c : decide (a = 3) = false := decide_eq_false h3
          go_wp2_with fail
          refine HPL.out.mono ?_
          rintro e w8 ⟨rfl, hb8⟩
          have HB8 := hide (HB7.out.trans (hb8.mono HB7.out.size))
          clear hb8
          go_wp2
          go_ret
          exact ⟨rfl, HB8.out⟩

set_option maxRecDepth 100000 in
theorem fnPools_lifted (os : Os) (started : os.Started) (H : Type) (enc : TypeId × Value → H) :
    ReturnsInHanded {} Try.checked os 3 .any (Rows.fnPoolsSpec.pre6 enc Try.prog Try.f3 Rows.fnPoolsRow.domain false) (Rows.fnPoolsSpec.post enc Try.prog Try.f3 false true false false) := by
  refine returnsInHanded_of_change (C := Try.checked) own started (by kernel_rfl) Try.func3
    (ChangeSpec.witness6 (enc := enc) (C := Try.checked) false ⟨#[], #[.slice none 0 0], []⟩ 8 (by kernel_rfl) (by kernel_rfl) (by kernel_rfl) (by kernel_rfl)) ?_
  intro W base args ds gs before hval0 hW hcnd _
  have hval : ∀ (j : Nat) t v, Try.f3.params[j]? = some t → args[j]? = some v → Value.okWide Try.prog W .any base t v := hval0
  have hW' := hW
  obtain ⟨p, q, hA0, hV, rfl, hfz, hnd⟩ := hW
  have hA : DataW.TrodAll enc Try.prog W 0 (fun _ => true) true Try.f3.params.toList args.toList ds p := hA0
  rw [Try.params3] at hA hval
  obtain ⟨v0, vs0, d0, ds0, p0, q0, hargs, rfl, rfl, h0, r0⟩ := trodAll_cons hA
  obtain ⟨rfl, rfl, rfl⟩ := trodAll_nil r0
  obtain rfl : args = #[v0] := by cases args; simp_all
  obtain ⟨rfl, rfl⟩ := trodVars_none hV
  have k0 := h0
  have lt0 : ∀ x ∈ p0, x.block < W.heap.size := by obtain ⟨m, hm⟩ := k0; exact DataW.trod_lt m _ _ _ hm
  obtain ⟨o0, cap0, l0, rfl, hm0, hR0, hB80⟩ := open_bytes (hval 0 22 v0 rfl rfl) h0
  clear hA0 hval0
  refine (lawPools o0 cap0 l0 W hm0 hR0 hB80 ).mono fun e W' ⟨he, bel⟩ => ?_
  subst he
  exact ⟨_, rfl, _, _, _, [], _, [], hW', trodAll_mk1 (shut_bool Try.underlying4 _), (trodAll_cons_mk (Below.trod laidOut (by kernel_rfl) (of_decide_eq_true (by kernel_rfl)) k0 bel lt0) trodAll_mk0), rfl, bel.frame _, fun h => by cases h⟩

theorem fnPools_over : Rows.fnPoolsRow.holds Try.pinned (OpenSpec.ofChange Rows.fnPoolsSpec) :=
  OpenClaim.holds_of_wide 3 Try.f3 rfl rfl rfl rfl rfl rfl rfl ⟨rfl, rfl, rfl, rfl, rfl⟩ rfl rfl rfl rfl rfl (by kernel_rfl) Try.func3 (by kernel_rfl)
    (of_decide_eq_true (by kernel_rfl)) (by unfold Func.isWrapper; first | (rw [if_pos (by decide +kernel)]; kernel_rfl) | (rw [if_neg (by decide +kernel)]; exact ⟨rfl, rfl⟩))
    (fun os started H enc _ => fnPools_lifted os started H enc)

theorem fnPools_holds : Rows.FnPoolsSaid := fnPools_over


end Go.Proofs.Ytldjaapbkihibaa
