/- JournalRead: the program's side. -/
import Derived.Test.YtflakpmcgopdaaaGrSJR2
import Derived.Deep.RegionHeld3
import Derived.Deep.CutRange
import Derived.Deep.RegionLaw
namespace Go.Proofs.Ytflakpmcgopdaaa
open Go.ChangeShapes Go.WideShapes Go.ChangeAt Go.RowKit Go.Joins
set_option linter.unusedVariables false
set_option linter.unusedSimpArgs false

theorem or_word (x y : Int) (hx : 0 ≤ x ∧ x ≤ 255) (hy : 0 ≤ y ∧ y ≤ 65535) : bits .or .i64 (x * 65536) y = x * 65536 + y := by
  obtain ⟨a, rfl⟩ := Int.eq_ofNat_of_zero_le hx.1
  obtain ⟨b, rfl⟩ := Int.eq_ofNat_of_zero_le hy.1
  have h := i64_or_nat (a * 65536) b (by omega) (by omega)
  rw [nat_join 16 (a * 65536) b (by omega) (by omega)] at h
  simpa using h
theorem pairAtR (b off cap n : Nat) (L : List Int) (hn : n = L.length) (w : World) (hbl : b < w.heap.size) (hcell : ∀ i, i < L.length → w.cell? ⟨b, off + i, none⟩ = some (.int .u8 (L.getD i 0))) (hB8 : isB L) (h1 : 1 < n) (hlen : n ≤ 1048576) :
    Calls Try.prog 90 #[.slice (some ⟨b, off, none⟩) n cap, .int .i64 1] w fun e w' => e = .returned (.int .i64 (pairLS L 1)) ∧ w = w' := by
  subst hn
  have := pairAt_any (some ⟨b, off, none⟩) cap L 1 w (.inr ⟨b, off, rfl, hbl, hcell⟩) hB8 hlen h1
  simpa using this
theorem finR3 {W : World} {s k : Value} :
    ∃ B', Value.pointer (some ⟨W.heap.size, 0, none⟩) = .pointer (some ⟨B', 0, none⟩) ∧ Hid ((setP (W.alloc (.cells #[.int .i64 0, .slice none 0 0, .int .i64 0] 47)).drew W.heap.size k (.slice none 0 0) s).heap[B']? = some (.cells #[k, .slice none 0 0, s] 47 (0, 0))) ∧ Hid (Below W.heap.size W (setP (W.alloc (.cells #[.int .i64 0, .slice none 0 0, .int .i64 0] 47)).drew W.heap.size k (.slice none 0 0) s)) ∧ W.heap.size ≤ B' :=
  have h0 : (W.alloc (.cells #[.int .i64 0, .slice none 0 0, .int .i64 0] 47)).drew.heap[W.heap.size]? = some (.cells #[.int .i64 0, .slice none 0 0, .int .i64 0] 47 (0, 0)) := World.alloc_heap_new W _
  ⟨W.heap.size, rfl, box_put (box_put (box_put h0 0 _) 1 _) 2 _, setP_below (Below.drew ((Below.refl _ _).alloc (Nat.le_refl _) _)) (Nat.le_refl _) _ _ _, Nat.le_refl _⟩

set_option maxRecDepth 100000 in
set_option maxHeartbeats 4000000 in
theorem implJRead_go (b off cap n : Nat) (L : List Int) (hn : n = L.length) (w : World) (hbl : b < w.heap.size) (hcell : ∀ i, i < L.length → w.cell? ⟨b, off + i, none⟩ = some (.int .u8 (L.getD i 0))) (hB8 : isB L) (h4 : 4 ≤ n) (h3 : (n - 4) % 3 = 0) (hlen : n ≤ 304) :
    Calls Try.prog 30 #[.slice (some ⟨b, off, none⟩) n cap] w fun e w' => readJ L w e w' := by
  have HN := hide hn
  have HC := hide hcell
  have g0 : ¬ ((n : Int) < 4) := by omega
  have g1 : IntKind.i64.wrap ((n : Int) - 4) = (n : Int) - 4 := by rw [IntKind.wrap_i64]; omega
  have g2 : ((n : Int) - 4).tmod 3 = 0 := by rw [Int.tmod_eq_emod_of_nonneg (by omega)]; omega
  have g3 : ¬ ((304 : Int) < (n : Int)) := by omega
  have c0 := hcell 0 (by omega)
  have c1 := hcell 1 (by omega)
  have c2 := hcell 2 (by omega)
  have c3 := hcell 3 (by omega)
  have q0 := hB8.get 0
  have q1 := hB8.get 1
  have q2 := hB8.get 2
  have q3 := hB8.get 3
  have HPB := hide (show L.getD 1 0 * 256 + L.getD 2 0 = pairLS L 1 from rfl)
  have hpb : 0 ≤ pairLS L 1 ∧ pairLS L 1 ≤ 65535 := by have := HPB.out; omega
  have HK : Hid (L.getD 0 0 * 65536 + pairLS L 1 = keyR L) := by unfold Hid keyR; have := HPB.out; omega
  have HPA := hide (fun W (hb : Below w.heap.size w W) => pairAtR b off cap n L hn W (Nat.lt_of_lt_of_le hbl hb.size) (fun i hi => bC hb (hcell i hi) hbl) hB8 (by omega) (by omega))
  clear HPB
  generalize pairLS L 1 = pp at *
  have HS3 := hide (show L.getD 3 0 = L.getD 3 0 from rfl)
  clear hcell hn
  rw [Nat.add_zero] at c0
  generalize L.getD 0 0 = x0 at *
  generalize L.getD 1 0 = x1 at *
  generalize L.getD 2 0 = x2 at *
  generalize hx3 : L.getD 3 0 = x3 at *
  have HX3 := hide hx3
  clear hx3
  have u4 : IntKind.i64.wrap x1 = x1 := by rw [IntKind.wrap_i64]; omega
  have u5 : IntKind.i64.wrap (x1 * 256) = x1 * 256 := by rw [IntKind.wrap_i64]; omega
  have u6 : IntKind.i64.wrap x2 = x2 := by rw [IntKind.wrap_i64]; omega
  have u7 : IntKind.i64.wrap x3 = x3 := by rw [IntKind.wrap_i64]; omega
  have u1 : IntKind.i64.wrap (x0 * 65536) = x0 * 65536 := by rw [IntKind.wrap_i64]; omega
  have u0 : IntKind.i64.wrap x0 = x0 := by rw [IntKind.wrap_i64]; omega
  have hor := or_word x0 pp q0 hpb
  have u2 : IntKind.i64.wrap (x0 * 65536 + x1 * 256) = x0 * 65536 + x1 * 256 := by rw [IntKind.wrap_i64]; omega
  have u3 : IntKind.i64.wrap (x0 * 65536 + pp) = x0 * 65536 + pp := by rw [IntKind.wrap_i64]; omega
  obtain ⟨W0, hW0⟩ : ∃ W, (w.alloc (.cells #[.int .i64 0, .slice none 0 0, .int .i64 0] 47)) = W := ⟨_, rfl⟩
  have hb_W0 : Below w.heap.size w W0 := by rw [← hW0]; exact ((Below.refl _ _).alloc (Nat.le_refl _) _)
  have HB := hide hb_W0
  clear hb_W0
  have zr : w.heap.size < W0.heap.size := by rw [← hW0]; simp
  have r0 : W0.cell? ⟨w.heap.size, 0, none⟩ = some (.int .i64 0) := by rw [← hW0]; simp [go_sem]
  have r1 : W0.cell? ⟨w.heap.size, 1, none⟩ = some (.slice none 0 0) := by rw [← hW0]; simp [go_sem]
  have r2 : W0.cell? ⟨w.heap.size, 2, none⟩ = some (.int .i64 0) := by rw [← hW0]; simp [go_sem]
  have fr0 : W0.frozen? ⟨w.heap.size, 0, none⟩ = false := by rw [← hW0]; simp [go_sem]
  have fr1 : W0.frozen? ⟨w.heap.size, 1, none⟩ = false := by rw [← hW0]; simp [go_sem]
  have fr2 : W0.frozen? ⟨w.heap.size, 2, none⟩ = false := by rw [← hW0]; simp [go_sem]
  have d0 := bC HB.out c0 hbl
  have d1 := bC HB.out c1 hbl
  have d2 := bC HB.out c2 hbl
  have d3 := bC HB.out c3 hbl
  clear c0 c1 c2 c3
  go_enter Try.func30, Try.ntmps30
  have i0 : 0 < n := by omega
  have i1 : (1 : Int) < (n : Int) := by omega
  have i2 : (2 : Int) < (n : Int) := by omega
  have i3 : (3 : Int) < (n : Int) := by omega
  have hbW : b < W0.heap.size := Nat.lt_of_lt_of_le hbl HB.out.size
  have hneb : W0.heap.size ≠ b := Nat.ne_of_gt hbW
  go_upto_region 3 with fail
  go_cut [4] from 22 to 34 (fun s4 wx => ∃ B', s4 = .pointer (some ⟨B', 0, none⟩) ∧ Hid (wx.heap[B']? = some (.cells #[.int .i64 (x0 * 65536 + pp), .slice none 0 0, .int .i64 x3] 47 (0, 0))) ∧ Hid (Below W0.heap.size W0 wx) ∧ W0.heap.size ≤ B')
  case first =>
    go_region_held3 (fun w' => w'.cell? ⟨b, off, none⟩ = some (.int .u8 x0) ∧ w'.cell? ⟨b, off + 1, none⟩ = some (.int .u8 x1) ∧ w'.cell? ⟨b, off + 2, none⟩ = some (.int .u8 x2) ∧ w'.cell? ⟨b, off + 3, none⟩ = some (.int .u8 x3)) (first | with_reducible exact ⟨bC (Below.drew (Below.refl _ _)) d0 hbW, bC (Below.drew (Below.refl _ _)) d1 hbW, bC (Below.drew (Below.refl _ _)) d2 hbW, bC (Below.drew (Below.refl _ _)) d3 hbW⟩ | with_reducible exact ⟨bC (Below.drew ((Below.refl _ _).alloc (Nat.le_refl _) _)) d0 hbW, bC (Below.drew ((Below.refl _ _).alloc (Nat.le_refl _) _)) d1 hbW, bC (Below.drew ((Below.refl _ _).alloc (Nat.le_refl _) _)) d2 hbW, bC (Below.drew ((Below.refl _ _).alloc (Nat.le_refl _) _)) d3 hbW⟩ | with_reducible exact ⟨bC ((Below.drew (Below.refl _ _)).alloc (Nat.le_refl _) _) d0 hbW, bC ((Below.drew (Below.refl _ _)).alloc (Nat.le_refl _) _) d1 hbW, bC ((Below.drew (Below.refl _ _)).alloc (Nat.le_refl _) _) d2 hbW, bC ((Below.drew (Below.refl _ _)).alloc (Nat.le_refl _) _) d3 hbW⟩ | with_reducible exact ⟨bC (setP_below (Below.drew ((Below.refl _ _).alloc (Nat.le_refl _) _)) (Nat.le_refl _) _ _ _) d0 hbW, bC (setP_below (Below.drew ((Below.refl _ _).alloc (Nat.le_refl _) _)) (Nat.le_refl _) _ _ _) d1 hbW, bC (setP_below (Below.drew ((Below.refl _ _).alloc (Nat.le_refl _) _)) (Nat.le_refl _) _ _ _) d2 hbW, bC (setP_below (Below.drew ((Below.refl _ _).alloc (Nat.le_refl _) _)) (Nat.le_refl _) _ _ _) d3 hbW⟩) (first | (go_at_call 90; have hc_ := HPA.out W0.drew (HB.out.trans ((show Below W0.heap.size W0 W0.drew from (Below.drew (Below.refl _ _))).mono HB.out.size)); with_reducible refine hc_.mono ?_; clear hc_; rintro e x9 ⟨rfl, rfl⟩) | (go_at_call 90; have hc_ := HPA.out (W0.alloc (.cells #[.int .i64 0, .slice none 0 0, .int .i64 0] 47)).drew (HB.out.trans ((show Below W0.heap.size W0 (W0.alloc (.cells #[.int .i64 0, .slice none 0 0, .int .i64 0] 47)).drew from (Below.drew ((Below.refl _ _).alloc (Nat.le_refl _) _))).mono HB.out.size)); with_reducible refine hc_.mono ?_; clear hc_; rintro e x9 ⟨rfl, rfl⟩))
    all_goals (go_wp2_with fail; go_meet)
    all_goals first
      | with_reducible exact finR
      | with_reducible exact finR3
  case rest =>
    obtain ⟨B, rfl, Hbx, Hbl, hB0⟩ := hcut
    rw [HK.out] at Hbx
    have hb := Hbl.out
    clear Hbl HPA hor hpb u0 u1 u2 u3 u4 u5 u6 u7 d0 d1 d2 d3 i0 i1 i2 i3 q0 q1 q2 HK
    obtain ⟨key, hkey⟩ : ∃ k, keyR L = k := ⟨_, rfl⟩
    rw [hkey] at Hbx
    have HKK := hide hkey
    clear hkey
    have HB0 := hide HB.out
    have HZ0 := hide zr
    replace r0 := bC hb r0 zr
    replace r1 := bC hb r1 zr
    replace r2 := bC hb r2 zr
    replace fr0 := bF hb fr0 zr
    replace fr1 := bF hb fr1 zr
    replace fr2 := bF hb fr2 zr
    replace zr := Nat.lt_of_lt_of_le zr hb.size
    replace HB := hide (HB.out.trans (hb.mono HB.out.size))
    clear hb
    go_wp2
    go_loopw [5] (fun iv wr => ∃ (t i : Nat) (o : Option Addr) (c : Nat), Hid (i = 4 + 3 * t) ∧ i ≤ n ∧ iv = .int .i64 (i : Int) ∧ Hid (JB wr W0.heap.size B key x3 o t c (cmdsR L t)) ∧ Hid (Below W0.heap.size wc wr))
      (fun iv _ => n - (intOf iv).toNat)
    case atStart => exact ⟨0, 4, none, 0, rfl, h4, rfl, ⟨Hbx.out, World.ownsRow_nil _ _ _ _⟩, Below.refl _ _⟩
    case round =>
      obtain ⟨t, i, o, c, HI, hin, rfl, HJB, HBR⟩ := hrel
      by_cases hlt : i < n
      · skip
        have hi2 : i + 2 < n := by have := HI.out; omega
        have htn : t ≤ 400 := by have := HI.out; omega
        have hlt' : (i : Int) < (n : Int) := by omega
        have hj0 : (0 : Int) ≤ (i : Int) := by omega
        have hj1 : (i : Int) + 1 < (n : Int) := by omega
        have hj2 : (i : Int) + 2 < (n : Int) := by omega
        have hj3 : (0 : Int) ≤ (i : Int) + 1 := by omega
        have hj4 : (0 : Int) ≤ (i : Int) + 2 := by omega
        have ht2 : ((i : Int) + 2).toNat = i + 2 := by omega
        have v1 : IntKind.i64.wrap ((i : Int) + 1) = (i : Int) + 1 := by rw [IntKind.wrap_i64]; omega
        have v2 : IntKind.i64.wrap ((i : Int) + 2) = (i : Int) + 2 := by rw [IntKind.wrap_i64]; omega
        have v3 : IntKind.i64.wrap ((i : Int) + 3) = (i : Int) + 3 := by rw [IntKind.wrap_i64]; omega
        have HBB : Hid (Below w.heap.size w wr) := HB.out.trans (HBR.out.mono HB0.out.size)
        have hnL := HN.out
        have e0 := bC HBB.out (HC.out i (by omega)) hbl
        have p0 := hB8.get i
        have e1 := bC HBB.out (HC.out (i + 1) (by omega)) hbl
        have p1 := hB8.get (i + 1)
        have e2 := bC HBB.out (HC.out (i + 2) (by omega)) hbl
        have p2 := hB8.get (i + 2)
        have HBY : Hid (byC L t = (L.getD i 0, L.getD (i + 1) 0, L.getD (i + 2) 0)) := by unfold Hid byC; rw [← HI.out]
        generalize L.getD i 0 = y0 at *
        generalize L.getD (i + 1) 0 = y1 at *
        generalize L.getD (i + 2) 0 = y2 at *
        clear hnL
        have k0 : IntKind.i64.wrap y0 = y0 := by rw [IntKind.wrap_i64]; omega
        have k1 : IntKind.i64.wrap y1 = y1 := by rw [IntKind.wrap_i64]; omega
        have k2 : IntKind.i64.wrap y2 = y2 := by rw [IntKind.wrap_i64]; omega
        obtain ⟨hbx, ho⟩ := HJB.out
        have a1 : wr.cell? ⟨B, 1, none⟩ = some (.slice o t c) := bx_cell hbx 1 _ rfl
        have HBX := hide hbx
        have HO := hide ho
        have hBl := (Array.getElem?_eq_some_iff.1 hbx).1
        clear hbx ho HJB
        have hrs := HBR.out.size
        have HWS := hide HB0.out.size
        have HOB := hide (own_box HO.out HBX.out (by decide))
        go_upto_region 7 with fail
        go_region_law (first | (refine step_append_lay appC0 rfl (.tmp 42) (.tmp 61) rfl W0.heap.size _ (cmdsR L t) rfl (own_kept HO.out (Below.drew ((Below.refl _ _).alloc (Nat.le_refl _) (.cells #[.int .i64 y0, .int .i64 y1, .int .i64 y2] 28)))) (some ⟨wr.heap.size, 0, none⟩) 1 _ [(y0, y1, y2)] 1 rfl rfl (fun h => by cases h) rd_oneCd (by simp [cmdsR_len]; omega) (by simp; omega) ?_; intro v6 w6 ho6 hg6 _; obtain ⟨o6, c6, e6, _⟩ := ownL.open (L := layC) ho6; rw [← HBY.out, ← cmdsR_succ] at e6 ho6; rw [cmdsR_len] at e6; subst e6; have hx6 := box_farR HBX.out hg6 HOB.out; have hb6 := own_far HO.out (by omega) hg6; have a6 : w6.cell? ⟨B, 1, none⟩ = some (.slice o t c) := bx_cell hx6 1 _ rfl; have g6 := bx_frozen hx6 1; have HH := hide (And.intro hx6 (And.intro ho6 hb6)); clear hx6 ho6 hb6 hg6))
        all_goals (obtain ⟨o9, c9, HJ9, HB9⟩ := JB.put HH.out.1 HH.out.2.1 HH.out.2.2 hB0)
        all_goals go_wp2
        all_goals go_roundw
        all_goals first
          | exact ⟨t + 1, i + 3, o9, c9, by unfold Hid; rw [HI.out]; omega, by omega, by go_num, HJ9, hide (HBR.out.trans HB9.out)⟩
          | (simp [intOf]; omega)
      · skip
        have HT : Hid (t = numR L) := by unfold Hid numR; rw [← HN.out]; have := HI.out; omega
        have hte : i = n := by have := HI.out; omega
        have hnlt : ¬ ((i : Int) < (n : Int)) := by omega
        have hcl : t ≤ 400 := by have := HI.out; omega
        have HOK : Hid (okJ L = journalB key (cmdsR L t) x3) := by
          have hf : fineR L = true := by unfold fineR; rw [← HN.out]; simp [h4, h3]
          unfold Hid okJ
          rw [hf, HKK.out, HX3.out, ← HT.out]; rfl
        have HJR : Hid (jrR L = if journalB key (cmdsR L t) x3 = true then ⟨key, cmdsR L t, x3⟩ else jm0) := by
          unfold Hid jrR
          rw [HOK.out, HKK.out, HX3.out, ← HT.out]
        obtain ⟨hbx, ho⟩ := HJB.out
        have HO := hide ho
        have hrs := HBR.out.size
        have hws : w.heap.size < W0.heap.size := HZ0.out
        have HBB : Hid (Below w.heap.size w wr) := HB.out.trans (HBR.out.mono HB0.out.size)
        have HJO := hide (implJournalOk_sh (jrn key (.slice o (cmdsR L t).length c) x3) ⟨key, cmdsR L t, x3⟩ wr ⟨_, rfl, o, c, rfl, ownL.rds (L := layC) ho⟩ (by unfold fitJm; rw [cmdsR_len]; omega))
        dsimp only at HJO
        rw [cmdsR_len] at HJO
        have a0 : wr.cell? ⟨B, 0, none⟩ = some (.int .i64 key) := bx_cell hbx 0 _ rfl
        have a1 : wr.cell? ⟨B, 1, none⟩ = some (.slice o t c) := bx_cell hbx 1 _ rfl
        have a2 : wr.cell? ⟨B, 2, none⟩ = some (.int .i64 x3) := bx_cell hbx 2 _ rfl
        have hBl := (Array.getElem?_eq_some_iff.1 hbx).1
        have s0 := bC HBR.out r0 hws
        have fs0 := bF HBR.out fr0 hws
        have s1 := bC HBR.out r1 hws
        have fs1 := bF HBR.out fr1 hws
        have s2 := bC HBR.out r2 hws
        have fs2 := bF HBR.out fr2 hws
        clear r0 r1 r2 fr0 fr1 fr2 hbx ho HJB
        cases hj : journalB key (cmdsR L t) x3 with
        | false =>
          rw [hj] at HJO HOK HJR
          go_wp2_with fail
          refine (HJO.out).mono ?_
          rintro e w9 ⟨rfl, hb⟩
          have hs9 := hb.size
          replace a0 := bC hb a0 hBl
          replace s0 := bC hb s0 (by omega)
          replace fs0 := bF hb fs0 (by omega)
          replace a1 := bC hb a1 hBl
          replace s1 := bC hb s1 (by omega)
          replace fs1 := bF hb fs1 (by omega)
          replace a2 := bC hb a2 hBl
          replace s2 := bC hb s2 (by omega)
          replace fs2 := bF hb fs2 (by omega)
          have HO9 := hide (own_kept HO.out hb)
          have HB9 : Hid (Below w.heap.size w w9) := HBB.out.trans (hb.mono HBB.out.size)
          clear hb
          go_wp2
          refine bodyPost_ret (v := .tuple #[jrn 0 (.slice none 0 0) 0, .bool false]) (by simp [results, Try.results30, go_sem, s0, s1, s2]) rfl ⟨jrn 0 (.slice none 0 0) 0, by rw [HOK.out], ?_, setP_below HB9.out (Nat.le_refl _) _ _ _⟩
          rw [HJR.out, if_neg (by simp)]
          exact ⟨_, rfl, World.ownsRow_nil _ _ _ _, fun b e => by cases e⟩
        | true =>
          rw [hj] at HJO HOK HJR
          go_wp2_with fail
          refine (HJO.out).mono ?_
          rintro e w9 ⟨rfl, hb⟩
          have hs9 := hb.size
          replace a0 := bC hb a0 hBl
          replace s0 := bC hb s0 (by omega)
          replace fs0 := bF hb fs0 (by omega)
          replace a1 := bC hb a1 hBl
          replace s1 := bC hb s1 (by omega)
          replace fs1 := bF hb fs1 (by omega)
          replace a2 := bC hb a2 hBl
          replace s2 := bC hb s2 (by omega)
          replace fs2 := bF hb fs2 (by omega)
          have HO9 := hide (own_kept HO.out hb)
          have HB9 : Hid (Below w.heap.size w w9) := HBB.out.trans (hb.mono HBB.out.size)
          clear hb
          go_wp2
          refine bodyPost_ret (v := .tuple #[jrn key (.slice o t c) x3, .bool true]) (by simp [results, Try.results30, go_sem, s0, s1, s2]) rfl ⟨jrn key (.slice o t c) x3, by rw [HOK.out], ?_, setP_below HB9.out (Nat.le_refl _) _ _ _⟩
          have hj9 : jrR L = ⟨key, cmdsR L t, x3⟩ := by have := HJR.out; simpa using this
          rw [hj9]
          exact ⟨_, rfl, InRow.of (own_mono (own_low (own_low (own_low HO9.out hws 0 _) hws 1 _) hws 2 _) (by omega))⟩

end Go.Proofs.Ytflakpmcgopdaaa
