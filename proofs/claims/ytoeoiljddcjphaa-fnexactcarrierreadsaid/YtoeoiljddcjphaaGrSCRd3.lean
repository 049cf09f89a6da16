/- Several texts in one: SCRdS, SCRd3. -/
import Derived.Test.YtoeoiljddcjphaaSCRdU
import Derived.Test.YtoeoiljddcjphaaSRead5
import Derived.Deep.CutRange
import Derived.Deep.RegionLaw
import Derived.Test.YtoeoiljddcjphaaShB
import Derived.Test.YtoeoiljddcjphaaShC
/- CarrierRead: the model's side. -/
namespace Go.Proofs.Ytoeoiljddcjphaa
open Go.ChangeShapes Go.WideShapes Go.ChangeAt Go.RowKit Go.Joins
set_option linter.unusedVariables false
set_option linter.unusedSimpArgs false

theorem bCc {C b j : Nat} {w w' : World} {u : Value} (h : Below C w w') (hc : w.cell? ⟨b, j, none⟩ = some u) (hz : b < C) : w'.cell? ⟨b, j, none⟩ = some u := (h.cell (p := ⟨b, j, none⟩) hz).trans hc
theorem crPost_yes {b : List Int} {w w' : World} {v : Value} (h : crOk b = true) (hv : ownCm w' w.heap.size v (crM b)) (hb : Below w.heap.size w w') : crPost b w (.returned (.tuple #[v, .bool true])) w' := by
  refine ⟨_, by rw [h], ?_, hb⟩
  unfold crR
  rw [h]
  exact hv
theorem and15n : ∀ m : Fin 256, bits .and .u8 ((m.val : Nat) : Int) 15 = ((m.val : Nat) : Int) % 16 := by decide +kernel
theorem and15 {y : Int} (h : 0 ≤ y ∧ y ≤ 255) : bits .and .u8 y 15 = y % 16 := by
  obtain ⟨m, rfl⟩ := Int.eq_ofNat_of_zero_le h.1
  exact and15n ⟨m, by omega⟩
/-- The carrier's box, and its segs so far. -/
structure SC (w : World) (B : Nat) (L : List Int) (vg : Value) (x1 st : Int) (i : Nat) (W : World) : Prop where
  box : W.heap[B]? = some (.cells (crC 0 0 0 0 (.slice none 0 0) vg x1 st) 29 (0, 0))
  hB : w.heap.size < B
  seg : ownL layG 35 W (w.heap.size + 1) vg (crG L i)
  res : W.heap[w.heap.size]? = some (.cells (crC 0 0 0 0 (.slice none 0 0) (.slice none 0 0) 0 0) 29 (0, 0))
  bel : Below w.heap.size w W
theorem SC.app {w W W2 : World} {B : Nat} {L : List Int} {vg vg' : Value} {x1 st : Int} {i : Nat} (h : SC w B L vg x1 st i W) (ho : ownL layG 35 W2 (w.heap.size + 1) vg' (crG L (i + 1))) (hg : W.grownBy W2 vg.ownBlock) : SC w B L vg' x1 st (i + 1) (W2.setCell ⟨B, 5, none⟩ vg') := by
  have hl := box_lt h.res
  have hlo : ∀ q, vg.ownBlock = some q → w.heap.size + 1 ≤ q := fun q e => (h.seg.lt q e).1
  have hx := (hg.block _ (box_lt h.box) (fun e => box_no h.box (by decide) h.seg e)).trans h.box
  have hr := (hg.block _ hl (fun e => by have := hlo _ e.symm; omega)).trans h.res
  have hn : some B ≠ vg'.ownBlock := box_no hx (by decide) ho
  have hb : Below w.heap.size w W2 := h.bel.grown hg h.bel.size (fun q e => by have := hlo q e; omega)
  have hB := h.hB
  exact ⟨by simpa using box_set W2 _ 5 _ _ vg' hx, h.hB, own_set ho _ 5 vg' (fun b e h' => hn (by rw [e, h'])), (Below.heap_setCell W2 ⟨B, 5, none⟩ vg' _ (by simp; omega)).trans hr, hb.setCell (p := ⟨B, 5, none⟩) (Nat.le_of_lt h.hB) vg'⟩
theorem SC.alloc {w W : World} {B : Nat} {L : List Int} {vg : Value} {x1 st : Int} {i : Nat} (h : SC w B L vg x1 st i W) (O : Obj) : SC w B L vg x1 st i (W.alloc O) :=
  ⟨box_al h.box O, h.hB, World.ownsRow.alloc h.seg O, box_al h.res O, h.bel.alloc h.bel.size O⟩
theorem SC.drew {w W : World} {B : Nat} {L : List Int} {vg : Value} {x1 st : Int} {i : Nat} (h : SC w B L vg x1 st i W) : SC w B L vg x1 st i W.drew := ⟨h.box, h.hB, h.seg, h.res, Below.drew h.bel⟩
theorem SC.on {w W W' : World} {B : Nat} {L : List Int} {vg : Value} {x1 st : Int} {i : Nat} (h : SC w B L vg x1 st i W) (hb : Below W.heap.size W W') : SC w B L vg x1 st i W' :=
  ⟨(hb.block _ (box_lt h.box)).trans h.box, h.hB, own_kept h.seg hb, (hb.block _ (box_lt h.res)).trans h.res, h.bel.trans (hb.mono h.bel.size)⟩
/-- The packet is laid into the box. -/
theorem SC.setP {w W : World} {B : Nat} {L : List Int} {vg : Value} {x1 st : Int} {i : Nat} (h : SC w B L vg x1 st i W) {a b f s : Int} {v : Value} {l : List Int} {base : Nat} (hv : ownB W base v l) (hn : B < base) :
    ∃ W', W' = ((((W.setCell ⟨B, 0, none⟩ (.int .i64 a)).setCell ⟨B, 1, none⟩ (.int .i64 b)).setCell ⟨B, 2, none⟩ (.int .i64 f)).setCell ⟨B, 3, none⟩ (.int .i64 s)).setCell ⟨B, 4, none⟩ v ∧ W'.heap[B]? = some (.cells (crC a b f s v vg x1 st) 29 (0, 0)) ∧ W'.heap[w.heap.size]? = some (.cells (crC 0 0 0 0 (.slice none 0 0) (.slice none 0 0) 0 0) 29 (0, 0)) ∧ ownB W' (w.heap.size + 1) v l ∧ ownL layG 35 W' (w.heap.size + 1) vg (crG L i) ∧ Below w.heap.size w W' := by
  have hB := h.hB
  refine ⟨_, rfl, ?_, ?_, ?_, ?_, ?_⟩
  · simpa using box_set _ B 4 _ _ v (box_set _ B 3 _ _ (.int .i64 s) (box_set _ B 2 _ _ (.int .i64 f) (box_set _ B 1 _ _ (.int .i64 b) (box_set W B 0 _ _ (.int .i64 a) h.box))))
  · repeat (refine (Below.heap_setCell _ ⟨B, _, none⟩ _ _ (by simp; omega)).trans ?_)
    exact h.res
  · refine own_mono (base := base) ?_ (by omega)
    repeat (refine ownsRow_setCell_below ?_ hn _)
    exact hv
  · have hne : ∀ b, vg.ownBlock = some b → b ≠ B := fun b e h' => box_no h.box (by decide) h.seg (by rw [e, h'])
    exact own_set (own_set (own_set (own_set (own_set h.seg _ 0 _ hne) _ 1 _ hne) _ 2 _ hne) _ 3 _ hne) _ 4 _ hne
  · exact ((((h.bel.setCell (p := ⟨B, 0, none⟩) (Nat.le_of_lt hB) _).setCell (p := ⟨B, 1, none⟩) (Nat.le_of_lt hB) _).setCell (p := ⟨B, 2, none⟩) (Nat.le_of_lt hB) _).setCell (p := ⟨B, 3, none⟩) (Nat.le_of_lt hB) _).setCell (p := ⟨B, 4, none⟩) (Nat.le_of_lt hB) _
theorem SC.start {w : World} {L : List Int} {x1 st : Int} : SC w (w.heap.size + 1) L (.slice none 0 0) x1 st 0 ((w.alloc (.cells (crC 0 0 0 0 (.slice none 0 0) (.slice none 0 0) 0 0) 29)).alloc (.cells (crC 0 0 0 0 (.slice none 0 0) (.slice none 0 0) x1 st) 29)) := by
  have hb : Below w.heap.size w (w.alloc (.cells (crC 0 0 0 0 (.slice none 0 0) (.slice none 0 0) 0 0) 29)) := (Below.refl _ _).alloc (Nat.le_refl _) _
  have h := World.alloc_heap_new (w.alloc (.cells (crC 0 0 0 0 (.slice none 0 0) (.slice none 0 0) 0 0) 29)) (.cells (crC 0 0 0 0 (.slice none 0 0) (.slice none 0 0) x1 st) 29)
  rw [World.size_alloc] at h
  exact ⟨h, Nat.lt_succ_self _, World.ownsRow_nil _ _ _ _, box_al (World.alloc_heap_new w _) _, hb.alloc hb.size _⟩

set_option maxRecDepth 100000 in
set_option maxHeartbeats 4000000 in
theorem specCRead_go (b off cap n : Nat) (L : List Int) (hn : n = L.length) (w : World) (hbl : b < w.heap.size) (hcell : ∀ i, i < L.length → w.cell? ⟨b, off + i, none⟩ = some (.int .u8 (L.getD i 0))) (hB8 : isB L) (N : Nat) (hN : crN L = N) (h5 : 5 ≤ n) (h5N : 5 + N ≤ n) (hlen : n ≤ 1048576) (hcap : n ≤ cap) (hcm : cap ≤ maxLen) :
    Calls Try.prog 15 #[.slice (some ⟨b, off, none⟩) n cap] w fun e w' => crPost L w e w' := by
  have HN := hide hn
  have HC := hide hcell
  have HB8 := hide hB8
  have HNN := hide hN
  have c0 := hcell 0 (by omega)
  have c1 := hcell 1 (by omega)
  have c2 := hcell 2 (by omega)
  have c3 := hcell 3 (by omega)
  have c4 := hcell 4 (by omega)
  rw [Nat.add_zero] at c0
  have q0 := hB8.get 0
  have q1 := hB8.get 1
  have q2 := hB8.get 2
  have q3 := hB8.get 3
  have q4 := hB8.get 4
  have hx0 : L.getD 0 0 = (N : Int) := by rw [← hN]; unfold crN; omega
  have HST := hide (show L.getD 2 0 * 65536 + L.getD 3 0 * 256 + L.getD 4 0 = crSt L from rfl)
  rw [hx0] at c0 q0
  clear hcell hn hB8 hN hx0
  generalize hx1 : L.getD 1 0 = x1 at *
  generalize L.getD 2 0 = x2 at *
  generalize L.getD 3 0 = x3 at *
  generalize L.getD 4 0 = x4 at *
  have HXX := hide hx1
  clear hx1
  have g0 : ¬ ((n : Int) < 5) := by omega
  have g1 : ¬ ((n : Int) < 5 + (N : Int)) := by omega
  have i0 : (0 : Int) < (n : Int) := by omega
  have i1 : (1 : Int) < (n : Int) := by omega
  have i2 : (2 : Int) < (n : Int) := by omega
  have i3 : (3 : Int) < (n : Int) := by omega
  have i4 : (4 : Int) < (n : Int) := by omega
  have i00 : 0 < n := by omega
  have u0 : IntKind.i64.wrap (N : Int) = (N : Int) := by rw [IntKind.wrap_i64]; omega
  have u1 : IntKind.i64.wrap x1 = x1 := by rw [IntKind.wrap_i64]; omega
  have u2 : IntKind.i64.wrap x2 = x2 := by rw [IntKind.wrap_i64]; omega
  have u3 : IntKind.i64.wrap x3 = x3 := by rw [IntKind.wrap_i64]; omega
  have u4 : IntKind.i64.wrap x4 = x4 := by rw [IntKind.wrap_i64]; omega
  have u5 : IntKind.i64.wrap (x2 * 65536) = x2 * 65536 := by rw [IntKind.wrap_i64]; omega
  have u6 : IntKind.i64.wrap (x3 * 256) = x3 * 256 := by rw [IntKind.wrap_i64]; omega
  have u7 : IntKind.i64.wrap (x2 * 65536 + x3 * 256) = x2 * 65536 + x3 * 256 := by rw [IntKind.wrap_i64]; omega
  have u8 : IntKind.i64.wrap (x2 * 65536 + x3 * 256 + x4) = x2 * 65536 + x3 * 256 + x4 := by rw [IntKind.wrap_i64]; omega
  have u9 : IntKind.i64.wrap (5 + (N : Int)) = 5 + (N : Int) := by rw [IntKind.wrap_i64]; omega
  obtain ⟨W0, hW0⟩ : ∃ W, (w.alloc (.cells (crC 0 0 0 0 (.slice none 0 0) (.slice none 0 0) 0 0) 29)) = W := ⟨_, rfl⟩
  have hb0 : Below w.heap.size w W0 := by rw [← hW0]; exact (Below.refl _ _).alloc (Nat.le_refl _) _
  have hs0 : W0.heap.size = w.heap.size + 1 := by rw [← hW0]; simp
  have HW0 := hide hW0
  have d0 := bCc hb0 c0 hbl
  have d1 := bCc hb0 c1 hbl
  have d2 := bCc hb0 c2 hbl
  have d3 := bCc hb0 c3 hbl
  have d4 := bCc hb0 c4 hbl
  have hbW : b < W0.heap.size := by omega
  have hneb : W0.heap.size ≠ b := by omega
  have Hb0 := hide hb0
  clear c0 c1 c2 c3 c4 hb0
  go_enter Try.func15, Try.ntmps15
  go_upto_region 4 with fail
  go_cut [5] from 27 to 47 (fun s5 wx => s5 = .pointer (some ⟨w.heap.size + 1, 0, none⟩) ∧ wx = wx ∧ Hid (SC w (w.heap.size + 1) L (.slice none 0 0) x1 (x2 * 65536 + x3 * 256 + x4) 0 wx))
  case first =>
    go_region_held3 (fun w' => w'.cell? ⟨b, off + 1, none⟩ = some (.int .u8 x1) ∧ w'.cell? ⟨b, off + 2, none⟩ = some (.int .u8 x2) ∧ w'.cell? ⟨b, off + 3, none⟩ = some (.int .u8 x3) ∧ w'.cell? ⟨b, off + 4, none⟩ = some (.int .u8 x4)) (first | with_reducible exact ⟨d1, d2, d3, d4⟩ | go_keep) (fail)
    all_goals (go_wp2_with fail; go_meet)
    exact ⟨rfl, trivial, by rw [← HW0.out]; exact (SC.start).drew⟩
  case rest =>
    obtain ⟨rfl, _, HS⟩ := hcut
    rw [HST.out] at HS
    obtain ⟨st, hst⟩ : ∃ s, crSt L = s := ⟨_, rfl⟩
    rw [hst] at HS
    have HSTT := hide hst
    clear hst u1 u2 u3 u4 u5 u6 u7 u8 d0 d1 d2 d3 d4 q1 q2 q3 q4 HST i0 i1 i2 i3 i4 i00
    go_wp2
    go_loopw [6] (fun iv wr => ∃ (i : Nat) (vg : Value), i ≤ N ∧ iv = .int .i64 (i : Int) ∧ Hid (SC w (w.heap.size + 1) L vg x1 st i wr))
      (fun iv _ => N - (intOf iv).toNat)
    case atStart => exact ⟨0, _, Nat.zero_le _, rfl, HS.out⟩
    case round =>
      obtain ⟨i, vg, hi, rfl, HU⟩ := hrel
      obtain ⟨og, cg, hge, _⟩ := (ownG_lay.2 HU.out.seg).open
      rw [crG_len] at hge
      subst hge
      by_cases hlt : i < N
      · have z1 : (i : Int) < (N : Int) := by omega
        have hj0 : (0 : Int) ≤ 5 + (i : Int) := by omega
        have hj1 : 5 + (i : Int) < (n : Int) := by omega
        have hj2 : (5 + (i : Int)).toNat = 5 + i := by omega
        have v1 : IntKind.i64.wrap (5 + (i : Int)) = 5 + (i : Int) := by rw [IntKind.wrap_i64]; omega
        obtain ⟨y, hy⟩ : ∃ y, L.getD (5 + i) 0 = y := ⟨_, rfl⟩
        have hcy := bCc HU.out.bel (HC.out (5 + i) (by have := HN.out; omega)) hbl
        have hqy := HB8.out.get (5 + i)
        rw [hy] at hcy hqy
        have HY := hide (show crG L (i + 1) = crG L i ++ [(y % 16, y / 16)] by rw [crG_succ, hy]; rfl)
        clear hy
        have c5 : wr.cell? ⟨w.heap.size + 1, 5, none⟩ = some (.slice og i cg) := block_cell HU.out.box 5 _ rfl
        have c5a : ∀ O, (wr.alloc O).cell? ⟨w.heap.size + 1, 5, none⟩ = some (.slice og i cg) := fun O => block_cell (box_al HU.out.box O) 5 _ rfl
        have hand : bits .and .u8 y 15 = y % 16 := and15 hqy
        have k1 : IntKind.i64.wrap (y % 16) = y % 16 := by rw [IntKind.wrap_i64]; omega
        have k2 : IntKind.i64.wrap (y / 16) = y / 16 := by rw [IntKind.wrap_i64]; omega
        go_upto_region 8 with fail
        go_region_law (first | (refine step_append_lay appG rfl (.tmp 54) (.tmp 70) rfl (w.heap.size + 1) (.slice og i cg) (crG L i) rfl (HU.out.alloc (.cells #[.int .i64 (y % 16), .int .i64 (y / 16)] 35)).drew.seg (some ⟨wr.heap.size, 0, none⟩) 1 _ [(y % 16, y / 16)] 1 rfl rfl (fun h => by cases h) ((rd_seg1 wr (y % 16) (y / 16)).kept (Below.drew (Below.refl _ _)) (Nat.le_refl _)) (by rw [crG_len]; simp; omega) (by have := (HU.out.alloc (.cells #[.int .i64 (y % 16), .int .i64 (y / 16)] 35)).drew; have := box_lt this.box; omega) ?_; intro v8 w8 hv8 hg8 _; rw [← HY.out] at hv8; obtain ⟨o8, k8, e8, _⟩ := (ownG_lay.2 hv8).open; rw [crG_len] at e8; subst e8; have R := hide ((HU.out.alloc (.cells #[.int .i64 (y % 16), .int .i64 (y / 16)] 35)).drew.app hv8 hg8); have b8 := (hg8.block _ (box_lt (HU.out.alloc (.cells #[.int .i64 (y % 16), .int .i64 (y / 16)] 35)).drew.box) (fun e => box_no (HU.out.alloc (.cells #[.int .i64 (y % 16), .int .i64 (y / 16)] 35)).drew.box (by decide) (HU.out.alloc (.cells #[.int .i64 (y % 16), .int .i64 (y / 16)] 35)).drew.seg e)).trans (HU.out.alloc (.cells #[.int .i64 (y % 16), .int .i64 (y / 16)] 35)).drew.box; have c8 : w8.cell? ⟨w.heap.size + 1, 5, none⟩ = some (.slice og i cg) := block_cell b8 5 _ rfl; have f8 : w8.frozen? ⟨w.heap.size + 1, 5, none⟩ = false := block_frozen b8 5; clear b8 hv8 hg8))
        all_goals (
          clear c5 c5a
          go_wp2
          go_roundw
          case rel => exact ⟨i + 1, _, by omega, by go_num, R.out⟩
          case measure => simp [intOf]; omega)
      · have e : i = N := by omega
        subst e
        have z1 : ¬ ((i : Int) < (i : Int)) := by omega
        have hj0 : (0 : Int) ≤ 5 + (i : Int) := by omega
        have hj1 : 5 + (i : Int) ≤ (n : Int) := by omega
        have hj2 : (5 + (i : Int)).toNat = 5 + i := by omega
        have hj3 : 5 + (i : Int) ≤ (cap : Int) := by omega
        have HCP := hide (show crP L = L.drop (5 + i) by unfold crP; rw [HNN.out])
        have HPB := hide (drop_isB HB8.out (5 + i))
        have hpl : (L.drop (5 + i)).length = n - (5 + i) := by rw [List.length_drop, ← HN.out]
        by_cases hcz : cap = 5 + i
        · subst hcz
          have HR := hide (show Rd wr (some ⟨b, off, none⟩) (crP L) by exact .inl (by rw [HCP.out]; exact List.drop_eq_nil_of_le (by have := HN.out; omega)))
          have HPK := hide (specPacketRead_any (some ⟨b, off, none⟩) 0 (crP L) wr HR.out (by rw [HCP.out]; exact HPB.out) (by rw [HCP.out]; omega) (by rw [HCP.out]; omega) (by omega))
          rw [show (crP L).length = 0 by rw [HCP.out]; omega] at HPK
          clear hpl
          go_wp2_with fail
          refine HPK.out.mono ?_
          rintro e w6 ⟨v6, rfl, hv6, hb6⟩
          have h6 := HU.out.on hb6
          have hpos : w.heap.size + 1 < wr.heap.size := box_lt HU.out.box
          have HM := hide (show crM L = ⟨rdN (crP L) (pairLS (crP L) 0), rdN (crP L) (pairLS (crP L) 2), rdN (crP L) ((crP L).getD 6 0), rdN (crP L) (pairLS (crP L) 4), rdL (crP L), crG L i, x1, st⟩ by unfold crM; rw [HNN.out, HXX.out, HSTT.out])
          have HOK := hide (show crOk L = (okR (crP L) && (crM L).ok) by unfold crOk; rw [show decide (5 ≤ L.length) = true by (have := HN.out; simp; omega), show decide (5 + crN L ≤ L.length) = true by (have := HN.out; rw [HNN.out]; simp; omega)]; simp)
          obtain ⟨pa, hpa⟩ : ∃ x, rdN (crP L) (pairLS (crP L) 0) = x := ⟨_, rfl⟩
          obtain ⟨pb, hpb⟩ : ∃ x, rdN (crP L) (pairLS (crP L) 2) = x := ⟨_, rfl⟩
          obtain ⟨pf, hpf⟩ : ∃ x, rdN (crP L) ((crP L).getD 6 0) = x := ⟨_, rfl⟩
          obtain ⟨ps, hps⟩ : ∃ x, rdN (crP L) (pairLS (crP L) 4) = x := ⟨_, rfl⟩
          obtain ⟨B, hBd⟩ : ∃ x, rdL (crP L) = x := ⟨_, rfl⟩
          obtain ⟨ok, hok⟩ : ∃ x, okR (crP L) = x := ⟨_, rfl⟩
          have hBl : Hid (B.length ≤ 1048576) := by
            have h1 : (rdL (crP L)).length ≤ (crP L).length := by unfold rdL; split <;> simp
            have h2 : (crP L).length ≤ L.length := by unfold crP; simp
            have := HN.out
            unfold Hid; rw [← hBd]; omega
          rw [hpa, hpb, hpf, hps, hBd] at HM
          rw [hBd] at hv6
          rw [hok] at HOK
          rw [hpa, hpb, hpf, hps, hok]
          obtain ⟨ov, cv, ev, _⟩ := hv6.open
          subst ev
          obtain ⟨n6, hn6⟩ : ∃ n, B.length = n := ⟨_, rfl⟩
          have HN6 := hide hn6
          rw [hn6] at hv6 ⊢
          have hps6 : w.heap.size + 1 < w6.heap.size := Nat.lt_of_lt_of_le hpos hb6.size
          go_upto_region 10 with fail
          have hA := World.alloc_heap_new w6 (.cells #[.int .i64 pa, .int .i64 pb, .int .i64 pf, .int .i64 ps, .slice ov n6 cv] 26)
          have p0 : (w6.alloc (.cells #[.int .i64 pa, .int .i64 pb, .int .i64 pf, .int .i64 ps, .slice ov n6 cv] 26)).cell? ⟨w6.heap.size, 0, none⟩ = some (.int .i64 pa) := block_cell hA 0 _ rfl
          have p1 : (w6.alloc (.cells #[.int .i64 pa, .int .i64 pb, .int .i64 pf, .int .i64 ps, .slice ov n6 cv] 26)).cell? ⟨w6.heap.size, 1, none⟩ = some (.int .i64 pb) := block_cell hA 1 _ rfl
          have p2 : (w6.alloc (.cells #[.int .i64 pa, .int .i64 pb, .int .i64 pf, .int .i64 ps, .slice ov n6 cv] 26)).cell? ⟨w6.heap.size, 2, none⟩ = some (.int .i64 pf) := block_cell hA 2 _ rfl
          have p3 : (w6.alloc (.cells #[.int .i64 pa, .int .i64 pb, .int .i64 pf, .int .i64 ps, .slice ov n6 cv] 26)).cell? ⟨w6.heap.size, 3, none⟩ = some (.int .i64 ps) := block_cell hA 3 _ rfl
          have p4 : (w6.alloc (.cells #[.int .i64 pa, .int .i64 pb, .int .i64 pf, .int .i64 ps, .slice ov n6 cv] 26)).cell? ⟨w6.heap.size, 4, none⟩ = some (.slice ov n6 cv) := block_cell hA 4 _ rfl
          have h7 := h6.alloc (.cells #[.int .i64 pa, .int .i64 pb, .int .i64 pf, .int .i64 ps, .slice ov n6 cv] 26)
          have hv7 := World.ownsRow.alloc hv6 (.cells #[.int .i64 pa, .int .i64 pb, .int .i64 pf, .int .i64 ps, .slice ov n6 cv] 26)
          generalize w6.alloc (.cells #[.int .i64 pa, .int .i64 pb, .int .i64 pf, .int .i64 ps, .slice ov n6 cv] 26) = w7 at *
          obtain ⟨w8, hw8, hb8, hr8, hv8, hg8, hB8⟩ := h7.setP (a := pa) (b := pb) (f := pf) (s := ps) hv7 hpos
          obtain ⟨y0, y1, y2, y3, y4, y5, y6, y7, yf⟩ := bx8c h7.box
          have f0 := yf 0
          have f1 := yf 1
          have f2 := yf 2
          have f3 := yf 3
          have f4 := yf 4
          have HW8 := hide hw8
          have Hb8 := hide hb8
          have Hr8 := hide hr8
          have H8 := hide (And.intro hb8 (And.intro hr8 (And.intro hv8 (And.intro hg8 hB8))))
          have HC := hide (specCarrierOk_any pa pb pf ps ov og n6 cv cg (crG L i) x1 st w8 (by have := hBl.out; have := HN6.out; unfold maxLen; omega) (by rw [crG_len]; unfold maxLen; omega) (ownG.rdo (ownG_lay.2 hg8)))
          rw [crG_len] at HC
          have HKK : Hid ((crM L).ok = carrierOkB pa pb pf ps n6 (crG L i) x1 st) := by unfold Hid; rw [HM.out, ← HN6.out]; rfl
          clear hA h6 h7 hv6 hv7 hw8 hb8 hr8 hv8 hg8 hB8 yf hb6 hpa hpb hpf hps hBd hn6 HPK HR
          go_upto_region 11 with fail
          rw [← HW8.out]
          obtain ⟨z0, z1, z2, z3, z4, z5, z6, z7, _⟩ := bx8c Hb8.out
          obtain ⟨r0, r1, r2, r3, r4, r5, r6, r7, rf⟩ := bx8c Hr8.out
          have rf0 := rf 0
          have rf1 := rf 1
          have rf2 := rf 2
          have rf3 := rf 3
          have rf4 := rf 4
          have rf5 := rf 5
          have rf6 := rf 6
          have rf7 := rf 7
          clear rf y0 y1 y2 y3 y4 y5 y6 y7 f0 f1 f2 f3 f4 p0 p1 p2 p3 p4
          cases ok with
          | false =>
            have HB : Hid (Below w.heap.size w w8) := H8.out.2.2.2.2
            go_wp2
            refine bodyPost_ret (v := .tuple #[crr 0 0 0 0 (.slice none 0 0) (.slice none 0 0) 0 0, .bool false]) (by simp [results, Try.results15, go_sem, r0, r1, r2, r3, r4, r5, r6, r7]) rfl (crPost_no (by rw [HOK.out]; rfl) ?_)
            exact put_at (put_at (put_at (put_at (put_at (put_at (put_at (put_at HB.out 0 _) 1 _) 2 _) 3 _) 4 _) 5 _) 6 _) 7 _
          | true =>
            obtain ⟨q, hq⟩ : ∃ q, carrierOkB pa pb pf ps n6 (crG L i) x1 st = q := ⟨_, rfl⟩
            rw [hq] at HC
            have HQ := hide hq
            clear hq
            go_wp2_with fail
            refine HC.out.mono ?_
            rintro e w9 ⟨rfl, hb9⟩
            have b9 := (hb9.block _ (box_lt H8.out.1)).trans H8.out.1
            have r9 := (hb9.block _ (box_lt H8.out.2.1)).trans H8.out.2.1
            have H9 := hide (And.intro b9 (And.intro r9 (And.intro (own_kept H8.out.2.2.1 hb9) (And.intro (own_kept H8.out.2.2.2.1 hb9) (H8.out.2.2.2.2.trans (hb9.mono H8.out.2.2.2.2.size))))))
            clear hb9 b9 r9 HC z0 z1 z2 z3 z4 z5 z6 z7 r0 r1 r2 r3 r4 r5 r6 r7 rf0 rf1 rf2 rf3 rf4 rf5 rf6 rf7
            obtain ⟨z0, z1, z2, z3, z4, z5, z6, z7, _⟩ := bx8c H9.out.1
            obtain ⟨r0, r1, r2, r3, r4, r5, r6, r7, rf⟩ := bx8c H9.out.2.1
            have rf0 := rf 0
            have rf1 := rf 1
            have rf2 := rf 2
            have rf3 := rf 3
            have rf4 := rf 4
            have rf5 := rf 5
            have rf6 := rf 6
            have rf7 := rf 7
            clear rf
            cases q with
            | false =>
              go_wp2
              refine bodyPost_ret (v := .tuple #[crr 0 0 0 0 (.slice none 0 0) (.slice none 0 0) 0 0, .bool false]) (by simp [results, Try.results15, go_sem, r0, r1, r2, r3, r4, r5, r6, r7]) rfl (crPost_no (by rw [HOK.out, HKK.out, HQ.out]; rfl) ?_)
              exact put_at (put_at (put_at (put_at (put_at (put_at (put_at (put_at H9.out.2.2.2.2 0 _) 1 _) 2 _) 3 _) 4 _) 5 _) 6 _) 7 _
            | true =>
              go_wp2
              refine bodyPost_ret (v := .tuple #[crr pa pb pf ps (.slice ov n6 cv) (.slice og i cg) x1 st, .bool true]) (by simp [results, Try.results15, go_sem, r0, r1, r2, r3, r4, r5, r6, r7]) rfl (crPost_yes (by rw [HOK.out, HKK.out, HQ.out]; rfl) ?_ ?_)
              · rw [HM.out]
                refine ⟨.slice ov n6 cv, .slice og i cg, rfl, ?_, ownG_lay.2 ?_⟩
                · refine own_mono (base := w.heap.size + 1) ?_ (Nat.le_succ _)
                  repeat (refine ownsRow_setCell_below ?_ (Nat.lt_succ_self _) _)
                  exact H9.out.2.2.1
                · refine own_mono (base := w.heap.size + 1) ?_ (Nat.le_succ _)
                  repeat (refine ownsRow_setCell_below ?_ (Nat.lt_succ_self _) _)
                  exact H9.out.2.2.2.1
              · exact put_at (put_at (put_at (put_at (put_at (put_at (put_at (put_at H9.out.2.2.2.2 0 _) 1 _) 2 _) 3 _) 4 _) 5 _) 6 _) 7 _
        · have hcz2 : ¬ (cap - (5 + i) = 0) := by omega
          have HR := hide (show Rd wr (some ⟨b, off + (5 + i), none⟩) (crP L) by refine .inr ⟨b, off + (5 + i), rfl, Nat.lt_of_lt_of_le hbl HU.out.bel.size, fun j hj => ?_⟩; rw [HCP.out] at hj ⊢; have h1 := bCc HU.out.bel (HC.out (5 + i + j) (by simp at hj; omega)) hbl; rw [Nat.add_assoc off, h1]; simp [List.getD_eq_getElem?_getD])
          have HPK := hide (specPacketRead_any (some ⟨b, off + (5 + i), none⟩) (cap - (5 + i)) (crP L) wr HR.out (by rw [HCP.out]; exact HPB.out) (by rw [HCP.out]; omega) (by rw [HCP.out]; omega) (by omega))
          rw [show (crP L).length = (n - (5 + i)) by rw [HCP.out]; omega] at HPK
          clear hpl
          go_wp2_with fail
          refine HPK.out.mono ?_
          rintro e w6 ⟨v6, rfl, hv6, hb6⟩
          have h6 := HU.out.on hb6
          have hpos : w.heap.size + 1 < wr.heap.size := box_lt HU.out.box
          have HM := hide (show crM L = ⟨rdN (crP L) (pairLS (crP L) 0), rdN (crP L) (pairLS (crP L) 2), rdN (crP L) ((crP L).getD 6 0), rdN (crP L) (pairLS (crP L) 4), rdL (crP L), crG L i, x1, st⟩ by unfold crM; rw [HNN.out, HXX.out, HSTT.out])
          have HOK := hide (show crOk L = (okR (crP L) && (crM L).ok) by unfold crOk; rw [show decide (5 ≤ L.length) = true by (have := HN.out; simp; omega), show decide (5 + crN L ≤ L.length) = true by (have := HN.out; rw [HNN.out]; simp; omega)]; simp)
          obtain ⟨pa, hpa⟩ : ∃ x, rdN (crP L) (pairLS (crP L) 0) = x := ⟨_, rfl⟩
          obtain ⟨pb, hpb⟩ : ∃ x, rdN (crP L) (pairLS (crP L) 2) = x := ⟨_, rfl⟩
          obtain ⟨pf, hpf⟩ : ∃ x, rdN (crP L) ((crP L).getD 6 0) = x := ⟨_, rfl⟩
          obtain ⟨ps, hps⟩ : ∃ x, rdN (crP L) (pairLS (crP L) 4) = x := ⟨_, rfl⟩
          obtain ⟨B, hBd⟩ : ∃ x, rdL (crP L) = x := ⟨_, rfl⟩
          obtain ⟨ok, hok⟩ : ∃ x, okR (crP L) = x := ⟨_, rfl⟩
          have hBl : Hid (B.length ≤ 1048576) := by
            have h1 : (rdL (crP L)).length ≤ (crP L).length := by unfold rdL; split <;> simp
            have h2 : (crP L).length ≤ L.length := by unfold crP; simp
            have := HN.out
            unfold Hid; rw [← hBd]; omega
          rw [hpa, hpb, hpf, hps, hBd] at HM
          rw [hBd] at hv6
          rw [hok] at HOK
          rw [hpa, hpb, hpf, hps, hok]
          obtain ⟨ov, cv, ev, _⟩ := hv6.open
          subst ev
          obtain ⟨n6, hn6⟩ : ∃ n, B.length = n := ⟨_, rfl⟩
          have HN6 := hide hn6
          rw [hn6] at hv6 ⊢
          have hps6 : w.heap.size + 1 < w6.heap.size := Nat.lt_of_lt_of_le hpos hb6.size
          go_upto_region 10 with fail
          have hA := World.alloc_heap_new w6 (.cells #[.int .i64 pa, .int .i64 pb, .int .i64 pf, .int .i64 ps, .slice ov n6 cv] 26)
          have p0 : (w6.alloc (.cells #[.int .i64 pa, .int .i64 pb, .int .i64 pf, .int .i64 ps, .slice ov n6 cv] 26)).cell? ⟨w6.heap.size, 0, none⟩ = some (.int .i64 pa) := block_cell hA 0 _ rfl
          have p1 : (w6.alloc (.cells #[.int .i64 pa, .int .i64 pb, .int .i64 pf, .int .i64 ps, .slice ov n6 cv] 26)).cell? ⟨w6.heap.size, 1, none⟩ = some (.int .i64 pb) := block_cell hA 1 _ rfl
          have p2 : (w6.alloc (.cells #[.int .i64 pa, .int .i64 pb, .int .i64 pf, .int .i64 ps, .slice ov n6 cv] 26)).cell? ⟨w6.heap.size, 2, none⟩ = some (.int .i64 pf) := block_cell hA 2 _ rfl
          have p3 : (w6.alloc (.cells #[.int .i64 pa, .int .i64 pb, .int .i64 pf, .int .i64 ps, .slice ov n6 cv] 26)).cell? ⟨w6.heap.size, 3, none⟩ = some (.int .i64 ps) := block_cell hA 3 _ rfl
          have p4 : (w6.alloc (.cells #[.int .i64 pa, .int .i64 pb, .int .i64 pf, .int .i64 ps, .slice ov n6 cv] 26)).cell? ⟨w6.heap.size, 4, none⟩ = some (.slice ov n6 cv) := block_cell hA 4 _ rfl
          have h7 := h6.alloc (.cells #[.int .i64 pa, .int .i64 pb, .int .i64 pf, .int .i64 ps, .slice ov n6 cv] 26)
          have hv7 := World.ownsRow.alloc hv6 (.cells #[.int .i64 pa, .int .i64 pb, .int .i64 pf, .int .i64 ps, .slice ov n6 cv] 26)
          generalize w6.alloc (.cells #[.int .i64 pa, .int .i64 pb, .int .i64 pf, .int .i64 ps, .slice ov n6 cv] 26) = w7 at *
          obtain ⟨w8, hw8, hb8, hr8, hv8, hg8, hB8⟩ := h7.setP (a := pa) (b := pb) (f := pf) (s := ps) hv7 hpos
          obtain ⟨y0, y1, y2, y3, y4, y5, y6, y7, yf⟩ := bx8c h7.box
          have f0 := yf 0
          have f1 := yf 1
          have f2 := yf 2
          have f3 := yf 3
          have f4 := yf 4
          have HW8 := hide hw8
          have Hb8 := hide hb8
          have Hr8 := hide hr8
          have H8 := hide (And.intro hb8 (And.intro hr8 (And.intro hv8 (And.intro hg8 hB8))))
          have HC := hide (specCarrierOk_any pa pb pf ps ov og n6 cv cg (crG L i) x1 st w8 (by have := hBl.out; have := HN6.out; unfold maxLen; omega) (by rw [crG_len]; unfold maxLen; omega) (ownG.rdo (ownG_lay.2 hg8)))
          rw [crG_len] at HC
          have HKK : Hid ((crM L).ok = carrierOkB pa pb pf ps n6 (crG L i) x1 st) := by unfold Hid; rw [HM.out, ← HN6.out]; rfl
          clear hA h6 h7 hv6 hv7 hw8 hb8 hr8 hv8 hg8 hB8 yf hb6 hpa hpb hpf hps hBd hn6 HPK HR
          go_upto_region 11 with fail
          rw [← HW8.out]
          obtain ⟨z0, z1, z2, z3, z4, z5, z6, z7, _⟩ := bx8c Hb8.out
          obtain ⟨r0, r1, r2, r3, r4, r5, r6, r7, rf⟩ := bx8c Hr8.out
          have rf0 := rf 0
          have rf1 := rf 1
          have rf2 := rf 2
          have rf3 := rf 3
          have rf4 := rf 4
          have rf5 := rf 5
          have rf6 := rf 6
          have rf7 := rf 7
          clear rf y0 y1 y2 y3 y4 y5 y6 y7 f0 f1 f2 f3 f4 p0 p1 p2 p3 p4
          cases ok with
          | false =>
            have HB : Hid (Below w.heap.size w w8) := H8.out.2.2.2.2
            go_wp2
            refine bodyPost_ret (v := .tuple #[crr 0 0 0 0 (.slice none 0 0) (.slice none 0 0) 0 0, .bool false]) (by simp [results, Try.results15, go_sem, r0, r1, r2, r3, r4, r5, r6, r7]) rfl (crPost_no (by rw [HOK.out]; rfl) ?_)
            exact put_at (put_at (put_at (put_at (put_at (put_at (put_at (put_at HB.out 0 _) 1 _) 2 _) 3 _) 4 _) 5 _) 6 _) 7 _
          | true =>
            obtain ⟨q, hq⟩ : ∃ q, carrierOkB pa pb pf ps n6 (crG L i) x1 st = q := ⟨_, rfl⟩
            rw [hq] at HC
            have HQ := hide hq
            clear hq
            go_wp2_with fail
            refine HC.out.mono ?_
            rintro e w9 ⟨rfl, hb9⟩
            have b9 := (hb9.block _ (box_lt H8.out.1)).trans H8.out.1
            have r9 := (hb9.block _ (box_lt H8.out.2.1)).trans H8.out.2.1
            have H9 := hide (And.intro b9 (And.intro r9 (And.intro (own_kept H8.out.2.2.1 hb9) (And.intro (own_kept H8.out.2.2.2.1 hb9) (H8.out.2.2.2.2.trans (hb9.mono H8.out.2.2.2.2.size))))))
            clear hb9 b9 r9 HC z0 z1 z2 z3 z4 z5 z6 z7 r0 r1 r2 r3 r4 r5 r6 r7 rf0 rf1 rf2 rf3 rf4 rf5 rf6 rf7
            obtain ⟨z0, z1, z2, z3, z4, z5, z6, z7, _⟩ := bx8c H9.out.1
            obtain ⟨r0, r1, r2, r3, r4, r5, r6, r7, rf⟩ := bx8c H9.out.2.1
            have rf0 := rf 0
            have rf1 := rf 1
            have rf2 := rf 2
            have rf3 := rf 3
            have rf4 := rf 4
            have rf5 := rf 5
            have rf6 := rf 6
            have rf7 := rf 7
            clear rf
            cases q with
            | false =>
              go_wp2
              refine bodyPost_ret (v := .tuple #[crr 0 0 0 0 (.slice none 0 0) (.slice none 0 0) 0 0, .bool false]) (by simp [results, Try.results15, go_sem, r0, r1, r2, r3, r4, r5, r6, r7]) rfl (crPost_no (by rw [HOK.out, HKK.out, HQ.out]; rfl) ?_)
              exact put_at (put_at (put_at (put_at (put_at (put_at (put_at (put_at H9.out.2.2.2.2 0 _) 1 _) 2 _) 3 _) 4 _) 5 _) 6 _) 7 _
            | true =>
              go_wp2
              refine bodyPost_ret (v := .tuple #[crr pa pb pf ps (.slice ov n6 cv) (.slice og i cg) x1 st, .bool true]) (by simp [results, Try.results15, go_sem, r0, r1, r2, r3, r4, r5, r6, r7]) rfl (crPost_yes (by rw [HOK.out, HKK.out, HQ.out]; rfl) ?_ ?_)
              · rw [HM.out]
                refine ⟨.slice ov n6 cv, .slice og i cg, rfl, ?_, ownG_lay.2 ?_⟩
                · refine own_mono (base := w.heap.size + 1) ?_ (Nat.le_succ _)
                  repeat (refine ownsRow_setCell_below ?_ (Nat.lt_succ_self _) _)
                  exact H9.out.2.2.1
                · refine own_mono (base := w.heap.size + 1) ?_ (Nat.le_succ _)
                  repeat (refine ownsRow_setCell_below ?_ (Nat.lt_succ_self _) _)
                  exact H9.out.2.2.2.1
              · exact put_at (put_at (put_at (put_at (put_at (put_at (put_at (put_at H9.out.2.2.2.2 0 _) 1 _) 2 _) 3 _) 4 _) 5 _) 6 _) 7 _

end Go.Proofs.Ytoeoiljddcjphaa

/- CarrierRead on both sides, any bytes. -/
namespace Go.Proofs.Ytoeoiljddcjphaa
open Go.ChangeShapes Go.WideShapes Go.ChangeAt Go.RowKit Go.Joins
set_option linter.unusedVariables false
set_option linter.unusedSimpArgs false

theorem crR_fit (L : List Int) (h : isB L) : fitCm (crR L) := by
  unfold crR
  split
  · next hok =>
    have h2 : (crM L).ok = true := by
      unfold crOk at hok
      simp only [Bool.and_eq_true] at hok
      exact hok.2
    have h3 : headB (crM L).a (crM L).b (crM L).f (crM L).s (crM L).l.length (crM L).g.length (crM L).pl (crM L).st = true := by
      unfold Cm.ok carrierOkB at h2
      simp only [Bool.and_eq_true] at h2
      exact h2.1
    obtain ⟨hp, _, hg, _⟩ := headB_iff.1 h3
    have hl := (packetOk_bd hp).1
    refine ⟨by omega, fun x hx => ?_⟩
    have hx' : x ∈ rdL (crP L) := hx
    unfold rdL at hx'
    split at hx'
    · exact h x (List.mem_of_mem_drop (List.mem_of_mem_drop hx'))
    · cases hx'
  · exact ⟨by decide, fun x hx => by cases hx⟩
set_option maxHeartbeats 1000000 in
theorem specCRead_no (o : Option Addr) (cap n : Nat) (L : List Int) (hn : n = L.length) (w : World) (hR : Rd w o L) (hB8 : isB L) (hlen : n ≤ 1048576) (hno : ¬ (5 ≤ n ∧ 5 + crN L ≤ n)) :
    Calls Try.prog 15 #[.slice o n cap] w fun e w' => e = .returned (.tuple #[crr 0 0 0 0 (.slice none 0 0) (.slice none 0 0) 0 0, .bool false]) ∧ Below w.heap.size w w' := by
  have hx0 := World.alloc_heap_new w (.cells (crC 0 0 0 0 (.slice none 0 0) (.slice none 0 0) 0 0) 29)
  have hb0 : Below w.heap.size w (w.alloc (.cells (crC 0 0 0 0 (.slice none 0 0) (.slice none 0 0) 0 0) 29)) := (Below.refl _ _).alloc (Nat.le_refl _) _
  obtain ⟨r0, r1, r2, r3, r4, r5, r6, r7, rf⟩ := bx8c hx0
  by_cases h5 : 5 ≤ n
  · rcases hR with h | ⟨b, off, rfl, hbl, hcell⟩
    · subst h; simp at hn; omega
    have hlt : ¬ (5 + crN L ≤ n) := fun h => hno ⟨h5, h⟩
    have c0 := hcell 0 (by omega)
    rw [Nat.add_zero] at c0
    have q0 := hB8.get 0
    obtain ⟨N, hN⟩ : ∃ N, crN L = N := ⟨_, rfl⟩
    have hx : L.getD 0 0 = (N : Int) := by rw [← hN]; unfold crN; omega
    rw [hN] at hlt
    rw [hx] at c0 q0
    have d0 := bCc hb0 c0 hbl
    have HB := hide hb0
    have g0 : ¬ ((n : Int) < 5) := by omega
    have g1 : (n : Int) < 5 + (N : Int) := by omega
    have i00 : 0 < n := by omega
    have i0 : (0 : Int) < (n : Int) := by omega
    have u0 : IntKind.i64.wrap (N : Int) = (N : Int) := by rw [IntKind.wrap_i64]; omega
    have u9 : IntKind.i64.wrap (5 + (N : Int)) = 5 + (N : Int) := by rw [IntKind.wrap_i64]; omega
    clear hcell hx hN c0 hn hb0 hno
    go_enter Try.func15, Try.ntmps15
    go_wp2
    refine bodyPost_ret (v := .tuple #[crr 0 0 0 0 (.slice none 0 0) (.slice none 0 0) 0 0, .bool false]) (by simp [results, Try.results15, go_sem, r0, r1, r2, r3, r4, r5, r6, r7]) rfl ⟨rfl, ?_⟩

    exact HB.out
  · have g0 : (n : Int) < 5 := by omega
    have HB := hide hb0
    clear hb0 hn hR hno
    go_enter Try.func15, Try.ntmps15
    go_wp2
    refine bodyPost_ret (v := .tuple #[crr 0 0 0 0 (.slice none 0 0) (.slice none 0 0) 0 0, .bool false]) (by simp [results, Try.results15, go_sem, r0, r1, r2, r3, r4, r5, r6, r7]) rfl ⟨rfl, ?_⟩

    exact HB.out
theorem specCRead_any (o : Option Addr) (cap : Nat) (L : List Int) (w : World) (hR : Rd w o L) (hB8 : isB L) (hlen : L.length ≤ 1048576) (hcap : L.length ≤ cap) (hcm : cap ≤ maxLen) :
    Calls Try.prog 15 #[.slice o L.length cap] w fun e w' => crPost L w e w' := by
  by_cases h : 5 ≤ L.length ∧ 5 + crN L ≤ L.length
  · rcases hR with hR | ⟨b, off, rfl, hbl, hcell⟩
    · subst hR; simp at h
    · exact specCRead_go b off cap L.length L rfl w hbl hcell hB8 (crN L) rfl h.1 h.2 hlen hcap hcm
  · refine (specCRead_no o cap L.length L rfl w hR hB8 hlen h).mono ?_
    rintro e w' ⟨rfl, hb⟩
    refine crPost_no ?_ hb
    by_cases h5 : 5 ≤ L.length
    · exact crOk_few (fun h' => h ⟨h5, h'⟩)
    · exact crOk_short h5
theorem crPost_in {L : List Int} {w w' : World} {e : Ending} (h : crPost L w e w') : ∃ v', e = .returned (.tuple #[v', .bool (crOk L)]) ∧ InCm w.heap.size w'.heap.size w' v' (crR L) ∧ Below w.heap.size w w' := by
  obtain ⟨v, rfl, ho, hb⟩ := h
  exact ⟨v, rfl, InCm.of ho, hb⟩
/-- A row that is full: as the law's copies are. -/
def fullB (v : Value) (n : Nat) : Prop := ∃ o, v = .slice o n n
theorem specCRead_sh (v : Value) (L : List Int) (w : World) (hR : RdV layB w.heap.size w v L) (hv : fullB v L.length) (hB8 : isB L) (hlen : L.length ≤ 1048576) :
    Calls Try.prog 15 #[v] w fun e w' => ∃ v', e = .returned (.tuple #[v', .bool (crOk L)]) ∧ InCm w.heap.size w'.heap.size w' v' (crR L) ∧ Below w.heap.size w w' := by
  obtain ⟨o, c, rfl, r⟩ := hR
  obtain ⟨o', e⟩ := hv
  injection e with _ _ e
  subst e
  exact (specCRead_any o L.length L w (RdB_rd.1 r) hB8 hlen (Nat.le_refl _) (by unfold maxLen; omega)).mono fun e w' h => crPost_in h
theorem implCRead_sh (v : Value) (L : List Int) (w : World) (hR : RdV layB w.heap.size w v L) (hv : fullB v L.length) (hB8 : isB L) (hlen : L.length ≤ 1048576) :
    Calls Try.prog 17 #[v] w fun e w' => ∃ v', e = .returned (.tuple #[v', .bool (crOk L)]) ∧ InCm w.heap.size w'.heap.size w' v' (crR L) ∧ Below w.heap.size w w' := by
  obtain ⟨o, c, rfl, r⟩ := hR
  obtain ⟨o', e⟩ := hv
  injection e with _ _ e
  subst e
  exact (implCRead_any o L.length L w (RdB_rd.1 r) hB8 hlen (Nat.le_refl _) (by unfold maxLen; omega)).mono fun e w' h => crPost_in h
theorem toByteS_full (v : Value) (l : List Int) (w : World) (hR : RdV layB w.heap.size w v l) (hB8 : isB l) (hlen : l.length ≤ 1048576) :
    Calls Try.prog 16 #[v] w fun e w' => ∃ v', e = .returned v' ∧ fullB v' l.length ∧ InB w.heap.size w'.heap.size w' v' l ∧ Below w.heap.size w w' := by
  obtain ⟨o, c, rfl, r⟩ := hR
  refine (toByteS_any o c l w (RdB_rd.1 r) hB8 hlen).mono ?_
  rintro e w' ⟨g, rfl, ho, hb⟩
  exact ⟨_, rfl, ⟨_, rfl⟩, InB.of ho, hb⟩

end Go.Proofs.Ytoeoiljddcjphaa

