/- For every number the law FnExactPoolNew answers true: impl.PoolNew answers as the model's, and its answer owns its memory. No conditions. -/
import Derived.Test.YtldjaapbkihibaaGrSPNew
namespace Go.Proofs.Ytldjaapbkihibaa
open Go.ChangeShapes Go.WideShapes Go.ChangeAt Go.RowKit Go.Joins
set_option linter.unusedVariables false
set_option linter.unusedSimpArgs false

theorem block_cellP {W : World} {B : Nat} {c : Array Value} {t : TypeId} (h : W.heap[B]? = some (.cells c t (0, 0))) (j : Nat) (u : Value) (hj : c[j]? = some u) : W.cell? ⟨B, j, none⟩ = some u := bx_cell h j u hj
set_option maxRecDepth 100000 in
set_option maxHeartbeats 8000000 in
theorem lawFnExactPoolNew (key : Int) (w : World) :
    Calls Try.prog 8 #[.int .i64 key] w fun e w' => e = .returned (.bool true) ∧ Below w.heap.size w w' := by
  have HS := hide (fun W => specPoolNew_any key W)
  have HI := hide (fun W => implPoolNew_any key W)
  have hmr := pnew_fit key
  generalize pnewM key = mr at *
  generalize keyB key = t at *
  have B_w : Below w.heap.size w w := Below.refl _ _
  have HB0_ := hide B_w
  clear B_w
  go_enter Try.func8, Try.ntmps8
  go_wp2_with fail
  have B_w := HB0_.out
  clear HB0_
  refine (HS.out w).mono ?_
  rintro e w1 ⟨vw, rfl, inw, hb_w1⟩
  have B_w1 : Below w.heap.size w w1 := B_w.trans (hb_w1.mono B_w.size)
  have hs_w1 : w.heap.size ≤ w1.heap.size := hb_w1.size
  clear hb_w1 B_w
  obtain ⟨ow, cw, oRw, cRw, evw⟩ := inw.rd.opn
  subst evw
  have bxw : (w1.alloc (.cells #[.int .i64 mr.key, .slice ow mr.l.length cw, .slice oRw mr.ring.length cRw] 26)).heap[w1.heap.size]? = some (.cells #[.int .i64 mr.key, .slice ow mr.l.length cw, .slice oRw mr.ring.length cRw] 26 (0, 0)) := World.alloc_heap_new w1 (.cells #[.int .i64 mr.key, .slice ow mr.l.length cw, .slice oRw mr.ring.length cRw] 26)
  have hb_w2 : Below w1.heap.size w1 (w1.alloc (.cells #[.int .i64 mr.key, .slice ow mr.l.length cw, .slice oRw mr.ring.length cRw] 26)) := (Below.refl _ _).alloc (Nat.le_refl _) _
  have hz_w2 : w1.heap.size < (w1.alloc (.cells #[.int .i64 mr.key, .slice ow mr.l.length cw, .slice oRw mr.ring.length cRw] 26)).heap.size := by simp
  have bxwc0 : (w1.alloc (.cells #[.int .i64 mr.key, .slice ow mr.l.length cw, .slice oRw mr.ring.length cRw] 26)).cell? ⟨w1.heap.size, 0, none⟩ = some (.int .i64 mr.key) := block_cellP bxw 0 _ rfl
  have bxwc1 : (w1.alloc (.cells #[.int .i64 mr.key, .slice ow mr.l.length cw, .slice oRw mr.ring.length cRw] 26)).cell? ⟨w1.heap.size, 1, none⟩ = some (.slice ow mr.l.length cw) := block_cellP bxw 1 _ rfl
  have bxwc2 : (w1.alloc (.cells #[.int .i64 mr.key, .slice ow mr.l.length cw, .slice oRw mr.ring.length cRw] 26)).cell? ⟨w1.heap.size, 2, none⟩ = some (.slice oRw mr.ring.length cRw) := block_cellP bxw 2 _ rfl
  have Hbxw := hide bxw
  have Hb_ := hide hb_w2
  clear bxw hb_w2
  have Hinw := hide inw
  clear inw
  have HB_ := hide B_w1
  clear B_w1
  go_wp2_with fail
  clear bxwc0 bxwc1 bxwc2
  have inw := Hinw.out
  clear Hinw
  have B_w1 := HB_.out
  clear HB_
  have bxw := Hbxw.out
  have hb_w2 := Hb_.out
  clear Hbxw Hb_
  generalize w1.alloc (.cells #[.int .i64 mr.key, .slice ow mr.l.length cw, .slice oRw mr.ring.length cRw] 26) = w2 at *
  replace inw := inw.step (Stp.of (lo := 0) (hi := 0) hb_w2) (.inl (Nat.zero_le _))
  have B_w2 : Below w.heap.size w w2 := B_w1.trans (hb_w2.mono B_w1.size)
  have hs_w2 : w1.heap.size ≤ w2.heap.size := hb_w2.size
  clear hb_w2 B_w1
  refine (HI.out w2).mono ?_
  rintro e w3 ⟨vg, rfl, ing, hb_w3⟩
  replace inw := inw.step (Stp.of (lo := 0) (hi := 0) hb_w3) (.inl (Nat.zero_le _))
  replace bxw := (hb_w3.block _ (by omega)).trans bxw
  have B_w3 : Below w.heap.size w w3 := B_w2.trans (hb_w3.mono B_w2.size)
  have hs_w3 : w2.heap.size ≤ w3.heap.size := hb_w3.size
  clear hb_w3 B_w2
  obtain ⟨og, cg, oRg, cRg, evg⟩ := ing.rd.opn
  subst evg
  have bxg : (w3.alloc (.cells #[.int .i64 mr.key, .slice og mr.l.length cg, .slice oRg mr.ring.length cRg] 26)).heap[w3.heap.size]? = some (.cells #[.int .i64 mr.key, .slice og mr.l.length cg, .slice oRg mr.ring.length cRg] 26 (0, 0)) := World.alloc_heap_new w3 (.cells #[.int .i64 mr.key, .slice og mr.l.length cg, .slice oRg mr.ring.length cRg] 26)
  have hb_w4 : Below w3.heap.size w3 (w3.alloc (.cells #[.int .i64 mr.key, .slice og mr.l.length cg, .slice oRg mr.ring.length cRg] 26)) := (Below.refl _ _).alloc (Nat.le_refl _) _
  have hz_w4 : w3.heap.size < (w3.alloc (.cells #[.int .i64 mr.key, .slice og mr.l.length cg, .slice oRg mr.ring.length cRg] 26)).heap.size := by simp
  have bxwW := (hb_w4.block _ (by omega)).trans bxw
  have bxwc0 : (w3.alloc (.cells #[.int .i64 mr.key, .slice og mr.l.length cg, .slice oRg mr.ring.length cRg] 26)).cell? ⟨w1.heap.size, 0, none⟩ = some (.int .i64 mr.key) := block_cellP bxwW 0 _ rfl
  have bxwc1 : (w3.alloc (.cells #[.int .i64 mr.key, .slice og mr.l.length cg, .slice oRg mr.ring.length cRg] 26)).cell? ⟨w1.heap.size, 1, none⟩ = some (.slice ow mr.l.length cw) := block_cellP bxwW 1 _ rfl
  have bxwc2 : (w3.alloc (.cells #[.int .i64 mr.key, .slice og mr.l.length cg, .slice oRg mr.ring.length cRg] 26)).cell? ⟨w1.heap.size, 2, none⟩ = some (.slice oRw mr.ring.length cRw) := block_cellP bxwW 2 _ rfl
  clear bxwW
  have bxgc0 : (w3.alloc (.cells #[.int .i64 mr.key, .slice og mr.l.length cg, .slice oRg mr.ring.length cRg] 26)).cell? ⟨w3.heap.size, 0, none⟩ = some (.int .i64 mr.key) := block_cellP bxg 0 _ rfl
  have bxgc1 : (w3.alloc (.cells #[.int .i64 mr.key, .slice og mr.l.length cg, .slice oRg mr.ring.length cRg] 26)).cell? ⟨w3.heap.size, 1, none⟩ = some (.slice og mr.l.length cg) := block_cellP bxg 1 _ rfl
  have bxgc2 : (w3.alloc (.cells #[.int .i64 mr.key, .slice og mr.l.length cg, .slice oRg mr.ring.length cRg] 26)).cell? ⟨w3.heap.size, 2, none⟩ = some (.slice oRg mr.ring.length cRg) := block_cellP bxg 2 _ rfl
  have Hbxg := hide bxg
  have Hb_ := hide hb_w4
  clear bxg hb_w4
  have Hinw := hide inw
  clear inw
  have Hbxw := hide bxw
  clear bxw
  have Hing := hide ing
  clear ing
  have HB_ := hide B_w3
  clear B_w3
  go_wp2_with fail
  clear bxwc0 bxwc1 bxwc2
  clear bxgc0 bxgc1 bxgc2
  have inw := Hinw.out
  clear Hinw
  have bxw := Hbxw.out
  clear Hbxw
  have ing := Hing.out
  clear Hing
  have B_w3 := HB_.out
  clear HB_
  have bxg := Hbxg.out
  have hb_w4 := Hb_.out
  clear Hbxg Hb_
  generalize w3.alloc (.cells #[.int .i64 mr.key, .slice og mr.l.length cg, .slice oRg mr.ring.length cRg] 26) = w4 at *
  replace inw := inw.step (Stp.of (lo := 0) (hi := 0) hb_w4) (.inl (Nat.zero_le _))
  replace bxw := (hb_w4.block _ (by omega)).trans bxw
  replace ing := ing.step (Stp.of (lo := 0) (hi := 0) hb_w4) (.inl (Nat.zero_le _))
  have B_w4 : Below w.heap.size w w4 := B_w3.trans (hb_w4.mono B_w3.size)
  have hs_w4 : w3.heap.size ≤ w4.heap.size := hb_w4.size
  clear hb_w4 B_w3
  refine (eqPool_sh _ _ mr w4 (ing.rd.le (by omega)) (inw.rd.le (by omega)) hmr).mono ?_
  rintro e w5 ⟨rfl, hb_w5⟩
  replace inw := inw.step (Stp.of (lo := 0) (hi := 0) hb_w5) (.inl (Nat.zero_le _))
  replace bxw := (hb_w5.block _ (by omega)).trans bxw
  replace ing := ing.step (Stp.of (lo := 0) (hi := 0) hb_w5) (.inl (Nat.zero_le _))
  replace bxg := (hb_w5.block _ (by omega)).trans bxg
  have B_w5 : Below w.heap.size w w5 := B_w4.trans (hb_w5.mono B_w4.size)
  have hs_w5 : w4.heap.size ≤ w5.heap.size := hb_w5.size
  clear hb_w5 B_w4
  have bxgc0 : w5.cell? ⟨w3.heap.size, 0, none⟩ = some (.int .i64 mr.key) := block_cellP bxg 0 _ rfl
  have bxgc1 : w5.cell? ⟨w3.heap.size, 1, none⟩ = some (.slice og mr.l.length cg) := block_cellP bxg 1 _ rfl
  have bxgc2 : w5.cell? ⟨w3.heap.size, 2, none⟩ = some (.slice oRg mr.ring.length cRg) := block_cellP bxg 2 _ rfl
  have Hinw := hide inw
  clear inw
  have Hbxw := hide bxw
  clear bxw
  have Hing := hide ing
  clear ing
  have Hbxg := hide bxg
  clear bxg
  have HB_ := hide B_w5
  clear B_w5
  go_wp2_with fail
  clear bxgc0 bxgc1 bxgc2
  have inw := Hinw.out
  clear Hinw
  have bxw := Hbxw.out
  clear Hbxw
  have ing := Hing.out
  clear Hing
  have bxg := Hbxg.out
  clear Hbxg
  have B_w5 := HB_.out
  clear HB_
  refine (markPool_sh (w2.heap.size) (w3.heap.size) _ mr 1 w5 ing (by omega) (by omega) hmr).mono ?_
  rintro e w6 ⟨rfl, ing', sp_w6⟩
  replace inw := inw.step sp_w6 (by omega)
  replace bxw := sp_w6.box bxw (by omega)
  replace bxg := sp_w6.box bxg (by omega)
  have B_w6 : Below w.heap.size w w6 := B_w5.trans (sp_w6.below (by omega) (by omega))
  have hs_w6 : w5.heap.size ≤ w6.heap.size := sp_w6.size
  clear sp_w6 B_w5
  clear ing
  have ing := ing'
  clear ing'
  have hk2 : (0 : Int) ≤ 1 + nPm mr ∧ 1 + nPm mr ≤ 10000000 := by have := nPm_bd hmr; omega
  have bxgc0 : w6.cell? ⟨w3.heap.size, 0, none⟩ = some (.int .i64 mr.key) := block_cellP bxg 0 _ rfl
  have bxgc1 : w6.cell? ⟨w3.heap.size, 1, none⟩ = some (.slice og mr.l.length cg) := block_cellP bxg 1 _ rfl
  have bxgc2 : w6.cell? ⟨w3.heap.size, 2, none⟩ = some (.slice oRg mr.ring.length cRg) := block_cellP bxg 2 _ rfl
  have Hinw := hide inw
  clear inw
  have Hbxw := hide bxw
  clear bxw
  have Hing := hide ing
  clear ing
  have Hbxg := hide bxg
  clear bxg
  have HB_ := hide B_w6
  clear B_w6
  go_wp2_with fail
  clear bxgc0 bxgc1 bxgc2
  have inw := Hinw.out
  clear Hinw
  have bxw := Hbxw.out
  clear Hbxw
  have ing := Hing.out
  clear Hing
  have bxg := Hbxg.out
  clear Hbxg
  have B_w6 := HB_.out
  clear HB_
  refine (heldPool_sh _ mr 1 w6 (ing.rd.le (by omega)) (by omega) (by omega) hmr).mono ?_
  rintro e w7 ⟨rfl, hb_w7⟩
  replace inw := inw.step (Stp.of (lo := 0) (hi := 0) hb_w7) (.inl (Nat.zero_le _))
  replace bxw := (hb_w7.block _ (by omega)).trans bxw
  replace ing := ing.step (Stp.of (lo := 0) (hi := 0) hb_w7) (.inl (Nat.zero_le _))
  replace bxg := (hb_w7.block _ (by omega)).trans bxg
  have B_w7 : Below w.heap.size w w7 := B_w6.trans (hb_w7.mono B_w6.size)
  have hs_w7 : w6.heap.size ≤ w7.heap.size := hb_w7.size
  clear hb_w7 B_w6
  have Hinw := hide inw
  clear inw
  have Hbxw := hide bxw
  clear bxw
  have Hing := hide ing
  clear ing
  have Hbxg := hide bxg
  clear bxg
  have HB_ := hide B_w7
  clear B_w7
  go_wp2_with fail
  have inw := Hinw.out
  clear Hinw
  have bxw := Hbxw.out
  clear Hbxw
  have ing := Hing.out
  clear Hing
  have bxg := Hbxg.out
  clear Hbxg
  have B_w7 := HB_.out
  clear HB_
  refine (HI.out w7).mono ?_
  rintro e w8 ⟨vh, rfl, inh, hb_w8⟩
  replace inw := inw.step (Stp.of (lo := 0) (hi := 0) hb_w8) (.inl (Nat.zero_le _))
  replace bxw := (hb_w8.block _ (by omega)).trans bxw
  replace ing := ing.step (Stp.of (lo := 0) (hi := 0) hb_w8) (.inl (Nat.zero_le _))
  replace bxg := (hb_w8.block _ (by omega)).trans bxg
  have B_w8 : Below w.heap.size w w8 := B_w7.trans (hb_w8.mono B_w7.size)
  have hs_w8 : w7.heap.size ≤ w8.heap.size := hb_w8.size
  clear hb_w8 B_w7
  obtain ⟨oh, ch, oRh, cRh, evh⟩ := inh.rd.opn
  subst evh
  have bxh : (w8.alloc (.cells #[.int .i64 mr.key, .slice oh mr.l.length ch, .slice oRh mr.ring.length cRh] 26)).heap[w8.heap.size]? = some (.cells #[.int .i64 mr.key, .slice oh mr.l.length ch, .slice oRh mr.ring.length cRh] 26 (0, 0)) := World.alloc_heap_new w8 (.cells #[.int .i64 mr.key, .slice oh mr.l.length ch, .slice oRh mr.ring.length cRh] 26)
  have hb_w9 : Below w8.heap.size w8 (w8.alloc (.cells #[.int .i64 mr.key, .slice oh mr.l.length ch, .slice oRh mr.ring.length cRh] 26)) := (Below.refl _ _).alloc (Nat.le_refl _) _
  have hz_w9 : w8.heap.size < (w8.alloc (.cells #[.int .i64 mr.key, .slice oh mr.l.length ch, .slice oRh mr.ring.length cRh] 26)).heap.size := by simp
  have bxwW := (hb_w9.block _ (by omega)).trans bxw
  have bxwc0 : (w8.alloc (.cells #[.int .i64 mr.key, .slice oh mr.l.length ch, .slice oRh mr.ring.length cRh] 26)).cell? ⟨w1.heap.size, 0, none⟩ = some (.int .i64 mr.key) := block_cellP bxwW 0 _ rfl
  have bxwc1 : (w8.alloc (.cells #[.int .i64 mr.key, .slice oh mr.l.length ch, .slice oRh mr.ring.length cRh] 26)).cell? ⟨w1.heap.size, 1, none⟩ = some (.slice ow mr.l.length cw) := block_cellP bxwW 1 _ rfl
  have bxwc2 : (w8.alloc (.cells #[.int .i64 mr.key, .slice oh mr.l.length ch, .slice oRh mr.ring.length cRh] 26)).cell? ⟨w1.heap.size, 2, none⟩ = some (.slice oRw mr.ring.length cRw) := block_cellP bxwW 2 _ rfl
  clear bxwW
  have bxhc0 : (w8.alloc (.cells #[.int .i64 mr.key, .slice oh mr.l.length ch, .slice oRh mr.ring.length cRh] 26)).cell? ⟨w8.heap.size, 0, none⟩ = some (.int .i64 mr.key) := block_cellP bxh 0 _ rfl
  have bxhc1 : (w8.alloc (.cells #[.int .i64 mr.key, .slice oh mr.l.length ch, .slice oRh mr.ring.length cRh] 26)).cell? ⟨w8.heap.size, 1, none⟩ = some (.slice oh mr.l.length ch) := block_cellP bxh 1 _ rfl
  have bxhc2 : (w8.alloc (.cells #[.int .i64 mr.key, .slice oh mr.l.length ch, .slice oRh mr.ring.length cRh] 26)).cell? ⟨w8.heap.size, 2, none⟩ = some (.slice oRh mr.ring.length cRh) := block_cellP bxh 2 _ rfl
  have Hbxh := hide bxh
  have Hb_ := hide hb_w9
  clear bxh hb_w9
  have Hinw := hide inw
  clear inw
  have Hbxw := hide bxw
  clear bxw
  have Hing := hide ing
  clear ing
  have Hbxg := hide bxg
  clear bxg
  have Hinh := hide inh
  clear inh
  have HB_ := hide B_w8
  clear B_w8
  go_wp2_with fail
  clear bxwc0 bxwc1 bxwc2
  clear bxhc0 bxhc1 bxhc2
  have inw := Hinw.out
  clear Hinw
  have bxw := Hbxw.out
  clear Hbxw
  have ing := Hing.out
  clear Hing
  have bxg := Hbxg.out
  clear Hbxg
  have inh := Hinh.out
  clear Hinh
  have B_w8 := HB_.out
  clear HB_
  have bxh := Hbxh.out
  have hb_w9 := Hb_.out
  clear Hbxh Hb_
  generalize w8.alloc (.cells #[.int .i64 mr.key, .slice oh mr.l.length ch, .slice oRh mr.ring.length cRh] 26) = w9 at *
  replace inw := inw.step (Stp.of (lo := 0) (hi := 0) hb_w9) (.inl (Nat.zero_le _))
  replace bxw := (hb_w9.block _ (by omega)).trans bxw
  replace ing := ing.step (Stp.of (lo := 0) (hi := 0) hb_w9) (.inl (Nat.zero_le _))
  replace bxg := (hb_w9.block _ (by omega)).trans bxg
  replace inh := inh.step (Stp.of (lo := 0) (hi := 0) hb_w9) (.inl (Nat.zero_le _))
  have B_w9 : Below w.heap.size w w9 := B_w8.trans (hb_w9.mono B_w8.size)
  have hs_w9 : w8.heap.size ≤ w9.heap.size := hb_w9.size
  clear hb_w9 B_w8
  refine (eqPool_sh _ _ mr w9 (inh.rd.le (by omega)) (inw.rd.le (by omega)) hmr).mono ?_
  rintro e w10 ⟨rfl, hb_w10⟩
  replace inw := inw.step (Stp.of (lo := 0) (hi := 0) hb_w10) (.inl (Nat.zero_le _))
  replace bxw := (hb_w10.block _ (by omega)).trans bxw
  replace ing := ing.step (Stp.of (lo := 0) (hi := 0) hb_w10) (.inl (Nat.zero_le _))
  replace bxg := (hb_w10.block _ (by omega)).trans bxg
  replace inh := inh.step (Stp.of (lo := 0) (hi := 0) hb_w10) (.inl (Nat.zero_le _))
  replace bxh := (hb_w10.block _ (by omega)).trans bxh
  have B_w10 : Below w.heap.size w w10 := B_w9.trans (hb_w10.mono B_w9.size)
  have hs_w10 : w9.heap.size ≤ w10.heap.size := hb_w10.size
  clear hb_w10 B_w9
  clear inh
  clear bxh
  have bxgc0 : w10.cell? ⟨w3.heap.size, 0, none⟩ = some (.int .i64 mr.key) := block_cellP bxg 0 _ rfl
  have bxgc1 : w10.cell? ⟨w3.heap.size, 1, none⟩ = some (.slice og mr.l.length cg) := block_cellP bxg 1 _ rfl
  have bxgc2 : w10.cell? ⟨w3.heap.size, 2, none⟩ = some (.slice oRg mr.ring.length cRg) := block_cellP bxg 2 _ rfl
  have Hinw := hide inw
  clear inw
  have Hbxw := hide bxw
  clear bxw
  have Hing := hide ing
  clear ing
  have Hbxg := hide bxg
  clear bxg
  have HB_ := hide B_w10
  clear B_w10
  go_wp2_with fail
  clear bxgc0 bxgc1 bxgc2
  have inw := Hinw.out
  clear Hinw
  have bxw := Hbxw.out
  clear Hbxw
  have ing := Hing.out
  clear Hing
  have bxg := Hbxg.out
  clear Hbxg
  have B_w10 := HB_.out
  clear HB_
  refine (heldPool_sh _ mr 1 w10 (ing.rd.le (by omega)) (by omega) (by omega) hmr).mono ?_
  rintro e w11 ⟨rfl, hb_w11⟩
  replace inw := inw.step (Stp.of (lo := 0) (hi := 0) hb_w11) (.inl (Nat.zero_le _))
  replace bxw := (hb_w11.block _ (by omega)).trans bxw
  replace ing := ing.step (Stp.of (lo := 0) (hi := 0) hb_w11) (.inl (Nat.zero_le _))
  replace bxg := (hb_w11.block _ (by omega)).trans bxg
  have B_w11 : Below w.heap.size w w11 := B_w10.trans (hb_w11.mono B_w10.size)
  have hs_w11 : w10.heap.size ≤ w11.heap.size := hb_w11.size
  clear hb_w11 B_w10
  have Hinw := hide inw
  clear inw
  have Hbxw := hide bxw
  clear bxw
  have Hing := hide ing
  clear ing
  have Hbxg := hide bxg
  clear bxg
  have HB_ := hide B_w11
  clear B_w11
  go_wp2
  go_ret
  exact ⟨rfl, HB_.out⟩

set_option maxRecDepth 100000 in
theorem fnExactPoolNew_lifted (os : Os) (started : os.Started) (H : Type) (enc : TypeId × Value → H) :
    ReturnsInHanded {} Try.checked os 8 .any (Rows.fnExactPoolNewSpec.pre6 enc Try.prog Try.f8 Rows.fnExactPoolNewRow.domain false) (Rows.fnExactPoolNewSpec.post enc Try.prog Try.f8 false true false false) := by
  refine returnsInHanded_of_change (C := Try.checked) own started (by kernel_rfl) Try.func8
    (ChangeSpec.witness6 (enc := enc) (C := Try.checked) false ⟨#[], #[.int .i64 0], []⟩ 8 (by kernel_rfl) (by kernel_rfl) (by kernel_rfl) (by kernel_rfl)) ?_
  intro W base args ds gs before hval0 hW hcnd _
  have hval : ∀ (j : Nat) t v, Try.f8.params[j]? = some t → args[j]? = some v → Value.okWide Try.prog W .any base t v := hval0
  have hW' := hW
  obtain ⟨p, q, hA0, hV, rfl, hfz, hnd⟩ := hW
  have hA : DataW.TrodAll enc Try.prog W 0 (fun _ => true) true Try.f8.params.toList args.toList ds p := hA0
  rw [Try.params8] at hA hval
  obtain ⟨v0, vs0, d0, ds0, p0, q0, hargs, rfl, rfl, h0, r0⟩ := trodAll_cons hA
  obtain ⟨rfl, rfl, rfl⟩ := trodAll_nil r0
  obtain rfl : args = #[v0] := by cases args; simp_all
  obtain ⟨rfl, rfl⟩ := trodVars_none hV
  have k0 := h0
  have lt0 : ∀ x ∈ p0, x.block < W.heap.size := by obtain ⟨m, hm⟩ := k0; exact DataW.trod_lt m _ _ _ hm
  obtain ⟨a0, rfl, _, _, w0⟩ := open_int Try.underlying3 (hval 0 3 v0 rfl rfl) h0
  clear hA0 hval0
  refine (lawFnExactPoolNew a0 W  ).mono fun e W' ⟨he, bel⟩ => ?_
  subst he
  exact ⟨_, rfl, _, _, _, [], _, [], hW', trodAll_mk1 (shut_bool Try.underlying4 _), (trodAll_cons_mk (Below.trod laidOut (by kernel_rfl) (of_decide_eq_true (by kernel_rfl)) k0 bel lt0) trodAll_mk0), rfl, bel.frame _, fun h => by cases h⟩

theorem fnExactPoolNew_over : Rows.fnExactPoolNewRow.holds Try.pinned (OpenSpec.ofChange Rows.fnExactPoolNewSpec) :=
  OpenClaim.holds_of_wide 8 Try.f8 rfl rfl rfl rfl rfl rfl rfl ⟨rfl, rfl, rfl, rfl, rfl⟩ rfl rfl rfl rfl rfl (by kernel_rfl) Try.func8 (by kernel_rfl)
    (of_decide_eq_true (by kernel_rfl)) (by unfold Func.isWrapper; first | (rw [if_pos (by decide +kernel)]; kernel_rfl) | (rw [if_neg (by decide +kernel)]; exact ⟨rfl, rfl⟩))
    (fun os started H enc _ => fnExactPoolNew_lifted os started H enc)

theorem fnExactPoolNew_holds : Rows.FnExactPoolNewSaid := fnExactPoolNew_over

end Go.Proofs.Ytldjaapbkihibaa
