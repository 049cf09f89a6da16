/- For every two numbers the law FnExactBalNew answers true: impl.BalNew answers as the model's, and its answer owns its memory. No conditions. -/
import Derived.Test.YtfmnhdemhbbjlaaGrSBNewS
namespace Go.Proofs.Ytfmnhdemhbbjlaa
open Go.ChangeShapes Go.WideShapes Go.ChangeAt Go.RowKit Go.Joins
set_option linter.unusedVariables false
set_option linter.unusedSimpArgs false

set_option maxRecDepth 100000 in
set_option maxHeartbeats 8000000 in
theorem lawFnExactBalNew (key size : Int) (w : World) :
    Calls Try.prog 3 #[.int .i64 key, .int .i64 size] w fun e w' => e = .returned (.bool true) ∧ Below w.heap.size w w' := by
  have HS := hide (fun W => specBalNew_any key size W)
  have HI := hide (fun W => implBalNew_any key size W)
  have hmr := bnew_fit key size
  generalize bnewM key size = mr at *
  generalize bnewB key size = t at *
  have B_w : Below w.heap.size w w := Below.refl _ _
  have HB0_ := hide B_w
  clear B_w
  go_enter Try.func3, Try.ntmps3
  go_wp2_with fail
  have B_w := HB0_.out
  clear HB0_
  refine (HS.out w).mono ?_
  rintro e w1 ⟨vw, rfl, inw, hb_w1⟩
  have B_w1 : Below w.heap.size w w1 := B_w.trans (hb_w1.mono B_w.size)
  have hs_w1 : w.heap.size ≤ w1.heap.size := hb_w1.size
  clear hb_w1 B_w
  obtain ⟨ow, cw, obw, cbw, oRw, cRw, otw, ctw, evw⟩ := inw.rd.opn
  subst evw
  have bxw : (w1.alloc (.cells #[.int .i64 mr.j.key, .slice ow mr.j.l.length cw, .int .i64 mr.j.safe, .int .i64 mr.p.key, .slice obw mr.p.l.length cbw, .slice oRw mr.p.ring.length cRw, .slice otw mr.t.length ctw] 33)).heap[w1.heap.size]? = some (.cells #[.int .i64 mr.j.key, .slice ow mr.j.l.length cw, .int .i64 mr.j.safe, .int .i64 mr.p.key, .slice obw mr.p.l.length cbw, .slice oRw mr.p.ring.length cRw, .slice otw mr.t.length ctw] 33 (0, 0)) := World.alloc_heap_new w1 (.cells #[.int .i64 mr.j.key, .slice ow mr.j.l.length cw, .int .i64 mr.j.safe, .int .i64 mr.p.key, .slice obw mr.p.l.length cbw, .slice oRw mr.p.ring.length cRw, .slice otw mr.t.length ctw] 33)
  have hb_w2 : Below w1.heap.size w1 (w1.alloc (.cells #[.int .i64 mr.j.key, .slice ow mr.j.l.length cw, .int .i64 mr.j.safe, .int .i64 mr.p.key, .slice obw mr.p.l.length cbw, .slice oRw mr.p.ring.length cRw, .slice otw mr.t.length ctw] 33)) := (Below.refl _ _).alloc (Nat.le_refl _) _
  have hz_w2 : w1.heap.size < (w1.alloc (.cells #[.int .i64 mr.j.key, .slice ow mr.j.l.length cw, .int .i64 mr.j.safe, .int .i64 mr.p.key, .slice obw mr.p.l.length cbw, .slice oRw mr.p.ring.length cRw, .slice otw mr.t.length ctw] 33)).heap.size := by simp
  have bxwc0 : (w1.alloc (.cells #[.int .i64 mr.j.key, .slice ow mr.j.l.length cw, .int .i64 mr.j.safe, .int .i64 mr.p.key, .slice obw mr.p.l.length cbw, .slice oRw mr.p.ring.length cRw, .slice otw mr.t.length ctw] 33)).cell? ⟨w1.heap.size, 0, none⟩ = some (.int .i64 mr.j.key) := bx_cell bxw 0 _ rfl
  have bxwc1 : (w1.alloc (.cells #[.int .i64 mr.j.key, .slice ow mr.j.l.length cw, .int .i64 mr.j.safe, .int .i64 mr.p.key, .slice obw mr.p.l.length cbw, .slice oRw mr.p.ring.length cRw, .slice otw mr.t.length ctw] 33)).cell? ⟨w1.heap.size, 1, none⟩ = some (.slice ow mr.j.l.length cw) := bx_cell bxw 1 _ rfl
  have bxwc2 : (w1.alloc (.cells #[.int .i64 mr.j.key, .slice ow mr.j.l.length cw, .int .i64 mr.j.safe, .int .i64 mr.p.key, .slice obw mr.p.l.length cbw, .slice oRw mr.p.ring.length cRw, .slice otw mr.t.length ctw] 33)).cell? ⟨w1.heap.size, 2, none⟩ = some (.int .i64 mr.j.safe) := bx_cell bxw 2 _ rfl
  have bxwc3 : (w1.alloc (.cells #[.int .i64 mr.j.key, .slice ow mr.j.l.length cw, .int .i64 mr.j.safe, .int .i64 mr.p.key, .slice obw mr.p.l.length cbw, .slice oRw mr.p.ring.length cRw, .slice otw mr.t.length ctw] 33)).cell? ⟨w1.heap.size, 3, none⟩ = some (.int .i64 mr.p.key) := bx_cell bxw 3 _ rfl
  have bxwc4 : (w1.alloc (.cells #[.int .i64 mr.j.key, .slice ow mr.j.l.length cw, .int .i64 mr.j.safe, .int .i64 mr.p.key, .slice obw mr.p.l.length cbw, .slice oRw mr.p.ring.length cRw, .slice otw mr.t.length ctw] 33)).cell? ⟨w1.heap.size, 4, none⟩ = some (.slice obw mr.p.l.length cbw) := bx_cell bxw 4 _ rfl
  have bxwc5 : (w1.alloc (.cells #[.int .i64 mr.j.key, .slice ow mr.j.l.length cw, .int .i64 mr.j.safe, .int .i64 mr.p.key, .slice obw mr.p.l.length cbw, .slice oRw mr.p.ring.length cRw, .slice otw mr.t.length ctw] 33)).cell? ⟨w1.heap.size, 5, none⟩ = some (.slice oRw mr.p.ring.length cRw) := bx_cell bxw 5 _ rfl
  have bxwc6 : (w1.alloc (.cells #[.int .i64 mr.j.key, .slice ow mr.j.l.length cw, .int .i64 mr.j.safe, .int .i64 mr.p.key, .slice obw mr.p.l.length cbw, .slice oRw mr.p.ring.length cRw, .slice otw mr.t.length ctw] 33)).cell? ⟨w1.heap.size, 6, none⟩ = some (.slice otw mr.t.length ctw) := bx_cell bxw 6 _ rfl
  have Hbxw := hide bxw
  have Hb_ := hide hb_w2
  clear bxw hb_w2
  have Hinw := hide inw
  clear inw
  have HB_ := hide B_w1
  clear B_w1
  go_wp2_with fail
  clear bxwc0 bxwc1 bxwc2 bxwc3 bxwc4 bxwc5 bxwc6
  have inw := Hinw.out
  clear Hinw
  have B_w1 := HB_.out
  clear HB_
  have bxw := Hbxw.out
  have hb_w2 := Hb_.out
  clear Hbxw Hb_
  generalize w1.alloc (.cells #[.int .i64 mr.j.key, .slice ow mr.j.l.length cw, .int .i64 mr.j.safe, .int .i64 mr.p.key, .slice obw mr.p.l.length cbw, .slice oRw mr.p.ring.length cRw, .slice otw mr.t.length ctw] 33) = w2 at *
  replace inw := inw.step (Stp.of (lo := 0) (hi := 0) hb_w2) (.inl (Nat.zero_le _))
  have B_w2 : Below w.heap.size w w2 := B_w1.trans (hb_w2.mono B_w1.size)
  have hs_w2 : w1.heap.size ≤ w2.heap.size := hb_w2.size
  clear hb_w2 B_w1
  refine (HI.out w2).mono ?_
  rintro e w3 ⟨vg, rfl, ing, hb_w3⟩
  replace inw := inw.step (Stp.of (lo := 0) (hi := 0) hb_w3) (.inl (Nat.zero_le _))
  replace bxw := (hb_w3.block _ (by omega)).trans bxw
  have B_w3 : Below w.heap.size w w3 := B_w2.trans (hb_w3.mono B_w2.size)
  have hs_w3 : w2.heap.size ≤ w3.heap.size := hb_w3.size
  clear hb_w3 B_w2
  obtain ⟨og, cg, obg, cbg, oRg, cRg, otg, ctg, evg⟩ := ing.rd.opn
  subst evg
  have bxg : (w3.alloc (.cells #[.int .i64 mr.j.key, .slice og mr.j.l.length cg, .int .i64 mr.j.safe, .int .i64 mr.p.key, .slice obg mr.p.l.length cbg, .slice oRg mr.p.ring.length cRg, .slice otg mr.t.length ctg] 33)).heap[w3.heap.size]? = some (.cells #[.int .i64 mr.j.key, .slice og mr.j.l.length cg, .int .i64 mr.j.safe, .int .i64 mr.p.key, .slice obg mr.p.l.length cbg, .slice oRg mr.p.ring.length cRg, .slice otg mr.t.length ctg] 33 (0, 0)) := World.alloc_heap_new w3 (.cells #[.int .i64 mr.j.key, .slice og mr.j.l.length cg, .int .i64 mr.j.safe, .int .i64 mr.p.key, .slice obg mr.p.l.length cbg, .slice oRg mr.p.ring.length cRg, .slice otg mr.t.length ctg] 33)
  have hb_w4 : Below w3.heap.size w3 (w3.alloc (.cells #[.int .i64 mr.j.key, .slice og mr.j.l.length cg, .int .i64 mr.j.safe, .int .i64 mr.p.key, .slice obg mr.p.l.length cbg, .slice oRg mr.p.ring.length cRg, .slice otg mr.t.length ctg] 33)) := (Below.refl _ _).alloc (Nat.le_refl _) _
  have hz_w4 : w3.heap.size < (w3.alloc (.cells #[.int .i64 mr.j.key, .slice og mr.j.l.length cg, .int .i64 mr.j.safe, .int .i64 mr.p.key, .slice obg mr.p.l.length cbg, .slice oRg mr.p.ring.length cRg, .slice otg mr.t.length ctg] 33)).heap.size := by simp
  have bxwW := (hb_w4.block _ (by omega)).trans bxw
  have bxwc0 : (w3.alloc (.cells #[.int .i64 mr.j.key, .slice og mr.j.l.length cg, .int .i64 mr.j.safe, .int .i64 mr.p.key, .slice obg mr.p.l.length cbg, .slice oRg mr.p.ring.length cRg, .slice otg mr.t.length ctg] 33)).cell? ⟨w1.heap.size, 0, none⟩ = some (.int .i64 mr.j.key) := bx_cell bxwW 0 _ rfl
  have bxwc1 : (w3.alloc (.cells #[.int .i64 mr.j.key, .slice og mr.j.l.length cg, .int .i64 mr.j.safe, .int .i64 mr.p.key, .slice obg mr.p.l.length cbg, .slice oRg mr.p.ring.length cRg, .slice otg mr.t.length ctg] 33)).cell? ⟨w1.heap.size, 1, none⟩ = some (.slice ow mr.j.l.length cw) := bx_cell bxwW 1 _ rfl
  have bxwc2 : (w3.alloc (.cells #[.int .i64 mr.j.key, .slice og mr.j.l.length cg, .int .i64 mr.j.safe, .int .i64 mr.p.key, .slice obg mr.p.l.length cbg, .slice oRg mr.p.ring.length cRg, .slice otg mr.t.length ctg] 33)).cell? ⟨w1.heap.size, 2, none⟩ = some (.int .i64 mr.j.safe) := bx_cell bxwW 2 _ rfl
  have bxwc3 : (w3.alloc (.cells #[.int .i64 mr.j.key, .slice og mr.j.l.length cg, .int .i64 mr.j.safe, .int .i64 mr.p.key, .slice obg mr.p.l.length cbg, .slice oRg mr.p.ring.length cRg, .slice otg mr.t.length ctg] 33)).cell? ⟨w1.heap.size, 3, none⟩ = some (.int .i64 mr.p.key) := bx_cell bxwW 3 _ rfl
  have bxwc4 : (w3.alloc (.cells #[.int .i64 mr.j.key, .slice og mr.j.l.length cg, .int .i64 mr.j.safe, .int .i64 mr.p.key, .slice obg mr.p.l.length cbg, .slice oRg mr.p.ring.length cRg, .slice otg mr.t.length ctg] 33)).cell? ⟨w1.heap.size, 4, none⟩ = some (.slice obw mr.p.l.length cbw) := bx_cell bxwW 4 _ rfl
  have bxwc5 : (w3.alloc (.cells #[.int .i64 mr.j.key, .slice og mr.j.l.length cg, .int .i64 mr.j.safe, .int .i64 mr.p.key, .slice obg mr.p.l.length cbg, .slice oRg mr.p.ring.length cRg, .slice otg mr.t.length ctg] 33)).cell? ⟨w1.heap.size, 5, none⟩ = some (.slice oRw mr.p.ring.length cRw) := bx_cell bxwW 5 _ rfl
  have bxwc6 : (w3.alloc (.cells #[.int .i64 mr.j.key, .slice og mr.j.l.length cg, .int .i64 mr.j.safe, .int .i64 mr.p.key, .slice obg mr.p.l.length cbg, .slice oRg mr.p.ring.length cRg, .slice otg mr.t.length ctg] 33)).cell? ⟨w1.heap.size, 6, none⟩ = some (.slice otw mr.t.length ctw) := bx_cell bxwW 6 _ rfl
  clear bxwW
  have bxgc0 : (w3.alloc (.cells #[.int .i64 mr.j.key, .slice og mr.j.l.length cg, .int .i64 mr.j.safe, .int .i64 mr.p.key, .slice obg mr.p.l.length cbg, .slice oRg mr.p.ring.length cRg, .slice otg mr.t.length ctg] 33)).cell? ⟨w3.heap.size, 0, none⟩ = some (.int .i64 mr.j.key) := bx_cell bxg 0 _ rfl
  have bxgc1 : (w3.alloc (.cells #[.int .i64 mr.j.key, .slice og mr.j.l.length cg, .int .i64 mr.j.safe, .int .i64 mr.p.key, .slice obg mr.p.l.length cbg, .slice oRg mr.p.ring.length cRg, .slice otg mr.t.length ctg] 33)).cell? ⟨w3.heap.size, 1, none⟩ = some (.slice og mr.j.l.length cg) := bx_cell bxg 1 _ rfl
  have bxgc2 : (w3.alloc (.cells #[.int .i64 mr.j.key, .slice og mr.j.l.length cg, .int .i64 mr.j.safe, .int .i64 mr.p.key, .slice obg mr.p.l.length cbg, .slice oRg mr.p.ring.length cRg, .slice otg mr.t.length ctg] 33)).cell? ⟨w3.heap.size, 2, none⟩ = some (.int .i64 mr.j.safe) := bx_cell bxg 2 _ rfl
  have bxgc3 : (w3.alloc (.cells #[.int .i64 mr.j.key, .slice og mr.j.l.length cg, .int .i64 mr.j.safe, .int .i64 mr.p.key, .slice obg mr.p.l.length cbg, .slice oRg mr.p.ring.length cRg, .slice otg mr.t.length ctg] 33)).cell? ⟨w3.heap.size, 3, none⟩ = some (.int .i64 mr.p.key) := bx_cell bxg 3 _ rfl
  have bxgc4 : (w3.alloc (.cells #[.int .i64 mr.j.key, .slice og mr.j.l.length cg, .int .i64 mr.j.safe, .int .i64 mr.p.key, .slice obg mr.p.l.length cbg, .slice oRg mr.p.ring.length cRg, .slice otg mr.t.length ctg] 33)).cell? ⟨w3.heap.size, 4, none⟩ = some (.slice obg mr.p.l.length cbg) := bx_cell bxg 4 _ rfl
  have bxgc5 : (w3.alloc (.cells #[.int .i64 mr.j.key, .slice og mr.j.l.length cg, .int .i64 mr.j.safe, .int .i64 mr.p.key, .slice obg mr.p.l.length cbg, .slice oRg mr.p.ring.length cRg, .slice otg mr.t.length ctg] 33)).cell? ⟨w3.heap.size, 5, none⟩ = some (.slice oRg mr.p.ring.length cRg) := bx_cell bxg 5 _ rfl
  have bxgc6 : (w3.alloc (.cells #[.int .i64 mr.j.key, .slice og mr.j.l.length cg, .int .i64 mr.j.safe, .int .i64 mr.p.key, .slice obg mr.p.l.length cbg, .slice oRg mr.p.ring.length cRg, .slice otg mr.t.length ctg] 33)).cell? ⟨w3.heap.size, 6, none⟩ = some (.slice otg mr.t.length ctg) := bx_cell bxg 6 _ rfl
  have Hbxg := hide bxg
  have Hb_ := hide hb_w4
  clear bxg hb_w4
  have Hinw := hide inw
  clear inw
  have Hbxw := hide bxw
  clear bxw
  have Hing := hide ing
  clear ing
  have HB_ := hide B_w3
  clear B_w3
  go_wp2_with fail
  clear bxwc0 bxwc1 bxwc2 bxwc3 bxwc4 bxwc5 bxwc6
  clear bxgc0 bxgc1 bxgc2 bxgc3 bxgc4 bxgc5 bxgc6
  have inw := Hinw.out
  clear Hinw
  have bxw := Hbxw.out
  clear Hbxw
  have ing := Hing.out
  clear Hing
  have B_w3 := HB_.out
  clear HB_
  have bxg := Hbxg.out
  have hb_w4 := Hb_.out
  clear Hbxg Hb_
  generalize w3.alloc (.cells #[.int .i64 mr.j.key, .slice og mr.j.l.length cg, .int .i64 mr.j.safe, .int .i64 mr.p.key, .slice obg mr.p.l.length cbg, .slice oRg mr.p.ring.length cRg, .slice otg mr.t.length ctg] 33) = w4 at *
  replace inw := inw.step (Stp.of (lo := 0) (hi := 0) hb_w4) (.inl (Nat.zero_le _))
  replace bxw := (hb_w4.block _ (by omega)).trans bxw
  replace ing := ing.step (Stp.of (lo := 0) (hi := 0) hb_w4) (.inl (Nat.zero_le _))
  have B_w4 : Below w.heap.size w w4 := B_w3.trans (hb_w4.mono B_w3.size)
  have hs_w4 : w3.heap.size ≤ w4.heap.size := hb_w4.size
  clear hb_w4 B_w3
  refine (eqBal_sh _ _ mr w4 (ing.rd.le (by omega)) (inw.rd.le (by omega)) hmr).mono ?_
  rintro e w5 ⟨rfl, hb_w5⟩
  replace inw := inw.step (Stp.of (lo := 0) (hi := 0) hb_w5) (.inl (Nat.zero_le _))
  replace bxw := (hb_w5.block _ (by omega)).trans bxw
  replace ing := ing.step (Stp.of (lo := 0) (hi := 0) hb_w5) (.inl (Nat.zero_le _))
  replace bxg := (hb_w5.block _ (by omega)).trans bxg
  have B_w5 : Below w.heap.size w w5 := B_w4.trans (hb_w5.mono B_w4.size)
  have hs_w5 : w4.heap.size ≤ w5.heap.size := hb_w5.size
  clear hb_w5 B_w4
  have bxgc0 : w5.cell? ⟨w3.heap.size, 0, none⟩ = some (.int .i64 mr.j.key) := bx_cell bxg 0 _ rfl
  have bxgc1 : w5.cell? ⟨w3.heap.size, 1, none⟩ = some (.slice og mr.j.l.length cg) := bx_cell bxg 1 _ rfl
  have bxgc2 : w5.cell? ⟨w3.heap.size, 2, none⟩ = some (.int .i64 mr.j.safe) := bx_cell bxg 2 _ rfl
  have bxgc3 : w5.cell? ⟨w3.heap.size, 3, none⟩ = some (.int .i64 mr.p.key) := bx_cell bxg 3 _ rfl
  have bxgc4 : w5.cell? ⟨w3.heap.size, 4, none⟩ = some (.slice obg mr.p.l.length cbg) := bx_cell bxg 4 _ rfl
  have bxgc5 : w5.cell? ⟨w3.heap.size, 5, none⟩ = some (.slice oRg mr.p.ring.length cRg) := bx_cell bxg 5 _ rfl
  have bxgc6 : w5.cell? ⟨w3.heap.size, 6, none⟩ = some (.slice otg mr.t.length ctg) := bx_cell bxg 6 _ rfl
  have Hinw := hide inw
  clear inw
  have Hbxw := hide bxw
  clear bxw
  have Hing := hide ing
  clear ing
  have Hbxg := hide bxg
  clear bxg
  have HB_ := hide B_w5
  clear B_w5
  go_wp2_with fail
  clear bxgc0 bxgc1 bxgc2 bxgc3 bxgc4 bxgc5 bxgc6
  have inw := Hinw.out
  clear Hinw
  have bxw := Hbxw.out
  clear Hbxw
  have ing := Hing.out
  clear Hing
  have bxg := Hbxg.out
  clear Hbxg
  have B_w5 := HB_.out
  clear HB_
  refine (markBal_sh (w2.heap.size) (w3.heap.size) _ mr 1 w5 ing (by omega) (by omega) (by omega) hmr).mono ?_
  rintro e w6 ⟨rfl, ing', sp_w6⟩
  replace inw := inw.step sp_w6 (by omega)
  replace bxw := sp_w6.box bxw (by omega)
  replace bxg := sp_w6.box bxg (by omega)
  have B_w6 : Below w.heap.size w w6 := B_w5.trans (sp_w6.below (by omega) (by omega))
  have hs_w6 : w5.heap.size ≤ w6.heap.size := sp_w6.size
  clear sp_w6 B_w5
  clear ing
  have ing := ing'
  clear ing'
  have hk2 : (0 : Int) ≤ 1 + nBm mr ∧ 1 + nBm mr ≤ 100000000 := by have := nBm_bd hmr; omega
  have bxgc0 : w6.cell? ⟨w3.heap.size, 0, none⟩ = some (.int .i64 mr.j.key) := bx_cell bxg 0 _ rfl
  have bxgc1 : w6.cell? ⟨w3.heap.size, 1, none⟩ = some (.slice og mr.j.l.length cg) := bx_cell bxg 1 _ rfl
  have bxgc2 : w6.cell? ⟨w3.heap.size, 2, none⟩ = some (.int .i64 mr.j.safe) := bx_cell bxg 2 _ rfl
  have bxgc3 : w6.cell? ⟨w3.heap.size, 3, none⟩ = some (.int .i64 mr.p.key) := bx_cell bxg 3 _ rfl
  have bxgc4 : w6.cell? ⟨w3.heap.size, 4, none⟩ = some (.slice obg mr.p.l.length cbg) := bx_cell bxg 4 _ rfl
  have bxgc5 : w6.cell? ⟨w3.heap.size, 5, none⟩ = some (.slice oRg mr.p.ring.length cRg) := bx_cell bxg 5 _ rfl
  have bxgc6 : w6.cell? ⟨w3.heap.size, 6, none⟩ = some (.slice otg mr.t.length ctg) := bx_cell bxg 6 _ rfl
  have Hinw := hide inw
  clear inw
  have Hbxw := hide bxw
  clear bxw
  have Hing := hide ing
  clear ing
  have Hbxg := hide bxg
  clear bxg
  have HB_ := hide B_w6
  clear B_w6
  go_wp2_with fail
  clear bxgc0 bxgc1 bxgc2 bxgc3 bxgc4 bxgc5 bxgc6
  have inw := Hinw.out
  clear Hinw
  have bxw := Hbxw.out
  clear Hbxw
  have ing := Hing.out
  clear Hing
  have bxg := Hbxg.out
  clear Hbxg
  have B_w6 := HB_.out
  clear HB_
  refine (heldBal_sh _ mr 1 w6 (ing.rd.le (by omega)) (by omega) (by omega) hmr).mono ?_
  rintro e w7 ⟨rfl, hb_w7⟩
  replace inw := inw.step (Stp.of (lo := 0) (hi := 0) hb_w7) (.inl (Nat.zero_le _))
  replace bxw := (hb_w7.block _ (by omega)).trans bxw
  replace ing := ing.step (Stp.of (lo := 0) (hi := 0) hb_w7) (.inl (Nat.zero_le _))
  replace bxg := (hb_w7.block _ (by omega)).trans bxg
  have B_w7 : Below w.heap.size w w7 := B_w6.trans (hb_w7.mono B_w6.size)
  have hs_w7 : w6.heap.size ≤ w7.heap.size := hb_w7.size
  clear hb_w7 B_w6
  have Hinw := hide inw
  clear inw
  have Hbxw := hide bxw
  clear bxw
  have Hing := hide ing
  clear ing
  have Hbxg := hide bxg
  clear bxg
  have HB_ := hide B_w7
  clear B_w7
  go_wp2_with fail
  have inw := Hinw.out
  clear Hinw
  have bxw := Hbxw.out
  clear Hbxw
  have ing := Hing.out
  clear Hing
  have bxg := Hbxg.out
  clear Hbxg
  have B_w7 := HB_.out
  clear HB_
  refine (HI.out w7).mono ?_
  rintro e w8 ⟨vh, rfl, inh, hb_w8⟩
  replace inw := inw.step (Stp.of (lo := 0) (hi := 0) hb_w8) (.inl (Nat.zero_le _))
  replace bxw := (hb_w8.block _ (by omega)).trans bxw
  replace ing := ing.step (Stp.of (lo := 0) (hi := 0) hb_w8) (.inl (Nat.zero_le _))
  replace bxg := (hb_w8.block _ (by omega)).trans bxg
  have B_w8 : Below w.heap.size w w8 := B_w7.trans (hb_w8.mono B_w7.size)
  have hs_w8 : w7.heap.size ≤ w8.heap.size := hb_w8.size
  clear hb_w8 B_w7
  obtain ⟨oh, ch, obh, cbh, oRh, cRh, oth, cth, evh⟩ := inh.rd.opn
  subst evh
  have bxh : (w8.alloc (.cells #[.int .i64 mr.j.key, .slice oh mr.j.l.length ch, .int .i64 mr.j.safe, .int .i64 mr.p.key, .slice obh mr.p.l.length cbh, .slice oRh mr.p.ring.length cRh, .slice oth mr.t.length cth] 33)).heap[w8.heap.size]? = some (.cells #[.int .i64 mr.j.key, .slice oh mr.j.l.length ch, .int .i64 mr.j.safe, .int .i64 mr.p.key, .slice obh mr.p.l.length cbh, .slice oRh mr.p.ring.length cRh, .slice oth mr.t.length cth] 33 (0, 0)) := World.alloc_heap_new w8 (.cells #[.int .i64 mr.j.key, .slice oh mr.j.l.length ch, .int .i64 mr.j.safe, .int .i64 mr.p.key, .slice obh mr.p.l.length cbh, .slice oRh mr.p.ring.length cRh, .slice oth mr.t.length cth] 33)
  have hb_w9 : Below w8.heap.size w8 (w8.alloc (.cells #[.int .i64 mr.j.key, .slice oh mr.j.l.length ch, .int .i64 mr.j.safe, .int .i64 mr.p.key, .slice obh mr.p.l.length cbh, .slice oRh mr.p.ring.length cRh, .slice oth mr.t.length cth] 33)) := (Below.refl _ _).alloc (Nat.le_refl _) _
  have hz_w9 : w8.heap.size < (w8.alloc (.cells #[.int .i64 mr.j.key, .slice oh mr.j.l.length ch, .int .i64 mr.j.safe, .int .i64 mr.p.key, .slice obh mr.p.l.length cbh, .slice oRh mr.p.ring.length cRh, .slice oth mr.t.length cth] 33)).heap.size := by simp
  have bxwW := (hb_w9.block _ (by omega)).trans bxw
  have bxwc0 : (w8.alloc (.cells #[.int .i64 mr.j.key, .slice oh mr.j.l.length ch, .int .i64 mr.j.safe, .int .i64 mr.p.key, .slice obh mr.p.l.length cbh, .slice oRh mr.p.ring.length cRh, .slice oth mr.t.length cth] 33)).cell? ⟨w1.heap.size, 0, none⟩ = some (.int .i64 mr.j.key) := bx_cell bxwW 0 _ rfl
  have bxwc1 : (w8.alloc (.cells #[.int .i64 mr.j.key, .slice oh mr.j.l.length ch, .int .i64 mr.j.safe, .int .i64 mr.p.key, .slice obh mr.p.l.length cbh, .slice oRh mr.p.ring.length cRh, .slice oth mr.t.length cth] 33)).cell? ⟨w1.heap.size, 1, none⟩ = some (.slice ow mr.j.l.length cw) := bx_cell bxwW 1 _ rfl
  have bxwc2 : (w8.alloc (.cells #[.int .i64 mr.j.key, .slice oh mr.j.l.length ch, .int .i64 mr.j.safe, .int .i64 mr.p.key, .slice obh mr.p.l.length cbh, .slice oRh mr.p.ring.length cRh, .slice oth mr.t.length cth] 33)).cell? ⟨w1.heap.size, 2, none⟩ = some (.int .i64 mr.j.safe) := bx_cell bxwW 2 _ rfl
  have bxwc3 : (w8.alloc (.cells #[.int .i64 mr.j.key, .slice oh mr.j.l.length ch, .int .i64 mr.j.safe, .int .i64 mr.p.key, .slice obh mr.p.l.length cbh, .slice oRh mr.p.ring.length cRh, .slice oth mr.t.length cth] 33)).cell? ⟨w1.heap.size, 3, none⟩ = some (.int .i64 mr.p.key) := bx_cell bxwW 3 _ rfl
  have bxwc4 : (w8.alloc (.cells #[.int .i64 mr.j.key, .slice oh mr.j.l.length ch, .int .i64 mr.j.safe, .int .i64 mr.p.key, .slice obh mr.p.l.length cbh, .slice oRh mr.p.ring.length cRh, .slice oth mr.t.length cth] 33)).cell? ⟨w1.heap.size, 4, none⟩ = some (.slice obw mr.p.l.length cbw) := bx_cell bxwW 4 _ rfl
  have bxwc5 : (w8.alloc (.cells #[.int .i64 mr.j.key, .slice oh mr.j.l.length ch, .int .i64 mr.j.safe, .int .i64 mr.p.key, .slice obh mr.p.l.length cbh, .slice oRh mr.p.ring.length cRh, .slice oth mr.t.length cth] 33)).cell? ⟨w1.heap.size, 5, none⟩ = some (.slice oRw mr.p.ring.length cRw) := bx_cell bxwW 5 _ rfl
  have bxwc6 : (w8.alloc (.cells #[.int .i64 mr.j.key, .slice oh mr.j.l.length ch, .int .i64 mr.j.safe, .int .i64 mr.p.key, .slice obh mr.p.l.length cbh, .slice oRh mr.p.ring.length cRh, .slice oth mr.t.length cth] 33)).cell? ⟨w1.heap.size, 6, none⟩ = some (.slice otw mr.t.length ctw) := bx_cell bxwW 6 _ rfl
  clear bxwW
  have bxhc0 : (w8.alloc (.cells #[.int .i64 mr.j.key, .slice oh mr.j.l.length ch, .int .i64 mr.j.safe, .int .i64 mr.p.key, .slice obh mr.p.l.length cbh, .slice oRh mr.p.ring.length cRh, .slice oth mr.t.length cth] 33)).cell? ⟨w8.heap.size, 0, none⟩ = some (.int .i64 mr.j.key) := bx_cell bxh 0 _ rfl
  have bxhc1 : (w8.alloc (.cells #[.int .i64 mr.j.key, .slice oh mr.j.l.length ch, .int .i64 mr.j.safe, .int .i64 mr.p.key, .slice obh mr.p.l.length cbh, .slice oRh mr.p.ring.length cRh, .slice oth mr.t.length cth] 33)).cell? ⟨w8.heap.size, 1, none⟩ = some (.slice oh mr.j.l.length ch) := bx_cell bxh 1 _ rfl
  have bxhc2 : (w8.alloc (.cells #[.int .i64 mr.j.key, .slice oh mr.j.l.length ch, .int .i64 mr.j.safe, .int .i64 mr.p.key, .slice obh mr.p.l.length cbh, .slice oRh mr.p.ring.length cRh, .slice oth mr.t.length cth] 33)).cell? ⟨w8.heap.size, 2, none⟩ = some (.int .i64 mr.j.safe) := bx_cell bxh 2 _ rfl
  have bxhc3 : (w8.alloc (.cells #[.int .i64 mr.j.key, .slice oh mr.j.l.length ch, .int .i64 mr.j.safe, .int .i64 mr.p.key, .slice obh mr.p.l.length cbh, .slice oRh mr.p.ring.length cRh, .slice oth mr.t.length cth] 33)).cell? ⟨w8.heap.size, 3, none⟩ = some (.int .i64 mr.p.key) := bx_cell bxh 3 _ rfl
  have bxhc4 : (w8.alloc (.cells #[.int .i64 mr.j.key, .slice oh mr.j.l.length ch, .int .i64 mr.j.safe, .int .i64 mr.p.key, .slice obh mr.p.l.length cbh, .slice oRh mr.p.ring.length cRh, .slice oth mr.t.length cth] 33)).cell? ⟨w8.heap.size, 4, none⟩ = some (.slice obh mr.p.l.length cbh) := bx_cell bxh 4 _ rfl
  have bxhc5 : (w8.alloc (.cells #[.int .i64 mr.j.key, .slice oh mr.j.l.length ch, .int .i64 mr.j.safe, .int .i64 mr.p.key, .slice obh mr.p.l.length cbh, .slice oRh mr.p.ring.length cRh, .slice oth mr.t.length cth] 33)).cell? ⟨w8.heap.size, 5, none⟩ = some (.slice oRh mr.p.ring.length cRh) := bx_cell bxh 5 _ rfl
  have bxhc6 : (w8.alloc (.cells #[.int .i64 mr.j.key, .slice oh mr.j.l.length ch, .int .i64 mr.j.safe, .int .i64 mr.p.key, .slice obh mr.p.l.length cbh, .slice oRh mr.p.ring.length cRh, .slice oth mr.t.length cth] 33)).cell? ⟨w8.heap.size, 6, none⟩ = some (.slice oth mr.t.length cth) := bx_cell bxh 6 _ rfl
  have Hbxh := hide bxh
  have Hb_ := hide hb_w9
  clear bxh hb_w9
  have Hinw := hide inw
  clear inw
  have Hbxw := hide bxw
  clear bxw
  have Hing := hide ing
  clear ing
  have Hbxg := hide bxg
  clear bxg
  have Hinh := hide inh
  clear inh
  have HB_ := hide B_w8
  clear B_w8
  go_wp2_with fail
  clear bxwc0 bxwc1 bxwc2 bxwc3 bxwc4 bxwc5 bxwc6
  clear bxhc0 bxhc1 bxhc2 bxhc3 bxhc4 bxhc5 bxhc6
  have inw := Hinw.out
  clear Hinw
  have bxw := Hbxw.out
  clear Hbxw
  have ing := Hing.out
  clear Hing
  have bxg := Hbxg.out
  clear Hbxg
  have inh := Hinh.out
  clear Hinh
  have B_w8 := HB_.out
  clear HB_
  have bxh := Hbxh.out
  have hb_w9 := Hb_.out
  clear Hbxh Hb_
  generalize w8.alloc (.cells #[.int .i64 mr.j.key, .slice oh mr.j.l.length ch, .int .i64 mr.j.safe, .int .i64 mr.p.key, .slice obh mr.p.l.length cbh, .slice oRh mr.p.ring.length cRh, .slice oth mr.t.length cth] 33) = w9 at *
  replace inw := inw.step (Stp.of (lo := 0) (hi := 0) hb_w9) (.inl (Nat.zero_le _))
  replace bxw := (hb_w9.block _ (by omega)).trans bxw
  replace ing := ing.step (Stp.of (lo := 0) (hi := 0) hb_w9) (.inl (Nat.zero_le _))
  replace bxg := (hb_w9.block _ (by omega)).trans bxg
  replace inh := inh.step (Stp.of (lo := 0) (hi := 0) hb_w9) (.inl (Nat.zero_le _))
  have B_w9 : Below w.heap.size w w9 := B_w8.trans (hb_w9.mono B_w8.size)
  have hs_w9 : w8.heap.size ≤ w9.heap.size := hb_w9.size
  clear hb_w9 B_w8
  refine (eqBal_sh _ _ mr w9 (inh.rd.le (by omega)) (inw.rd.le (by omega)) hmr).mono ?_
  rintro e w10 ⟨rfl, hb_w10⟩
  replace inw := inw.step (Stp.of (lo := 0) (hi := 0) hb_w10) (.inl (Nat.zero_le _))
  replace bxw := (hb_w10.block _ (by omega)).trans bxw
  replace ing := ing.step (Stp.of (lo := 0) (hi := 0) hb_w10) (.inl (Nat.zero_le _))
  replace bxg := (hb_w10.block _ (by omega)).trans bxg
  replace inh := inh.step (Stp.of (lo := 0) (hi := 0) hb_w10) (.inl (Nat.zero_le _))
  replace bxh := (hb_w10.block _ (by omega)).trans bxh
  have B_w10 : Below w.heap.size w w10 := B_w9.trans (hb_w10.mono B_w9.size)
  have hs_w10 : w9.heap.size ≤ w10.heap.size := hb_w10.size
  clear hb_w10 B_w9
  clear inh
  clear bxh
  have bxgc0 : w10.cell? ⟨w3.heap.size, 0, none⟩ = some (.int .i64 mr.j.key) := bx_cell bxg 0 _ rfl
  have bxgc1 : w10.cell? ⟨w3.heap.size, 1, none⟩ = some (.slice og mr.j.l.length cg) := bx_cell bxg 1 _ rfl
  have bxgc2 : w10.cell? ⟨w3.heap.size, 2, none⟩ = some (.int .i64 mr.j.safe) := bx_cell bxg 2 _ rfl
  have bxgc3 : w10.cell? ⟨w3.heap.size, 3, none⟩ = some (.int .i64 mr.p.key) := bx_cell bxg 3 _ rfl
  have bxgc4 : w10.cell? ⟨w3.heap.size, 4, none⟩ = some (.slice obg mr.p.l.length cbg) := bx_cell bxg 4 _ rfl
  have bxgc5 : w10.cell? ⟨w3.heap.size, 5, none⟩ = some (.slice oRg mr.p.ring.length cRg) := bx_cell bxg 5 _ rfl
  have bxgc6 : w10.cell? ⟨w3.heap.size, 6, none⟩ = some (.slice otg mr.t.length ctg) := bx_cell bxg 6 _ rfl
  have Hinw := hide inw
  clear inw
  have Hbxw := hide bxw
  clear bxw
  have Hing := hide ing
  clear ing
  have Hbxg := hide bxg
  clear bxg
  have HB_ := hide B_w10
  clear B_w10
  go_wp2_with fail
  clear bxgc0 bxgc1 bxgc2 bxgc3 bxgc4 bxgc5 bxgc6
  have inw := Hinw.out
  clear Hinw
  have bxw := Hbxw.out
  clear Hbxw
  have ing := Hing.out
  clear Hing
  have bxg := Hbxg.out
  clear Hbxg
  have B_w10 := HB_.out
  clear HB_
  refine (heldBal_sh _ mr 1 w10 (ing.rd.le (by omega)) (by omega) (by omega) hmr).mono ?_
  rintro e w11 ⟨rfl, hb_w11⟩
  replace inw := inw.step (Stp.of (lo := 0) (hi := 0) hb_w11) (.inl (Nat.zero_le _))
  replace bxw := (hb_w11.block _ (by omega)).trans bxw
  replace ing := ing.step (Stp.of (lo := 0) (hi := 0) hb_w11) (.inl (Nat.zero_le _))
  replace bxg := (hb_w11.block _ (by omega)).trans bxg
  have B_w11 : Below w.heap.size w w11 := B_w10.trans (hb_w11.mono B_w10.size)
  have hs_w11 : w10.heap.size ≤ w11.heap.size := hb_w11.size
  clear hb_w11 B_w10
  have Hinw := hide inw
  clear inw
  have Hbxw := hide bxw
  clear bxw
  have Hing := hide ing
  clear ing
  have Hbxg := hide bxg
  clear bxg
  have HB_ := hide B_w11
  clear B_w11
  go_wp2
  go_ret
  exact ⟨rfl, HB_.out⟩

set_option maxRecDepth 100000 in
theorem fnExactBalNew_lifted (os : Os) (started : os.Started) (H : Type) (enc : TypeId × Value → H) :
    ReturnsInHanded {} Try.checked os 3 .any (Rows.fnExactBalNewSpec.pre6 enc Try.prog Try.f3 Rows.fnExactBalNewRow.domain false) (Rows.fnExactBalNewSpec.post enc Try.prog Try.f3 false true false false) := by
  refine returnsInHanded_of_change (C := Try.checked) own started (by kernel_rfl) Try.func3
    (ChangeSpec.witness6 (enc := enc) (C := Try.checked) false ⟨#[], #[.int .i64 0, .int .i64 0], []⟩ 8 (by kernel_rfl) (by kernel_rfl) (by kernel_rfl) (by kernel_rfl)) ?_
  intro W base args ds gs before hval0 hW hcnd _
  have hval : ∀ (j : Nat) t v, Try.f3.params[j]? = some t → args[j]? = some v → Value.okWide Try.prog W .any base t v := hval0
  have hW' := hW
  obtain ⟨p, q, hA0, hV, rfl, hfz, hnd⟩ := hW
  have hA : DataW.TrodAll enc Try.prog W 0 (fun _ => true) true Try.f3.params.toList args.toList ds p := hA0
  rw [Try.params3] at hA hval
  obtain ⟨v0, vs0, d0, ds0, p0, q0, hargs, rfl, rfl, h0, r0⟩ := trodAll_cons hA
  obtain ⟨v1, vs1, d1, ds1, p1, q1, rfl, rfl, rfl, h1, r1⟩ := trodAll_cons r0
  obtain ⟨rfl, rfl, rfl⟩ := trodAll_nil r1
  obtain rfl : args = #[v0, v1] := by cases args; simp_all
  obtain ⟨rfl, rfl⟩ := trodVars_none hV
  have k0 := h0
  have lt0 : ∀ x ∈ p0, x.block < W.heap.size := by obtain ⟨m, hm⟩ := k0; exact DataW.trod_lt m _ _ _ hm
  have k1 := h1
  have lt1 : ∀ x ∈ p1, x.block < W.heap.size := by obtain ⟨m, hm⟩ := k1; exact DataW.trod_lt m _ _ _ hm
  obtain ⟨a0, rfl, _, _, w0⟩ := open_int Try.underlying3 (hval 0 3 v0 rfl rfl) h0
  obtain ⟨a1, rfl, _, _, w1⟩ := open_int Try.underlying3 (hval 1 3 v1 rfl rfl) h1
  clear hA0 hval0
  refine (lawFnExactBalNew a0 a1 W   ).mono fun e W' ⟨he, bel⟩ => ?_
  subst he
  exact ⟨_, rfl, _, _, _, [], _, [], hW', trodAll_mk1 (shut_bool Try.underlying4 _), (trodAll_cons_mk (Below.trod laidOut (by kernel_rfl) (of_decide_eq_true (by kernel_rfl)) k0 bel lt0) (trodAll_cons_mk (Below.trod laidOut (by kernel_rfl) (of_decide_eq_true (by kernel_rfl)) k1 bel lt1) trodAll_mk0)), rfl, bel.frame _, fun h => by cases h⟩

theorem fnExactBalNew_over : Rows.fnExactBalNewRow.holds Try.pinned (OpenSpec.ofChange Rows.fnExactBalNewSpec) :=
  OpenClaim.holds_of_wide 3 Try.f3 rfl rfl rfl rfl rfl rfl rfl ⟨rfl, rfl, rfl, rfl, rfl⟩ rfl rfl rfl rfl rfl (by kernel_rfl) Try.func3 (by kernel_rfl)
    (of_decide_eq_true (by kernel_rfl)) (by unfold Func.isWrapper; first | (rw [if_pos (by decide +kernel)]; kernel_rfl) | (rw [if_neg (by decide +kernel)]; exact ⟨rfl, rfl⟩))
    (fun os started H enc _ => fnExactBalNew_lifted os started H enc)

theorem fnExactBalNew_holds : Rows.FnExactBalNewSaid := fnExactBalNew_over

end Go.Proofs.Ytfmnhdemhbbjlaa
