/- For every pool and command the law FnExactPoolDo answers true, and the pool reads as it did: impl.PoolDo answers as the model's, writes nothing into what it is handed, and its answer owns its memory. No conditions. -/
import Derived.Test.YtldjaapbkihibaaGrCutP
import Derived.Deep.RegionHeld3
import Derived.Deep.CutRange
namespace Go.Proofs.Ytldjaapbkihibaa
open Go.ChangeShapes Go.WideShapes Go.ChangeAt Go.RowKit Go.Joins
set_option linter.unusedVariables false
set_option linter.unusedSimpArgs false

set_option maxRecDepth 100000 in
set_option maxHeartbeats 32000000 in
theorem lawFnExactPoolDo (v : Value) (m : Pm) (k i g : Int) (w : World) (hR : RdPm w.heap.size w v m) (hl : lenPm m) :
    Calls Try.prog 9 #[v, cmd k i g] w fun e w' => e = .returned (.bool true) ∧ Below w.heap.size w w' := by
  obtain ⟨oa, ca, oRa, cRa, eva⟩ := hR.opn
  subst eva
  obtain ⟨w0, hw0⟩ : ∃ W, ((w.alloc (.cells #[.int .i64 m.key, .slice oa m.l.length ca, .slice oRa m.ring.length cRa] 66)).alloc (.cells #[.int .i64 k, .int .i64 i, .int .i64 g] 73)) = W := ⟨_, rfl⟩
  have B_w0 : Below w.heap.size w w0 := by rw [← hw0]; exact ((Below.refl _ _).alloc (Nat.le_refl _) _).alloc (by simp) _
  have bxa : w0.heap[w.heap.size]? = some (.cells #[.int .i64 m.key, .slice oa m.l.length ca, .slice oRa m.ring.length cRa] 66 (0, 0)) := by rw [← hw0]; exact box_old2 w _ _ _
  have bxc : w0.heap[w.heap.size + 1]? = some (.cells #[.int .i64 k, .int .i64 i, .int .i64 g] 73 (0, 0)) := by rw [← hw0]; exact box_new2 w _ _ _
  have hz_w0 : w.heap.size + 1 < w0.heap.size := by rw [← hw0]; simp
  have bxac0 : w0.cell? ⟨w.heap.size, 0, none⟩ = some (.int .i64 m.key) := block_cellD bxa 0 _ rfl
  have bxac1 : w0.cell? ⟨w.heap.size, 1, none⟩ = some (.slice oa m.l.length ca) := block_cellD bxa 1 _ rfl
  have bxac2 : w0.cell? ⟨w.heap.size, 2, none⟩ = some (.slice oRa m.ring.length cRa) := block_cellD bxa 2 _ rfl
  have bxcc0 : w0.cell? ⟨w.heap.size + 1, 0, none⟩ = some (.int .i64 k) := block_cellD bxc 0 _ rfl
  have bxcc1 : w0.cell? ⟨w.heap.size + 1, 1, none⟩ = some (.int .i64 i) := block_cellD bxc 1 _ rfl
  have bxcc2 : w0.cell? ⟨w.heap.size + 1, 2, none⟩ = some (.int .i64 g) := block_cellD bxc 2 _ rfl
  have HR := hide hR
  clear hR
  have Hbxa := hide bxa
  clear bxa
  have Hbxc := hide bxc
  clear bxc
  have HB_ := hide B_w0
  clear B_w0
  go_enter Try.func9, Try.ntmps9
  go_wp2_with fail
  clear bxac0 bxac1 bxac2
  clear bxcc0 bxcc1 bxcc2
  have bxa := Hbxa.out
  clear Hbxa
  have bxc := Hbxc.out
  clear Hbxc
  have B_w0 := HB_.out
  clear HB_
  have hR := HR.out
  clear HR hw0
  refine (szPool_sh _ m w0 ((hR.kept B_w0 (Nat.le_refl _)).le B_w0.size) hl).mono ?_
  rintro e w1 ⟨⟨zz, rfl, hz⟩, hb_w1⟩
  replace bxa := (hb_w1.block _ (by omega)).trans bxa
  replace bxc := (hb_w1.block _ (by omega)).trans bxc
  have B_w1 : Below w.heap.size w w1 := B_w0.trans (hb_w1.mono B_w0.size)
  have hs_w1 : w0.heap.size ≤ w1.heap.size := hb_w1.size
  clear hb_w1 B_w0
  rcases hz with ⟨hz1, hz2⟩ | ⟨hz1, hz2, hf⟩
  · have Hbxa := hide bxa
    clear bxa
    have Hbxc := hide bxc
    clear bxc
    have HB_ := hide B_w1
    clear B_w1
    go_wp2
    go_ret
    exact ⟨rfl, HB_.out⟩
  · have HS := hide (fun v w h => specPoolDo_sh v m k i g w h hf)
    have HI := hide (fun v w h => implPoolDo_sh v m k i g w h hf)
    have hmr := pdo_fit k i g hf
    generalize pdoM m k i g = mr at *
    generalize pdoF m k i g = t at *
    have bxac0 : w1.cell? ⟨w.heap.size, 0, none⟩ = some (.int .i64 m.key) := block_cellD bxa 0 _ rfl
    have bxac1 : w1.cell? ⟨w.heap.size, 1, none⟩ = some (.slice oa m.l.length ca) := block_cellD bxa 1 _ rfl
    have bxac2 : w1.cell? ⟨w.heap.size, 2, none⟩ = some (.slice oRa m.ring.length cRa) := block_cellD bxa 2 _ rfl
    have bxcc0 : w1.cell? ⟨w.heap.size + 1, 0, none⟩ = some (.int .i64 k) := block_cellD bxc 0 _ rfl
    have bxcc1 : w1.cell? ⟨w.heap.size + 1, 1, none⟩ = some (.int .i64 i) := block_cellD bxc 1 _ rfl
    have bxcc2 : w1.cell? ⟨w.heap.size + 1, 2, none⟩ = some (.int .i64 g) := block_cellD bxc 2 _ rfl
    have Hbxa := hide bxa
    clear bxa
    have Hbxc := hide bxc
    clear bxc
    have HB_ := hide B_w1
    clear B_w1
    go_upto_region 5 with fail
    go_cut [6, 7] from 21 to 28 (fun s6 s7 wx => ∃ B lo hi ow cw oRw cRw, s6 = .pointer (some ⟨B, 0, none⟩) ∧ s7 = .bool t ∧ Hid (wx.heap[B]? = some (.cells #[.int .i64 mr.key, .slice ow mr.l.length cw, .slice oRw mr.ring.length cRw] 26 (0, 0))) ∧ Hid (Below w1.heap.size w1 wx) ∧ w1.heap.size ≤ B ∧ B < wx.heap.size ∧ Hid (RiPm lo hi wx (plv mr.key (.slice ow mr.l.length cw) (.slice oRw mr.ring.length cRw)) mr) ∧ w1.heap.size ≤ lo ∧ hi ≤ wx.heap.size ∧ (B < lo ∨ hi ≤ B))
    case first =>
      have hk_bxa : w.heap.size < w1.heap.size := by omega
      have hk_bxc : w.heap.size + 1 < w1.heap.size := by omega
      go_region_held3 (fun w' => w'.cell? ⟨w.heap.size, 0, none⟩ = some (.int .i64 m.key) ∧ w'.cell? ⟨w.heap.size, 1, none⟩ = some (.slice oa m.l.length ca) ∧ w'.cell? ⟨w.heap.size, 2, none⟩ = some (.slice oRa m.ring.length cRa) ∧ w'.cell? ⟨w.heap.size + 1, 0, none⟩ = some (.int .i64 k) ∧ w'.cell? ⟨w.heap.size + 1, 1, none⟩ = some (.int .i64 i) ∧ w'.cell? ⟨w.heap.size + 1, 2, none⟩ = some (.int .i64 g)) (first | with_reducible exact ⟨k2_0, k2_1, k2_2, k2_3, k2_4, k2_5⟩ | with_reducible exact ⟨k1_0, k1_1, k1_2, k1_3, k1_4, k1_5⟩ | with_reducible exact ⟨k0_0, k0_1, k0_2, k0_3, k0_4, k0_5⟩ | with_reducible exact ⟨bxac0, bxac1, bxac2, bxcc0, bxcc1, bxcc2⟩ | with_reducible exact ⟨setP_cell k2_0 (show w.heap.size < w1.heap.size by omega), setP_cell k2_1 (show w.heap.size < w1.heap.size by omega), setP_cell k2_2 (show w.heap.size < w1.heap.size by omega), setP_cell k2_3 (show w.heap.size + 1 < w1.heap.size by omega), setP_cell k2_4 (show w.heap.size + 1 < w1.heap.size by omega), setP_cell k2_5 (show w.heap.size + 1 < w1.heap.size by omega)⟩ | with_reducible exact ⟨setP_cell k2_0 (show w.heap.size < x0.heap.size by omega), setP_cell k2_1 (show w.heap.size < x0.heap.size by omega), setP_cell k2_2 (show w.heap.size < x0.heap.size by omega), setP_cell k2_3 (show w.heap.size + 1 < x0.heap.size by omega), setP_cell k2_4 (show w.heap.size + 1 < x0.heap.size by omega), setP_cell k2_5 (show w.heap.size + 1 < x0.heap.size by omega)⟩ | with_reducible exact ⟨setP_cell k2_0 (show w.heap.size < x1.heap.size by omega), setP_cell k2_1 (show w.heap.size < x1.heap.size by omega), setP_cell k2_2 (show w.heap.size < x1.heap.size by omega), setP_cell k2_3 (show w.heap.size + 1 < x1.heap.size by omega), setP_cell k2_4 (show w.heap.size + 1 < x1.heap.size by omega), setP_cell k2_5 (show w.heap.size + 1 < x1.heap.size by omega)⟩ | go_keep) (first | (go_at_call 35; have hc_ := toPool_sh _ m w1.drew ((hR.kept (Below.drew HB_.out) (Nat.le_refl _)).le HB_.out.size) hf; with_reducible refine hc_.mono ?_; clear hc_; rintro e x0 ⟨v2, rfl, in2, hb⟩; have hp0 : Below w1.heap.size w1 x0 := Below.trans (show Below w1.heap.size w1 w1.drew from (Below.drew (Below.refl _ _))) (hb.mono (by simp)); have sp0 : w1.heap.size ≤ x0.heap.size := hp0.size; have hx0 : Below w1.heap.size w1 x0 := hp0; have k0_0 := (hx0.cell (p := ⟨w.heap.size, 0, none⟩) hk_bxa).trans bxac0; have k0_1 := (hx0.cell (p := ⟨w.heap.size, 1, none⟩) hk_bxa).trans bxac1; have k0_2 := (hx0.cell (p := ⟨w.heap.size, 2, none⟩) hk_bxa).trans bxac2; have k0_3 := (hx0.cell (p := ⟨w.heap.size + 1, 0, none⟩) hk_bxc).trans bxcc0; have k0_4 := (hx0.cell (p := ⟨w.heap.size + 1, 1, none⟩) hk_bxc).trans bxcc1; have k0_5 := (hx0.cell (p := ⟨w.heap.size + 1, 2, none⟩) hk_bxc).trans bxcc2; (try have hzl0_0 := (Array.getElem?_eq_some_iff.1 hZ0_0).1); have rda := in2.rc; clear hb) | (go_at_call 35; have hc_ := toPool_sh _ m (w1.alloc (.cells #[.int .i64 0, .slice none 0 0, .slice none 0 0] 26)).drew ((hR.kept (Below.drew (HB_.out.alloc HB_.out.size _)) (Nat.le_refl _)).le (Nat.le_trans HB_.out.size (by simp))) hf; with_reducible refine hc_.mono ?_; clear hc_; rintro e x0 ⟨v2, rfl, in2, hb⟩; have hp0 : Below w1.heap.size w1 x0 := Below.trans (show Below w1.heap.size w1 (w1.alloc (.cells #[.int .i64 0, .slice none 0 0, .slice none 0 0] 26)).drew from (Below.drew ((Below.refl _ _).alloc (Nat.le_refl _) _))) (hb.mono (by simp)); have sp0 : w1.heap.size ≤ x0.heap.size := hp0.size; have hx0 : Below w1.heap.size w1 x0 := hp0; have k0_0 := (hx0.cell (p := ⟨w.heap.size, 0, none⟩) hk_bxa).trans bxac0; have k0_1 := (hx0.cell (p := ⟨w.heap.size, 1, none⟩) hk_bxa).trans bxac1; have k0_2 := (hx0.cell (p := ⟨w.heap.size, 2, none⟩) hk_bxa).trans bxac2; have k0_3 := (hx0.cell (p := ⟨w.heap.size + 1, 0, none⟩) hk_bxc).trans bxcc0; have k0_4 := (hx0.cell (p := ⟨w.heap.size + 1, 1, none⟩) hk_bxc).trans bxcc1; have k0_5 := (hx0.cell (p := ⟨w.heap.size + 1, 2, none⟩) hk_bxc).trans bxcc2; have hZ0_0 : x0.heap[w1.heap.size]? = some (.cells #[.int .i64 0, .slice none 0 0, .slice none 0 0] 26 (0, 0)) := (box_newA hb); (try have hzl0_0 := (Array.getElem?_eq_some_iff.1 hZ0_0).1); have rda := in2.rc; clear hb) | (go_at_call 42; have hc_ := toPoolCmd_any k i g x0; with_reducible refine hc_.mono ?_; clear hc_; rintro e x1 ⟨rfl, hb⟩; have hp1 : Below x0.heap.size x0 x1 := hb; have sp1 : x0.heap.size ≤ x1.heap.size := hp1.size; have hx1 : Below w1.heap.size w1 x1 := hx0.trans (hp1.mono hx0.size); have k1_0 := (hx1.cell (p := ⟨w.heap.size, 0, none⟩) hk_bxa).trans bxac0; have k1_1 := (hx1.cell (p := ⟨w.heap.size, 1, none⟩) hk_bxa).trans bxac1; have k1_2 := (hx1.cell (p := ⟨w.heap.size, 2, none⟩) hk_bxa).trans bxac2; have k1_3 := (hx1.cell (p := ⟨w.heap.size + 1, 0, none⟩) hk_bxc).trans bxcc0; have k1_4 := (hx1.cell (p := ⟨w.heap.size + 1, 1, none⟩) hk_bxc).trans bxcc1; have k1_5 := (hx1.cell (p := ⟨w.heap.size + 1, 2, none⟩) hk_bxc).trans bxcc2; (try have hZ1_0 : x1.heap[w1.heap.size]? = some (.cells #[.int .i64 0, .slice none 0 0, .slice none 0 0] 26 (0, 0)) := (hp1.block _ (Array.getElem?_eq_some_iff.1 hZ0_0).1).trans hZ0_0); (try have hzl1_0 := (Array.getElem?_eq_some_iff.1 hZ1_0).1); (try have hzl1_1 := (Array.getElem?_eq_some_iff.1 hZ1_1).1); have rdb := rda.kept hp1 (Nat.le_refl _); clear hb) | (go_at_call 42; have hc_ := toPoolCmd_any k i g (x0.alloc (.cells #[.int .i64 0, .slice none 0 0, .slice none 0 0] 26)); with_reducible refine hc_.mono ?_; clear hc_; rintro e x1 ⟨rfl, hb⟩; have hp1 : Below x0.heap.size x0 x1 := Below.trans (show Below x0.heap.size x0 (x0.alloc (.cells #[.int .i64 0, .slice none 0 0, .slice none 0 0] 26)) from ((Below.refl _ _).alloc (Nat.le_refl _) _)) (hb.mono (by simp)); have sp1 : x0.heap.size ≤ x1.heap.size := hp1.size; have hx1 : Below w1.heap.size w1 x1 := hx0.trans (hp1.mono hx0.size); have k1_0 := (hx1.cell (p := ⟨w.heap.size, 0, none⟩) hk_bxa).trans bxac0; have k1_1 := (hx1.cell (p := ⟨w.heap.size, 1, none⟩) hk_bxa).trans bxac1; have k1_2 := (hx1.cell (p := ⟨w.heap.size, 2, none⟩) hk_bxa).trans bxac2; have k1_3 := (hx1.cell (p := ⟨w.heap.size + 1, 0, none⟩) hk_bxc).trans bxcc0; have k1_4 := (hx1.cell (p := ⟨w.heap.size + 1, 1, none⟩) hk_bxc).trans bxcc1; have k1_5 := (hx1.cell (p := ⟨w.heap.size + 1, 2, none⟩) hk_bxc).trans bxcc2; (try have hZ1_0 : x1.heap[w1.heap.size]? = some (.cells #[.int .i64 0, .slice none 0 0, .slice none 0 0] 26 (0, 0)) := (hp1.block _ (Array.getElem?_eq_some_iff.1 hZ0_0).1).trans hZ0_0); have hZ1_1 : x1.heap[x0.heap.size]? = some (.cells #[.int .i64 0, .slice none 0 0, .slice none 0 0] 26 (0, 0)) := (box_newD hb); (try have hzl1_0 := (Array.getElem?_eq_some_iff.1 hZ1_0).1); (try have hzl1_1 := (Array.getElem?_eq_some_iff.1 hZ1_1).1); have rdb := rda.kept hp1 (Nat.le_refl _); clear hb) | (go_at_call 41; have hc_ := HS.out _ x1 (rdb.le (by omega)); with_reducible refine hc_.mono ?_; clear hc_; rintro e x2 ⟨vw, rfl, inw, hb⟩; have hp2 : Below x1.heap.size x1 x2 := hb; have sp2 : x1.heap.size ≤ x2.heap.size := hp2.size; have hx2 : Below w1.heap.size w1 x2 := hx1.trans (hp2.mono hx1.size); have k2_0 := (hx2.cell (p := ⟨w.heap.size, 0, none⟩) hk_bxa).trans bxac0; have k2_1 := (hx2.cell (p := ⟨w.heap.size, 1, none⟩) hk_bxa).trans bxac1; have k2_2 := (hx2.cell (p := ⟨w.heap.size, 2, none⟩) hk_bxa).trans bxac2; have k2_3 := (hx2.cell (p := ⟨w.heap.size + 1, 0, none⟩) hk_bxc).trans bxcc0; have k2_4 := (hx2.cell (p := ⟨w.heap.size + 1, 1, none⟩) hk_bxc).trans bxcc1; have k2_5 := (hx2.cell (p := ⟨w.heap.size + 1, 2, none⟩) hk_bxc).trans bxcc2; (try have hZ2_0 : x2.heap[w1.heap.size]? = some (.cells #[.int .i64 0, .slice none 0 0, .slice none 0 0] 26 (0, 0)) := (hp2.block _ (Array.getElem?_eq_some_iff.1 hZ1_0).1).trans hZ1_0); (try have hZ2_1 : x2.heap[x0.heap.size]? = some (.cells #[.int .i64 0, .slice none 0 0, .slice none 0 0] 26 (0, 0)) := (hp2.block _ (Array.getElem?_eq_some_iff.1 hZ1_1).1).trans hZ1_1); (try have hzl2_0 := (Array.getElem?_eq_some_iff.1 hZ2_0).1); (try have hzl2_1 := (Array.getElem?_eq_some_iff.1 hZ2_1).1); (try have hzl2_2 := (Array.getElem?_eq_some_iff.1 hZ2_2).1); obtain ⟨ow, cw, oRw, cRw, hve⟩ := inw.opn; subst hve; (try have hzc0_0 : x2.cell? ⟨w1.heap.size, 0, none⟩ = some (.int .i64 0) := block_cellD hZ2_0 0 _ rfl); (try have hzf0_0 := bx_frozen hZ2_0 0); (try have hzc0_1 : x2.cell? ⟨w1.heap.size, 1, none⟩ = some (.slice none 0 0) := block_cellD hZ2_0 1 _ rfl); (try have hzf0_1 := bx_frozen hZ2_0 1); (try have hzc0_2 : x2.cell? ⟨w1.heap.size, 2, none⟩ = some (.slice none 0 0) := block_cellD hZ2_0 2 _ rfl); (try have hzf0_2 := bx_frozen hZ2_0 2); (try have hzc1_0 : x2.cell? ⟨x0.heap.size, 0, none⟩ = some (.int .i64 0) := block_cellD hZ2_1 0 _ rfl); (try have hzf1_0 := bx_frozen hZ2_1 0); (try have hzc1_1 : x2.cell? ⟨x0.heap.size, 1, none⟩ = some (.slice none 0 0) := block_cellD hZ2_1 1 _ rfl); (try have hzf1_1 := bx_frozen hZ2_1 1); (try have hzc1_2 : x2.cell? ⟨x0.heap.size, 2, none⟩ = some (.slice none 0 0) := block_cellD hZ2_1 2 _ rfl); (try have hzf1_2 := bx_frozen hZ2_1 2); (try have hzc2_0 : x2.cell? ⟨x1.heap.size, 0, none⟩ = some (.int .i64 0) := block_cellD hZ2_2 0 _ rfl); (try have hzf2_0 := bx_frozen hZ2_2 0); (try have hzc2_1 : x2.cell? ⟨x1.heap.size, 1, none⟩ = some (.slice none 0 0) := block_cellD hZ2_2 1 _ rfl); (try have hzf2_1 := bx_frozen hZ2_2 1); (try have hzc2_2 : x2.cell? ⟨x1.heap.size, 2, none⟩ = some (.slice none 0 0) := block_cellD hZ2_2 2 _ rfl); (try have hzf2_2 := bx_frozen hZ2_2 2); clear hb) | (go_at_call 41; have hc_ := HS.out _ (x1.alloc (.cells #[.int .i64 0, .slice none 0 0, .slice none 0 0] 26)) (((rdb.le (show x0.heap.size ≤ x1.heap.size by omega)).kept ((Below.refl _ _).alloc (Nat.le_refl _) _) (Nat.le_refl _)).le (by simp)); with_reducible refine hc_.mono ?_; clear hc_; rintro e x2 ⟨vw, rfl, inw, hb⟩; have hp2 : Below x1.heap.size x1 x2 := Below.trans (show Below x1.heap.size x1 (x1.alloc (.cells #[.int .i64 0, .slice none 0 0, .slice none 0 0] 26)) from ((Below.refl _ _).alloc (Nat.le_refl _) _)) (hb.mono (by simp)); have sp2 : x1.heap.size ≤ x2.heap.size := hp2.size; have hx2 : Below w1.heap.size w1 x2 := hx1.trans (hp2.mono hx1.size); have k2_0 := (hx2.cell (p := ⟨w.heap.size, 0, none⟩) hk_bxa).trans bxac0; have k2_1 := (hx2.cell (p := ⟨w.heap.size, 1, none⟩) hk_bxa).trans bxac1; have k2_2 := (hx2.cell (p := ⟨w.heap.size, 2, none⟩) hk_bxa).trans bxac2; have k2_3 := (hx2.cell (p := ⟨w.heap.size + 1, 0, none⟩) hk_bxc).trans bxcc0; have k2_4 := (hx2.cell (p := ⟨w.heap.size + 1, 1, none⟩) hk_bxc).trans bxcc1; have k2_5 := (hx2.cell (p := ⟨w.heap.size + 1, 2, none⟩) hk_bxc).trans bxcc2; (try have hZ2_0 : x2.heap[w1.heap.size]? = some (.cells #[.int .i64 0, .slice none 0 0, .slice none 0 0] 26 (0, 0)) := (hp2.block _ (Array.getElem?_eq_some_iff.1 hZ1_0).1).trans hZ1_0); (try have hZ2_1 : x2.heap[x0.heap.size]? = some (.cells #[.int .i64 0, .slice none 0 0, .slice none 0 0] 26 (0, 0)) := (hp2.block _ (Array.getElem?_eq_some_iff.1 hZ1_1).1).trans hZ1_1); have hZ2_2 : x2.heap[x1.heap.size]? = some (.cells #[.int .i64 0, .slice none 0 0, .slice none 0 0] 26 (0, 0)) := (box_newD hb); (try have hzl2_0 := (Array.getElem?_eq_some_iff.1 hZ2_0).1); (try have hzl2_1 := (Array.getElem?_eq_some_iff.1 hZ2_1).1); (try have hzl2_2 := (Array.getElem?_eq_some_iff.1 hZ2_2).1); obtain ⟨ow, cw, oRw, cRw, hve⟩ := inw.opn; subst hve; (try have hzc0_0 : x2.cell? ⟨w1.heap.size, 0, none⟩ = some (.int .i64 0) := block_cellD hZ2_0 0 _ rfl); (try have hzf0_0 := bx_frozen hZ2_0 0); (try have hzc0_1 : x2.cell? ⟨w1.heap.size, 1, none⟩ = some (.slice none 0 0) := block_cellD hZ2_0 1 _ rfl); (try have hzf0_1 := bx_frozen hZ2_0 1); (try have hzc0_2 : x2.cell? ⟨w1.heap.size, 2, none⟩ = some (.slice none 0 0) := block_cellD hZ2_0 2 _ rfl); (try have hzf0_2 := bx_frozen hZ2_0 2); (try have hzc1_0 : x2.cell? ⟨x0.heap.size, 0, none⟩ = some (.int .i64 0) := block_cellD hZ2_1 0 _ rfl); (try have hzf1_0 := bx_frozen hZ2_1 0); (try have hzc1_1 : x2.cell? ⟨x0.heap.size, 1, none⟩ = some (.slice none 0 0) := block_cellD hZ2_1 1 _ rfl); (try have hzf1_1 := bx_frozen hZ2_1 1); (try have hzc1_2 : x2.cell? ⟨x0.heap.size, 2, none⟩ = some (.slice none 0 0) := block_cellD hZ2_1 2 _ rfl); (try have hzf1_2 := bx_frozen hZ2_1 2); (try have hzc2_0 : x2.cell? ⟨x1.heap.size, 0, none⟩ = some (.int .i64 0) := block_cellD hZ2_2 0 _ rfl); (try have hzf2_0 := bx_frozen hZ2_2 0); (try have hzc2_1 : x2.cell? ⟨x1.heap.size, 1, none⟩ = some (.slice none 0 0) := block_cellD hZ2_2 1 _ rfl); (try have hzf2_1 := bx_frozen hZ2_2 1); (try have hzc2_2 : x2.cell? ⟨x1.heap.size, 2, none⟩ = some (.slice none 0 0) := block_cellD hZ2_2 2 _ rfl); (try have hzf2_2 := bx_frozen hZ2_2 2); clear hb))
      all_goals (go_wp2_with fail; go_meet)
      all_goals first
        | with_reducible exact finD RiPm.stps hZ2_0 hx2 (by omega) inw (by (try simp) <;> omega) (Nat.le_refl _) (by (try simp) <;> omega)
        | with_reducible exact finD RiPm.stps hZ2_1 hx2 (by omega) inw (by (try simp) <;> omega) (Nat.le_refl _) (by (try simp) <;> omega)
        | with_reducible exact finD RiPm.stps hZ2_2 hx2 (by omega) inw (by (try simp) <;> omega) (Nat.le_refl _) (by (try simp) <;> omega)
        | with_reducible exact finDn RiPm.stps hx2 inw (by (try simp) <;> omega) (Nat.le_refl _)
    case rest =>
    obtain ⟨Bw, low, hiw, ow, cw, oRw, cRw, rfl, rfl, Hbx_, Hbl_, hB1_w, hB2_w, Hin_, hl1_w, hl2_w, hl3_w⟩ := hcut
    have bxw := Hbx_.out
    have hbl_ := Hbl_.out
    clear Hbx_ Hbl_
    have inw := Hin_.out
    clear Hin_
    clear bxac0 bxac1 bxac2
    clear bxcc0 bxcc1 bxcc2
    have bxa := Hbxa.out
    clear Hbxa
    have bxc := Hbxc.out
    clear Hbxc
    have B_w1 := HB_.out
    clear HB_
    obtain ⟨w2, hwc⟩ : ∃ W, W = wc := ⟨_, rfl⟩
    subst hwc
    replace bxa := (hbl_.block _ (by omega)).trans bxa
    replace bxc := (hbl_.block _ (by omega)).trans bxc
    have B_w2 : Below w.heap.size w w2 := B_w1.trans (hbl_.mono B_w1.size)
    have hs_w2 : w1.heap.size ≤ w2.heap.size := hbl_.size
    clear hbl_ B_w1
    have bxac0 : w2.cell? ⟨w.heap.size, 0, none⟩ = some (.int .i64 m.key) := block_cellD bxa 0 _ rfl
    have bxac1 : w2.cell? ⟨w.heap.size, 1, none⟩ = some (.slice oa m.l.length ca) := block_cellD bxa 1 _ rfl
    have bxac2 : w2.cell? ⟨w.heap.size, 2, none⟩ = some (.slice oRa m.ring.length cRa) := block_cellD bxa 2 _ rfl
    have Hbxa := hide bxa
    clear bxa
    have Hbxc := hide bxc
    clear bxc
    have Hbxw := hide bxw
    clear bxw
    have Hinw := hide inw
    clear inw
    have HB_ := hide B_w2
    clear B_w2
    go_wp2_with fail
    clear bxac0 bxac1 bxac2
    have bxa := Hbxa.out
    clear Hbxa
    have bxc := Hbxc.out
    clear Hbxc
    have bxw := Hbxw.out
    clear Hbxw
    have inw := Hinw.out
    clear Hinw
    have B_w2 := HB_.out
    clear HB_
    refine (toPool_sh _ m w2 ((hR.kept B_w2 (Nat.le_refl _)).le B_w2.size) hf).mono ?_
    rintro e w3 ⟨vx, rfl, inx, hb_w3⟩
    replace bxa := (hb_w3.block _ (by omega)).trans bxa
    replace bxc := (hb_w3.block _ (by omega)).trans bxc
    replace bxw := (hb_w3.block _ (by omega)).trans bxw
    replace inw := inw.step (Stp.of (lo := 0) (hi := 0) hb_w3) (.inl (Nat.zero_le _))
    have B_w3 : Below w.heap.size w w3 := B_w2.trans (hb_w3.mono B_w2.size)
    have hs_w3 : w2.heap.size ≤ w3.heap.size := hb_w3.size
    clear hb_w3 B_w2
    obtain ⟨ox, cx, oRx, cRx, evx⟩ := inx.rd.opn
    subst evx
    obtain ⟨w4, hW_w4⟩ : ∃ W, w3.alloc (.cells #[.int .i64 m.key, .slice ox m.l.length cx, .slice oRx m.ring.length cRx] 26) = W := ⟨_, rfl⟩
    have bxx : w4.heap[w3.heap.size]? = some (.cells #[.int .i64 m.key, .slice ox m.l.length cx, .slice oRx m.ring.length cRx] 26 (0, 0)) := by rw [← hW_w4]; exact World.alloc_heap_new w3 _
    have hb_w4 : Below w3.heap.size w3 w4 := by rw [← hW_w4]; exact (Below.refl _ _).alloc (Nat.le_refl _) _
    have hz_w4 : w3.heap.size < w4.heap.size := by rw [← hW_w4]; simp
    replace bxa := (hb_w4.block _ (by omega)).trans bxa
    replace bxc := (hb_w4.block _ (by omega)).trans bxc
    replace bxw := (hb_w4.block _ (by omega)).trans bxw
    replace inw := inw.step (Stp.of (lo := 0) (hi := 0) hb_w4) (.inl (Nat.zero_le _))
    replace inx := inx.step (Stp.of (lo := 0) (hi := 0) hb_w4) (.inl (Nat.zero_le _))
    have B_w4 : Below w.heap.size w w4 := B_w3.trans (hb_w4.mono B_w3.size)
    have hs_w4 : w3.heap.size ≤ w4.heap.size := hb_w4.size
    clear hb_w4 B_w3
    have bxxc0 : w4.cell? ⟨w3.heap.size, 0, none⟩ = some (.int .i64 m.key) := block_cellD bxx 0 _ rfl
    have bxxc1 : w4.cell? ⟨w3.heap.size, 1, none⟩ = some (.slice ox m.l.length cx) := block_cellD bxx 1 _ rfl
    have bxxc2 : w4.cell? ⟨w3.heap.size, 2, none⟩ = some (.slice oRx m.ring.length cRx) := block_cellD bxx 2 _ rfl
    have bxcc0 : w4.cell? ⟨w.heap.size + 1, 0, none⟩ = some (.int .i64 k) := block_cellD bxc 0 _ rfl
    have bxcc1 : w4.cell? ⟨w.heap.size + 1, 1, none⟩ = some (.int .i64 i) := block_cellD bxc 1 _ rfl
    have bxcc2 : w4.cell? ⟨w.heap.size + 1, 2, none⟩ = some (.int .i64 g) := block_cellD bxc 2 _ rfl
    have Hbxa := hide bxa
    clear bxa
    have Hbxc := hide bxc
    clear bxc
    have Hbxw := hide bxw
    clear bxw
    have Hinw := hide inw
    clear inw
    have Hinx := hide inx
    clear inx
    have Hbxx := hide bxx
    clear bxx
    have HB_ := hide B_w4
    clear B_w4
    go_upto_region 7 with fail
    go_cut [9, 10] from 31 to 37 (fun s9 s10 wx => ∃ B lo hi og cg oRg cRg, s9 = .pointer (some ⟨B, 0, none⟩) ∧ s10 = .bool t ∧ Hid (wx.heap[B]? = some (.cells #[.int .i64 mr.key, .slice og mr.l.length cg, .slice oRg mr.ring.length cRg] 26 (0, 0))) ∧ Hid (Below w4.heap.size w4 wx) ∧ w4.heap.size ≤ B ∧ B < wx.heap.size ∧ Hid (InPm lo hi wx (plv mr.key (.slice og mr.l.length cg) (.slice oRg mr.ring.length cRg)) mr) ∧ w4.heap.size ≤ lo ∧ hi ≤ wx.heap.size ∧ (B < lo ∨ hi ≤ B))
    case first =>
      have hk_bxx : w3.heap.size < w4.heap.size := by omega
      have hk_bxc : w.heap.size + 1 < w4.heap.size := by omega
      go_region_held3 (fun w' => w'.cell? ⟨w3.heap.size, 0, none⟩ = some (.int .i64 m.key) ∧ w'.cell? ⟨w3.heap.size, 1, none⟩ = some (.slice ox m.l.length cx) ∧ w'.cell? ⟨w3.heap.size, 2, none⟩ = some (.slice oRx m.ring.length cRx) ∧ w'.cell? ⟨w.heap.size + 1, 0, none⟩ = some (.int .i64 k) ∧ w'.cell? ⟨w.heap.size + 1, 1, none⟩ = some (.int .i64 i) ∧ w'.cell? ⟨w.heap.size + 1, 2, none⟩ = some (.int .i64 g)) (first | with_reducible exact ⟨k1_0, k1_1, k1_2, k1_3, k1_4, k1_5⟩ | with_reducible exact ⟨k0_0, k0_1, k0_2, k0_3, k0_4, k0_5⟩ | with_reducible exact ⟨bxxc0, bxxc1, bxxc2, bxcc0, bxcc1, bxcc2⟩ | with_reducible exact ⟨setP_cell k1_0 (show w3.heap.size < w4.heap.size by omega), setP_cell k1_1 (show w3.heap.size < w4.heap.size by omega), setP_cell k1_2 (show w3.heap.size < w4.heap.size by omega), setP_cell k1_3 (show w.heap.size + 1 < w4.heap.size by omega), setP_cell k1_4 (show w.heap.size + 1 < w4.heap.size by omega), setP_cell k1_5 (show w.heap.size + 1 < w4.heap.size by omega)⟩ | with_reducible exact ⟨setP_cell k1_0 (show w3.heap.size < x0.heap.size by omega), setP_cell k1_1 (show w3.heap.size < x0.heap.size by omega), setP_cell k1_2 (show w3.heap.size < x0.heap.size by omega), setP_cell k1_3 (show w.heap.size + 1 < x0.heap.size by omega), setP_cell k1_4 (show w.heap.size + 1 < x0.heap.size by omega), setP_cell k1_5 (show w.heap.size + 1 < x0.heap.size by omega)⟩ | go_keep) (first | (go_at_call 42; have hc_ := toPoolCmd_any k i g w4.drew; with_reducible refine hc_.mono ?_; clear hc_; rintro e x0 ⟨rfl, hb⟩; have hp0 : Below w4.heap.size w4 x0 := Below.trans (show Below w4.heap.size w4 w4.drew from (Below.drew (Below.refl _ _))) (hb.mono (by simp)); have sp0 : w4.heap.size ≤ x0.heap.size := hp0.size; have hx0 : Below w4.heap.size w4 x0 := hp0; have k0_0 := (hx0.cell (p := ⟨w3.heap.size, 0, none⟩) hk_bxx).trans bxxc0; have k0_1 := (hx0.cell (p := ⟨w3.heap.size, 1, none⟩) hk_bxx).trans bxxc1; have k0_2 := (hx0.cell (p := ⟨w3.heap.size, 2, none⟩) hk_bxx).trans bxxc2; have k0_3 := (hx0.cell (p := ⟨w.heap.size + 1, 0, none⟩) hk_bxc).trans bxcc0; have k0_4 := (hx0.cell (p := ⟨w.heap.size + 1, 1, none⟩) hk_bxc).trans bxcc1; have k0_5 := (hx0.cell (p := ⟨w.heap.size + 1, 2, none⟩) hk_bxc).trans bxcc2; (try have hzl0_0 := (Array.getElem?_eq_some_iff.1 hZ0_0).1); have rdx := (Hinx.out.rc.le (Nat.le_of_lt hk_bxx)).kept hp0 (Nat.le_refl _); clear hb) | (go_at_call 42; have hc_ := toPoolCmd_any k i g (w4.alloc (.cells #[.int .i64 0, .slice none 0 0, .slice none 0 0] 26)).drew; with_reducible refine hc_.mono ?_; clear hc_; rintro e x0 ⟨rfl, hb⟩; have hp0 : Below w4.heap.size w4 x0 := Below.trans (show Below w4.heap.size w4 (w4.alloc (.cells #[.int .i64 0, .slice none 0 0, .slice none 0 0] 26)).drew from (Below.drew ((Below.refl _ _).alloc (Nat.le_refl _) _))) (hb.mono (by simp)); have sp0 : w4.heap.size ≤ x0.heap.size := hp0.size; have hx0 : Below w4.heap.size w4 x0 := hp0; have k0_0 := (hx0.cell (p := ⟨w3.heap.size, 0, none⟩) hk_bxx).trans bxxc0; have k0_1 := (hx0.cell (p := ⟨w3.heap.size, 1, none⟩) hk_bxx).trans bxxc1; have k0_2 := (hx0.cell (p := ⟨w3.heap.size, 2, none⟩) hk_bxx).trans bxxc2; have k0_3 := (hx0.cell (p := ⟨w.heap.size + 1, 0, none⟩) hk_bxc).trans bxcc0; have k0_4 := (hx0.cell (p := ⟨w.heap.size + 1, 1, none⟩) hk_bxc).trans bxcc1; have k0_5 := (hx0.cell (p := ⟨w.heap.size + 1, 2, none⟩) hk_bxc).trans bxcc2; have hZ0_0 : x0.heap[w4.heap.size]? = some (.cells #[.int .i64 0, .slice none 0 0, .slice none 0 0] 26 (0, 0)) := (box_newA hb); (try have hzl0_0 := (Array.getElem?_eq_some_iff.1 hZ0_0).1); have rdx := (Hinx.out.rc.le (Nat.le_of_lt hk_bxx)).kept hp0 (Nat.le_refl _); clear hb) | (go_at_call 13; have hc_ := HI.out _ x0 (rdx.le (by omega)); with_reducible refine hc_.mono ?_; clear hc_; rintro e x1 ⟨vg, rfl, ing, hb⟩; have hp1 : Below x0.heap.size x0 x1 := hb; have sp1 : x0.heap.size ≤ x1.heap.size := hp1.size; have hx1 : Below w4.heap.size w4 x1 := hx0.trans (hp1.mono hx0.size); have k1_0 := (hx1.cell (p := ⟨w3.heap.size, 0, none⟩) hk_bxx).trans bxxc0; have k1_1 := (hx1.cell (p := ⟨w3.heap.size, 1, none⟩) hk_bxx).trans bxxc1; have k1_2 := (hx1.cell (p := ⟨w3.heap.size, 2, none⟩) hk_bxx).trans bxxc2; have k1_3 := (hx1.cell (p := ⟨w.heap.size + 1, 0, none⟩) hk_bxc).trans bxcc0; have k1_4 := (hx1.cell (p := ⟨w.heap.size + 1, 1, none⟩) hk_bxc).trans bxcc1; have k1_5 := (hx1.cell (p := ⟨w.heap.size + 1, 2, none⟩) hk_bxc).trans bxcc2; (try have hZ1_0 : x1.heap[w4.heap.size]? = some (.cells #[.int .i64 0, .slice none 0 0, .slice none 0 0] 26 (0, 0)) := (hp1.block _ (Array.getElem?_eq_some_iff.1 hZ0_0).1).trans hZ0_0); (try have hzl1_0 := (Array.getElem?_eq_some_iff.1 hZ1_0).1); (try have hzl1_1 := (Array.getElem?_eq_some_iff.1 hZ1_1).1); obtain ⟨og, cg, oRg, cRg, hve⟩ := ing.opn; subst hve; (try have hzc0_0 : x1.cell? ⟨w4.heap.size, 0, none⟩ = some (.int .i64 0) := block_cellD hZ1_0 0 _ rfl); (try have hzf0_0 := bx_frozen hZ1_0 0); (try have hzc0_1 : x1.cell? ⟨w4.heap.size, 1, none⟩ = some (.slice none 0 0) := block_cellD hZ1_0 1 _ rfl); (try have hzf0_1 := bx_frozen hZ1_0 1); (try have hzc0_2 : x1.cell? ⟨w4.heap.size, 2, none⟩ = some (.slice none 0 0) := block_cellD hZ1_0 2 _ rfl); (try have hzf0_2 := bx_frozen hZ1_0 2); (try have hzc1_0 : x1.cell? ⟨x0.heap.size, 0, none⟩ = some (.int .i64 0) := block_cellD hZ1_1 0 _ rfl); (try have hzf1_0 := bx_frozen hZ1_1 0); (try have hzc1_1 : x1.cell? ⟨x0.heap.size, 1, none⟩ = some (.slice none 0 0) := block_cellD hZ1_1 1 _ rfl); (try have hzf1_1 := bx_frozen hZ1_1 1); (try have hzc1_2 : x1.cell? ⟨x0.heap.size, 2, none⟩ = some (.slice none 0 0) := block_cellD hZ1_1 2 _ rfl); (try have hzf1_2 := bx_frozen hZ1_1 2); clear hb) | (go_at_call 13; have hc_ := HI.out _ (x0.alloc (.cells #[.int .i64 0, .slice none 0 0, .slice none 0 0] 26)) (((rdx.le (show w4.heap.size ≤ x0.heap.size by omega)).kept ((Below.refl _ _).alloc (Nat.le_refl _) _) (Nat.le_refl _)).le (by simp)); with_reducible refine hc_.mono ?_; clear hc_; rintro e x1 ⟨vg, rfl, ing, hb⟩; have hp1 : Below x0.heap.size x0 x1 := Below.trans (show Below x0.heap.size x0 (x0.alloc (.cells #[.int .i64 0, .slice none 0 0, .slice none 0 0] 26)) from ((Below.refl _ _).alloc (Nat.le_refl _) _)) (hb.mono (by simp)); have sp1 : x0.heap.size ≤ x1.heap.size := hp1.size; have hx1 : Below w4.heap.size w4 x1 := hx0.trans (hp1.mono hx0.size); have k1_0 := (hx1.cell (p := ⟨w3.heap.size, 0, none⟩) hk_bxx).trans bxxc0; have k1_1 := (hx1.cell (p := ⟨w3.heap.size, 1, none⟩) hk_bxx).trans bxxc1; have k1_2 := (hx1.cell (p := ⟨w3.heap.size, 2, none⟩) hk_bxx).trans bxxc2; have k1_3 := (hx1.cell (p := ⟨w.heap.size + 1, 0, none⟩) hk_bxc).trans bxcc0; have k1_4 := (hx1.cell (p := ⟨w.heap.size + 1, 1, none⟩) hk_bxc).trans bxcc1; have k1_5 := (hx1.cell (p := ⟨w.heap.size + 1, 2, none⟩) hk_bxc).trans bxcc2; (try have hZ1_0 : x1.heap[w4.heap.size]? = some (.cells #[.int .i64 0, .slice none 0 0, .slice none 0 0] 26 (0, 0)) := (hp1.block _ (Array.getElem?_eq_some_iff.1 hZ0_0).1).trans hZ0_0); have hZ1_1 : x1.heap[x0.heap.size]? = some (.cells #[.int .i64 0, .slice none 0 0, .slice none 0 0] 26 (0, 0)) := (box_newD hb); (try have hzl1_0 := (Array.getElem?_eq_some_iff.1 hZ1_0).1); (try have hzl1_1 := (Array.getElem?_eq_some_iff.1 hZ1_1).1); obtain ⟨og, cg, oRg, cRg, hve⟩ := ing.opn; subst hve; (try have hzc0_0 : x1.cell? ⟨w4.heap.size, 0, none⟩ = some (.int .i64 0) := block_cellD hZ1_0 0 _ rfl); (try have hzf0_0 := bx_frozen hZ1_0 0); (try have hzc0_1 : x1.cell? ⟨w4.heap.size, 1, none⟩ = some (.slice none 0 0) := block_cellD hZ1_0 1 _ rfl); (try have hzf0_1 := bx_frozen hZ1_0 1); (try have hzc0_2 : x1.cell? ⟨w4.heap.size, 2, none⟩ = some (.slice none 0 0) := block_cellD hZ1_0 2 _ rfl); (try have hzf0_2 := bx_frozen hZ1_0 2); (try have hzc1_0 : x1.cell? ⟨x0.heap.size, 0, none⟩ = some (.int .i64 0) := block_cellD hZ1_1 0 _ rfl); (try have hzf1_0 := bx_frozen hZ1_1 0); (try have hzc1_1 : x1.cell? ⟨x0.heap.size, 1, none⟩ = some (.slice none 0 0) := block_cellD hZ1_1 1 _ rfl); (try have hzf1_1 := bx_frozen hZ1_1 1); (try have hzc1_2 : x1.cell? ⟨x0.heap.size, 2, none⟩ = some (.slice none 0 0) := block_cellD hZ1_1 2 _ rfl); (try have hzf1_2 := bx_frozen hZ1_1 2); clear hb))
      all_goals (go_wp2_with fail; go_meet)
      all_goals first
        | with_reducible exact finD InPm.stps hZ1_0 hx1 (by omega) ing (by (try simp) <;> omega) (Nat.le_refl _) (by (try simp) <;> omega)
        | with_reducible exact finD InPm.stps hZ1_1 hx1 (by omega) ing (by (try simp) <;> omega) (Nat.le_refl _) (by (try simp) <;> omega)
        | with_reducible exact finDn InPm.stps hx1 ing (by (try simp) <;> omega) (Nat.le_refl _)
    case rest =>
    obtain ⟨Bg, log, hig, og, cg, oRg, cRg, rfl, rfl, Hbx_, Hbl_, hB1_g, hB2_g, Hin_, hl1_g, hl2_g, hl3_g⟩ := hcut
    have bxg := Hbx_.out
    have hbl_ := Hbl_.out
    clear Hbx_ Hbl_
    have ing := Hin_.out
    clear Hin_
    clear bxxc0 bxxc1 bxxc2
    clear bxcc0 bxcc1 bxcc2
    have bxa := Hbxa.out
    clear Hbxa
    have bxc := Hbxc.out
    clear Hbxc
    have bxw := Hbxw.out
    clear Hbxw
    have inw := Hinw.out
    clear Hinw
    have inx := Hinx.out
    clear Hinx
    have bxx := Hbxx.out
    clear Hbxx
    have B_w4 := HB_.out
    clear HB_
    obtain ⟨w5, hwc⟩ : ∃ W, W = wc := ⟨_, rfl⟩
    subst hwc
    replace bxa := (hbl_.block _ (by omega)).trans bxa
    replace bxc := (hbl_.block _ (by omega)).trans bxc
    replace bxw := (hbl_.block _ (by omega)).trans bxw
    replace inw := inw.step (Stp.of (lo := 0) (hi := 0) hbl_) (.inl (Nat.zero_le _))
    replace inx := inx.step (Stp.of (lo := 0) (hi := 0) hbl_) (.inl (Nat.zero_le _))
    replace bxx := (hbl_.block _ (by omega)).trans bxx
    have B_w5 : Below w.heap.size w w5 := B_w4.trans (hbl_.mono B_w4.size)
    have hs_w5 : w4.heap.size ≤ w5.heap.size := hbl_.size
    clear hbl_ B_w4
    have bxgc0 : w5.cell? ⟨Bg, 0, none⟩ = some (.int .i64 mr.key) := block_cellD bxg 0 _ rfl
    have bxgc1 : w5.cell? ⟨Bg, 1, none⟩ = some (.slice og mr.l.length cg) := block_cellD bxg 1 _ rfl
    have bxgc2 : w5.cell? ⟨Bg, 2, none⟩ = some (.slice oRg mr.ring.length cRg) := block_cellD bxg 2 _ rfl
    have bxwc0 : w5.cell? ⟨Bw, 0, none⟩ = some (.int .i64 mr.key) := block_cellD bxw 0 _ rfl
    have bxwc1 : w5.cell? ⟨Bw, 1, none⟩ = some (.slice ow mr.l.length cw) := block_cellD bxw 1 _ rfl
    have bxwc2 : w5.cell? ⟨Bw, 2, none⟩ = some (.slice oRw mr.ring.length cRw) := block_cellD bxw 2 _ rfl
    have Hbxa := hide bxa
    clear bxa
    have Hbxc := hide bxc
    clear bxc
    have Hbxw := hide bxw
    clear bxw
    have Hinw := hide inw
    clear inw
    have Hinx := hide inx
    clear inx
    have Hbxx := hide bxx
    clear bxx
    have Hbxg := hide bxg
    clear bxg
    have Hing := hide ing
    clear ing
    have HB_ := hide B_w5
    clear B_w5
    go_wp2_with fail
    clear bxgc0 bxgc1 bxgc2
    clear bxwc0 bxwc1 bxwc2
    have bxa := Hbxa.out
    clear Hbxa
    have bxc := Hbxc.out
    clear Hbxc
    have bxw := Hbxw.out
    clear Hbxw
    have inw := Hinw.out
    clear Hinw
    have inx := Hinx.out
    clear Hinx
    have bxx := Hbxx.out
    clear Hbxx
    have bxg := Hbxg.out
    clear Hbxg
    have ing := Hing.out
    clear Hing
    have B_w5 := HB_.out
    clear HB_
    refine (eqPool_sh _ _ mr w5 (ing.rd.le (by omega)) (inw.rd.le (by omega)) hmr).mono ?_
    rintro e w6 ⟨rfl, hb_w6⟩
    replace bxa := (hb_w6.block _ (by omega)).trans bxa
    replace bxc := (hb_w6.block _ (by omega)).trans bxc
    replace bxw := (hb_w6.block _ (by omega)).trans bxw
    replace inw := inw.step (Stp.of (lo := 0) (hi := 0) hb_w6) (.inl (Nat.zero_le _))
    replace inx := inx.step (Stp.of (lo := 0) (hi := 0) hb_w6) (.inl (Nat.zero_le _))
    replace bxx := (hb_w6.block _ (by omega)).trans bxx
    replace bxg := (hb_w6.block _ (by omega)).trans bxg
    replace ing := ing.step (Stp.of (lo := 0) (hi := 0) hb_w6) (.inl (Nat.zero_le _))
    have B_w6 : Below w.heap.size w w6 := B_w5.trans (hb_w6.mono B_w5.size)
    have hs_w6 : w5.heap.size ≤ w6.heap.size := hb_w6.size
    clear hb_w6 B_w5
    have bxac0 : w6.cell? ⟨w.heap.size, 0, none⟩ = some (.int .i64 m.key) := block_cellD bxa 0 _ rfl
    have bxac1 : w6.cell? ⟨w.heap.size, 1, none⟩ = some (.slice oa m.l.length ca) := block_cellD bxa 1 _ rfl
    have bxac2 : w6.cell? ⟨w.heap.size, 2, none⟩ = some (.slice oRa m.ring.length cRa) := block_cellD bxa 2 _ rfl
    have bxxc0 : w6.cell? ⟨w3.heap.size, 0, none⟩ = some (.int .i64 m.key) := block_cellD bxx 0 _ rfl
    have bxxc1 : w6.cell? ⟨w3.heap.size, 1, none⟩ = some (.slice ox m.l.length cx) := block_cellD bxx 1 _ rfl
    have bxxc2 : w6.cell? ⟨w3.heap.size, 2, none⟩ = some (.slice oRx m.ring.length cRx) := block_cellD bxx 2 _ rfl
    have Hbxa := hide bxa
    clear bxa
    have Hbxc := hide bxc
    clear bxc
    have Hbxw := hide bxw
    clear bxw
    have Hinw := hide inw
    clear inw
    have Hinx := hide inx
    clear inx
    have Hbxx := hide bxx
    clear bxx
    have Hbxg := hide bxg
    clear bxg
    have Hing := hide ing
    clear ing
    have HB_ := hide B_w6
    clear B_w6
    go_wp2
    have hk_bxa : w.heap.size < w6.heap.size := by omega
    have hk_bxx : w3.heap.size < w6.heap.size := by omega
    go_region_held3 (fun w' => w'.cell? ⟨w.heap.size, 0, none⟩ = some (.int .i64 m.key) ∧ w'.cell? ⟨w.heap.size, 1, none⟩ = some (.slice oa m.l.length ca) ∧ w'.cell? ⟨w.heap.size, 2, none⟩ = some (.slice oRa m.ring.length cRa) ∧ w'.cell? ⟨w3.heap.size, 0, none⟩ = some (.int .i64 m.key) ∧ w'.cell? ⟨w3.heap.size, 1, none⟩ = some (.slice ox m.l.length cx) ∧ w'.cell? ⟨w3.heap.size, 2, none⟩ = some (.slice oRx m.ring.length cRx)) (first | exact ⟨k1_0, k1_1, k1_2, k1_3, k1_4, k1_5⟩ | exact ⟨k0_0, k0_1, k0_2, k0_3, k0_4, k0_5⟩ | exact ⟨bxac0, bxac1, bxac2, bxxc0, bxxc1, bxxc2⟩) (first | (go_at_call 35; refine (toPool_sh _ m w6.drew ((hR.kept (Below.drew HB_.out) (Nat.le_refl _)).le HB_.out.size) hf).mono ?_; rintro e w7 ⟨va, rfl, ina, hb⟩; have hbx : Below w6.heap.size w6 w7 := (Below.drew (Below.refl _ _)).trans hb; have rdx := Hinx.out.rd.kept hbx (by omega); have szx := hbx.size; have hx0 : Below w6.heap.size w6 w7 := (Below.drew (Below.refl _ _)).trans hb; clear hb; have k0_0 := (hx0.cell (p := ⟨w.heap.size, 0, none⟩) hk_bxa).trans bxac0; have k0_1 := (hx0.cell (p := ⟨w.heap.size, 1, none⟩) hk_bxa).trans bxac1; have k0_2 := (hx0.cell (p := ⟨w.heap.size, 2, none⟩) hk_bxa).trans bxac2; have k0_3 := (hx0.cell (p := ⟨w3.heap.size, 0, none⟩) hk_bxx).trans bxxc0; have k0_4 := (hx0.cell (p := ⟨w3.heap.size, 1, none⟩) hk_bxx).trans bxxc1; have k0_5 := (hx0.cell (p := ⟨w3.heap.size, 2, none⟩) hk_bxx).trans bxxc2) | (go_at_call 36; refine (eqPool_sh _ _ m w7 (rdx.le (by omega)) (ina.rd.le (Nat.le_refl _)) hf).mono ?_; rintro e w8 ⟨rfl, hb⟩; have hx1 : Below w6.heap.size w6 w8 := hx0.trans (hb.mono hx0.size); clear hb; have k1_0 := (hx1.cell (p := ⟨w.heap.size, 0, none⟩) hk_bxa).trans bxac0; have k1_1 := (hx1.cell (p := ⟨w.heap.size, 1, none⟩) hk_bxa).trans bxac1; have k1_2 := (hx1.cell (p := ⟨w.heap.size, 2, none⟩) hk_bxa).trans bxac2; have k1_3 := (hx1.cell (p := ⟨w3.heap.size, 0, none⟩) hk_bxx).trans bxxc0; have k1_4 := (hx1.cell (p := ⟨w3.heap.size, 1, none⟩) hk_bxx).trans bxxc1; have k1_5 := (hx1.cell (p := ⟨w3.heap.size, 2, none⟩) hk_bxx).trans bxxc2))
    clear k0_0 k0_1 k0_2 k0_3 k0_4 k0_5
    clear k1_0 k1_1 k1_2 k1_3 k1_4 k1_5
    clear hk_bxa hk_bxx hx0
    clear bxac0 bxac1 bxac2
    clear bxxc0 bxxc1 bxxc2
    have bxa := Hbxa.out
    clear Hbxa
    have bxc := Hbxc.out
    clear Hbxc
    have bxw := Hbxw.out
    clear Hbxw
    have inw := Hinw.out
    clear Hinw
    have inx := Hinx.out
    clear Hinx
    have bxx := Hbxx.out
    clear Hbxx
    have bxg := Hbxg.out
    clear Hbxg
    have ing := Hing.out
    clear Hing
    have B_w6 := HB_.out
    clear HB_
    replace bxa := (hx1.block _ (by omega)).trans bxa
    replace bxc := (hx1.block _ (by omega)).trans bxc
    replace bxw := (hx1.block _ (by omega)).trans bxw
    replace inw := inw.step (Stp.of (lo := 0) (hi := 0) hx1) (.inl (Nat.zero_le _))
    replace inx := inx.step (Stp.of (lo := 0) (hi := 0) hx1) (.inl (Nat.zero_le _))
    replace bxx := (hx1.block _ (by omega)).trans bxx
    replace bxg := (hx1.block _ (by omega)).trans bxg
    replace ing := ing.step (Stp.of (lo := 0) (hi := 0) hx1) (.inl (Nat.zero_le _))
    have B_w8 : Below w.heap.size w w8 := B_w6.trans (hx1.mono B_w6.size)
    have hs_w8 : w6.heap.size ≤ w8.heap.size := hx1.size
    clear hx1 B_w6
    clear rdx szx ina hbx
    have bxxc0 : w8.cell? ⟨w3.heap.size, 0, none⟩ = some (.int .i64 m.key) := block_cellD bxx 0 _ rfl
    have bxxc1 : w8.cell? ⟨w3.heap.size, 1, none⟩ = some (.slice ox m.l.length cx) := block_cellD bxx 1 _ rfl
    have bxxc2 : w8.cell? ⟨w3.heap.size, 2, none⟩ = some (.slice oRx m.ring.length cRx) := block_cellD bxx 2 _ rfl
    have Hbxa := hide bxa
    clear bxa
    have Hbxc := hide bxc
    clear bxc
    have Hbxw := hide bxw
    clear bxw
    have Hinw := hide inw
    clear inw
    have Hinx := hide inx
    clear inx
    have Hbxx := hide bxx
    clear bxx
    have Hbxg := hide bxg
    clear bxg
    have Hing := hide ing
    clear ing
    have HB_ := hide B_w8
    clear B_w8
    go_wp2_with fail
    clear bxxc0 bxxc1 bxxc2
    have bxa := Hbxa.out
    clear Hbxa
    have bxc := Hbxc.out
    clear Hbxc
    have bxw := Hbxw.out
    clear Hbxw
    have inw := Hinw.out
    clear Hinw
    have inx := Hinx.out
    clear Hinx
    have bxx := Hbxx.out
    clear Hbxx
    have bxg := Hbxg.out
    clear Hbxg
    have ing := Hing.out
    clear Hing
    have B_w8 := HB_.out
    clear HB_
    refine (markPool_sh (w2.heap.size) (w3.heap.size) _ m 1 w8 inx (by omega) (by omega) hf).mono ?_
    rintro e w9 ⟨rfl, inx', sp_w9⟩
    replace bxa := sp_w9.box bxa (by omega)
    replace bxc := sp_w9.box bxc (by omega)
    replace bxw := sp_w9.box bxw (by omega)
    replace inw := inw.step sp_w9 (by omega)
    replace bxx := sp_w9.box bxx (by omega)
    replace bxg := sp_w9.box bxg (by omega)
    replace ing := ing.step sp_w9 (by omega)
    have B_w9 : Below w.heap.size w w9 := B_w8.trans (sp_w9.below (by omega) (by omega))
    have hs_w9 : w8.heap.size ≤ w9.heap.size := sp_w9.size
    clear sp_w9 B_w8
    clear inx
    have inx := inx'
    clear inx'
    clear inx
    clear bxx
    have hk1 : (0 : Int) ≤ 1 + nPm m := by have := nPm_bd hf; omega
    have bxgc0 : w9.cell? ⟨Bg, 0, none⟩ = some (.int .i64 mr.key) := block_cellD bxg 0 _ rfl
    have bxgc1 : w9.cell? ⟨Bg, 1, none⟩ = some (.slice og mr.l.length cg) := block_cellD bxg 1 _ rfl
    have bxgc2 : w9.cell? ⟨Bg, 2, none⟩ = some (.slice oRg mr.ring.length cRg) := block_cellD bxg 2 _ rfl
    have bxwc0 : w9.cell? ⟨Bw, 0, none⟩ = some (.int .i64 mr.key) := block_cellD bxw 0 _ rfl
    have bxwc1 : w9.cell? ⟨Bw, 1, none⟩ = some (.slice ow mr.l.length cw) := block_cellD bxw 1 _ rfl
    have bxwc2 : w9.cell? ⟨Bw, 2, none⟩ = some (.slice oRw mr.ring.length cRw) := block_cellD bxw 2 _ rfl
    have Hbxa := hide bxa
    clear bxa
    have Hbxc := hide bxc
    clear bxc
    have Hbxw := hide bxw
    clear bxw
    have Hinw := hide inw
    clear inw
    have Hbxg := hide bxg
    clear bxg
    have Hing := hide ing
    clear ing
    have HB_ := hide B_w9
    clear B_w9
    go_wp2_with fail
    clear bxgc0 bxgc1 bxgc2
    clear bxwc0 bxwc1 bxwc2
    have bxa := Hbxa.out
    clear Hbxa
    have bxc := Hbxc.out
    clear Hbxc
    have bxw := Hbxw.out
    clear Hbxw
    have inw := Hinw.out
    clear Hinw
    have bxg := Hbxg.out
    clear Hbxg
    have ing := Hing.out
    clear Hing
    have B_w9 := HB_.out
    clear HB_
    refine (eqPool_sh _ _ mr w9 (ing.rd.le (by omega)) (inw.rd.le (by omega)) hmr).mono ?_
    rintro e w10 ⟨rfl, hb_w10⟩
    replace bxa := (hb_w10.block _ (by omega)).trans bxa
    replace bxc := (hb_w10.block _ (by omega)).trans bxc
    replace bxw := (hb_w10.block _ (by omega)).trans bxw
    replace inw := inw.step (Stp.of (lo := 0) (hi := 0) hb_w10) (.inl (Nat.zero_le _))
    replace bxg := (hb_w10.block _ (by omega)).trans bxg
    replace ing := ing.step (Stp.of (lo := 0) (hi := 0) hb_w10) (.inl (Nat.zero_le _))
    have B_w10 : Below w.heap.size w w10 := B_w9.trans (hb_w10.mono B_w9.size)
    have hs_w10 : w9.heap.size ≤ w10.heap.size := hb_w10.size
    clear hb_w10 B_w9
    have hk2 : (0 : Int) ≤ 1 + nPm mr ∧ 1 + nPm mr ≤ 10000000 := by have := nPm_bd hmr; omega
    have bxgc0 : w10.cell? ⟨Bg, 0, none⟩ = some (.int .i64 mr.key) := block_cellD bxg 0 _ rfl
    have bxgc1 : w10.cell? ⟨Bg, 1, none⟩ = some (.slice og mr.l.length cg) := block_cellD bxg 1 _ rfl
    have bxgc2 : w10.cell? ⟨Bg, 2, none⟩ = some (.slice oRg mr.ring.length cRg) := block_cellD bxg 2 _ rfl
    have Hbxa := hide bxa
    clear bxa
    have Hbxc := hide bxc
    clear bxc
    have Hbxw := hide bxw
    clear bxw
    have Hinw := hide inw
    clear inw
    have Hbxg := hide bxg
    clear bxg
    have Hing := hide ing
    clear ing
    have HB_ := hide B_w10
    clear B_w10
    go_wp2_with fail
    clear bxgc0 bxgc1 bxgc2
    have bxa := Hbxa.out
    clear Hbxa
    have bxc := Hbxc.out
    clear Hbxc
    have bxw := Hbxw.out
    clear Hbxw
    have inw := Hinw.out
    clear Hinw
    have bxg := Hbxg.out
    clear Hbxg
    have ing := Hing.out
    clear Hing
    have B_w10 := HB_.out
    clear HB_
    refine (markPool_sh (log) (hig) _ mr 1 w10 ing (by omega) (by omega) hmr).mono ?_
    rintro e w11 ⟨rfl, ing', sp_w11⟩
    replace bxa := sp_w11.box bxa (by omega)
    replace bxc := sp_w11.box bxc (by omega)
    replace bxw := sp_w11.box bxw (by omega)
    replace inw := inw.step sp_w11 (by omega)
    replace bxg := sp_w11.box bxg (by omega)
    have B_w11 : Below w.heap.size w w11 := B_w10.trans (sp_w11.below (by omega) (by omega))
    have hs_w11 : w10.heap.size ≤ w11.heap.size := sp_w11.size
    clear sp_w11 B_w10
    clear ing
    have ing := ing'
    clear ing'
    have bxgc0 : w11.cell? ⟨Bg, 0, none⟩ = some (.int .i64 mr.key) := block_cellD bxg 0 _ rfl
    have bxgc1 : w11.cell? ⟨Bg, 1, none⟩ = some (.slice og mr.l.length cg) := block_cellD bxg 1 _ rfl
    have bxgc2 : w11.cell? ⟨Bg, 2, none⟩ = some (.slice oRg mr.ring.length cRg) := block_cellD bxg 2 _ rfl
    have Hbxa := hide bxa
    clear bxa
    have Hbxc := hide bxc
    clear bxc
    have Hbxw := hide bxw
    clear bxw
    have Hinw := hide inw
    clear inw
    have Hbxg := hide bxg
    clear bxg
    have Hing := hide ing
    clear ing
    have HB_ := hide B_w11
    clear B_w11
    go_wp2_with fail
    clear bxgc0 bxgc1 bxgc2
    have bxa := Hbxa.out
    clear Hbxa
    have bxc := Hbxc.out
    clear Hbxc
    have bxw := Hbxw.out
    clear Hbxw
    have inw := Hinw.out
    clear Hinw
    have bxg := Hbxg.out
    clear Hbxg
    have ing := Hing.out
    clear Hing
    have B_w11 := HB_.out
    clear HB_
    refine (heldPool_sh _ mr 1 w11 (ing.rd.le (by omega)) (by omega) (by omega) hmr).mono ?_
    rintro e w12 ⟨rfl, hb_w12⟩
    replace bxa := (hb_w12.block _ (by omega)).trans bxa
    replace bxc := (hb_w12.block _ (by omega)).trans bxc
    replace bxw := (hb_w12.block _ (by omega)).trans bxw
    replace inw := inw.step (Stp.of (lo := 0) (hi := 0) hb_w12) (.inl (Nat.zero_le _))
    replace bxg := (hb_w12.block _ (by omega)).trans bxg
    replace ing := ing.step (Stp.of (lo := 0) (hi := 0) hb_w12) (.inl (Nat.zero_le _))
    have B_w12 : Below w.heap.size w w12 := B_w11.trans (hb_w12.mono B_w11.size)
    have hs_w12 : w11.heap.size ≤ w12.heap.size := hb_w12.size
    clear hb_w12 B_w11
    have bxac0 : w12.cell? ⟨w.heap.size, 0, none⟩ = some (.int .i64 m.key) := block_cellD bxa 0 _ rfl
    have bxac1 : w12.cell? ⟨w.heap.size, 1, none⟩ = some (.slice oa m.l.length ca) := block_cellD bxa 1 _ rfl
    have bxac2 : w12.cell? ⟨w.heap.size, 2, none⟩ = some (.slice oRa m.ring.length cRa) := block_cellD bxa 2 _ rfl
    have bxcc0 : w12.cell? ⟨w.heap.size + 1, 0, none⟩ = some (.int .i64 k) := block_cellD bxc 0 _ rfl
    have bxcc1 : w12.cell? ⟨w.heap.size + 1, 1, none⟩ = some (.int .i64 i) := block_cellD bxc 1 _ rfl
    have bxcc2 : w12.cell? ⟨w.heap.size + 1, 2, none⟩ = some (.int .i64 g) := block_cellD bxc 2 _ rfl
    have Hbxa := hide bxa
    clear bxa
    have Hbxc := hide bxc
    clear bxc
    have Hbxw := hide bxw
    clear bxw
    have Hinw := hide inw
    clear inw
    have Hbxg := hide bxg
    clear bxg
    have Hing := hide ing
    clear ing
    have HB_ := hide B_w12
    clear B_w12
    go_upto_region 24 with fail
    go_cut [14, 15] from 79 to 86 (fun s14 s15 wx => ∃ B lo hi oh ch oRh cRh, s14 = .pointer (some ⟨B, 0, none⟩) ∧ s15 = .bool t ∧ Hid (wx.heap[B]? = some (.cells #[.int .i64 mr.key, .slice oh mr.l.length ch, .slice oRh mr.ring.length cRh] 26 (0, 0))) ∧ Hid (Below w12.heap.size w12 wx) ∧ w12.heap.size ≤ B ∧ B < wx.heap.size ∧ Hid (InPm lo hi wx (plv mr.key (.slice oh mr.l.length ch) (.slice oRh mr.ring.length cRh)) mr) ∧ w12.heap.size ≤ lo ∧ hi ≤ wx.heap.size ∧ (B < lo ∨ hi ≤ B))
    case first =>
      have hk_bxa : w.heap.size < w12.heap.size := by omega
      have hk_bxc : w.heap.size + 1 < w12.heap.size := by omega
      go_region_held3 (fun w' => w'.cell? ⟨w.heap.size, 0, none⟩ = some (.int .i64 m.key) ∧ w'.cell? ⟨w.heap.size, 1, none⟩ = some (.slice oa m.l.length ca) ∧ w'.cell? ⟨w.heap.size, 2, none⟩ = some (.slice oRa m.ring.length cRa) ∧ w'.cell? ⟨w.heap.size + 1, 0, none⟩ = some (.int .i64 k) ∧ w'.cell? ⟨w.heap.size + 1, 1, none⟩ = some (.int .i64 i) ∧ w'.cell? ⟨w.heap.size + 1, 2, none⟩ = some (.int .i64 g)) (first | with_reducible exact ⟨k2_0, k2_1, k2_2, k2_3, k2_4, k2_5⟩ | with_reducible exact ⟨k1_0, k1_1, k1_2, k1_3, k1_4, k1_5⟩ | with_reducible exact ⟨k0_0, k0_1, k0_2, k0_3, k0_4, k0_5⟩ | with_reducible exact ⟨bxac0, bxac1, bxac2, bxcc0, bxcc1, bxcc2⟩ | with_reducible exact ⟨setP_cell k2_0 (show w.heap.size < w12.heap.size by omega), setP_cell k2_1 (show w.heap.size < w12.heap.size by omega), setP_cell k2_2 (show w.heap.size < w12.heap.size by omega), setP_cell k2_3 (show w.heap.size + 1 < w12.heap.size by omega), setP_cell k2_4 (show w.heap.size + 1 < w12.heap.size by omega), setP_cell k2_5 (show w.heap.size + 1 < w12.heap.size by omega)⟩ | with_reducible exact ⟨setP_cell k2_0 (show w.heap.size < x0.heap.size by omega), setP_cell k2_1 (show w.heap.size < x0.heap.size by omega), setP_cell k2_2 (show w.heap.size < x0.heap.size by omega), setP_cell k2_3 (show w.heap.size + 1 < x0.heap.size by omega), setP_cell k2_4 (show w.heap.size + 1 < x0.heap.size by omega), setP_cell k2_5 (show w.heap.size + 1 < x0.heap.size by omega)⟩ | with_reducible exact ⟨setP_cell k2_0 (show w.heap.size < x1.heap.size by omega), setP_cell k2_1 (show w.heap.size < x1.heap.size by omega), setP_cell k2_2 (show w.heap.size < x1.heap.size by omega), setP_cell k2_3 (show w.heap.size + 1 < x1.heap.size by omega), setP_cell k2_4 (show w.heap.size + 1 < x1.heap.size by omega), setP_cell k2_5 (show w.heap.size + 1 < x1.heap.size by omega)⟩ | go_keep) (first | (go_at_call 35; have hc_ := toPool_sh _ m w12.drew ((hR.kept (Below.drew HB_.out) (Nat.le_refl _)).le HB_.out.size) hf; with_reducible refine hc_.mono ?_; clear hc_; rintro e x0 ⟨v2, rfl, in2, hb⟩; have hp0 : Below w12.heap.size w12 x0 := Below.trans (show Below w12.heap.size w12 w12.drew from (Below.drew (Below.refl _ _))) (hb.mono (by simp)); have sp0 : w12.heap.size ≤ x0.heap.size := hp0.size; have hx0 : Below w12.heap.size w12 x0 := hp0; have k0_0 := (hx0.cell (p := ⟨w.heap.size, 0, none⟩) hk_bxa).trans bxac0; have k0_1 := (hx0.cell (p := ⟨w.heap.size, 1, none⟩) hk_bxa).trans bxac1; have k0_2 := (hx0.cell (p := ⟨w.heap.size, 2, none⟩) hk_bxa).trans bxac2; have k0_3 := (hx0.cell (p := ⟨w.heap.size + 1, 0, none⟩) hk_bxc).trans bxcc0; have k0_4 := (hx0.cell (p := ⟨w.heap.size + 1, 1, none⟩) hk_bxc).trans bxcc1; have k0_5 := (hx0.cell (p := ⟨w.heap.size + 1, 2, none⟩) hk_bxc).trans bxcc2; (try have hzl0_0 := (Array.getElem?_eq_some_iff.1 hZ0_0).1); have rda := in2.rc; clear hb) | (go_at_call 35; have hc_ := toPool_sh _ m (w12.alloc (.cells #[.int .i64 0, .slice none 0 0, .slice none 0 0] 26)).drew ((hR.kept (Below.drew (HB_.out.alloc HB_.out.size _)) (Nat.le_refl _)).le (Nat.le_trans HB_.out.size (by simp))) hf; with_reducible refine hc_.mono ?_; clear hc_; rintro e x0 ⟨v2, rfl, in2, hb⟩; have hp0 : Below w12.heap.size w12 x0 := Below.trans (show Below w12.heap.size w12 (w12.alloc (.cells #[.int .i64 0, .slice none 0 0, .slice none 0 0] 26)).drew from (Below.drew ((Below.refl _ _).alloc (Nat.le_refl _) _))) (hb.mono (by simp)); have sp0 : w12.heap.size ≤ x0.heap.size := hp0.size; have hx0 : Below w12.heap.size w12 x0 := hp0; have k0_0 := (hx0.cell (p := ⟨w.heap.size, 0, none⟩) hk_bxa).trans bxac0; have k0_1 := (hx0.cell (p := ⟨w.heap.size, 1, none⟩) hk_bxa).trans bxac1; have k0_2 := (hx0.cell (p := ⟨w.heap.size, 2, none⟩) hk_bxa).trans bxac2; have k0_3 := (hx0.cell (p := ⟨w.heap.size + 1, 0, none⟩) hk_bxc).trans bxcc0; have k0_4 := (hx0.cell (p := ⟨w.heap.size + 1, 1, none⟩) hk_bxc).trans bxcc1; have k0_5 := (hx0.cell (p := ⟨w.heap.size + 1, 2, none⟩) hk_bxc).trans bxcc2; have hZ0_0 : x0.heap[w12.heap.size]? = some (.cells #[.int .i64 0, .slice none 0 0, .slice none 0 0] 26 (0, 0)) := (box_newA hb); (try have hzl0_0 := (Array.getElem?_eq_some_iff.1 hZ0_0).1); have rda := in2.rc; clear hb) | (go_at_call 42; have hc_ := toPoolCmd_any k i g x0; with_reducible refine hc_.mono ?_; clear hc_; rintro e x1 ⟨rfl, hb⟩; have hp1 : Below x0.heap.size x0 x1 := hb; have sp1 : x0.heap.size ≤ x1.heap.size := hp1.size; have hx1 : Below w12.heap.size w12 x1 := hx0.trans (hp1.mono hx0.size); have k1_0 := (hx1.cell (p := ⟨w.heap.size, 0, none⟩) hk_bxa).trans bxac0; have k1_1 := (hx1.cell (p := ⟨w.heap.size, 1, none⟩) hk_bxa).trans bxac1; have k1_2 := (hx1.cell (p := ⟨w.heap.size, 2, none⟩) hk_bxa).trans bxac2; have k1_3 := (hx1.cell (p := ⟨w.heap.size + 1, 0, none⟩) hk_bxc).trans bxcc0; have k1_4 := (hx1.cell (p := ⟨w.heap.size + 1, 1, none⟩) hk_bxc).trans bxcc1; have k1_5 := (hx1.cell (p := ⟨w.heap.size + 1, 2, none⟩) hk_bxc).trans bxcc2; (try have hZ1_0 : x1.heap[w12.heap.size]? = some (.cells #[.int .i64 0, .slice none 0 0, .slice none 0 0] 26 (0, 0)) := (hp1.block _ (Array.getElem?_eq_some_iff.1 hZ0_0).1).trans hZ0_0); (try have hzl1_0 := (Array.getElem?_eq_some_iff.1 hZ1_0).1); (try have hzl1_1 := (Array.getElem?_eq_some_iff.1 hZ1_1).1); have rdb := rda.kept hp1 (Nat.le_refl _); clear hb) | (go_at_call 42; have hc_ := toPoolCmd_any k i g (x0.alloc (.cells #[.int .i64 0, .slice none 0 0, .slice none 0 0] 26)); with_reducible refine hc_.mono ?_; clear hc_; rintro e x1 ⟨rfl, hb⟩; have hp1 : Below x0.heap.size x0 x1 := Below.trans (show Below x0.heap.size x0 (x0.alloc (.cells #[.int .i64 0, .slice none 0 0, .slice none 0 0] 26)) from ((Below.refl _ _).alloc (Nat.le_refl _) _)) (hb.mono (by simp)); have sp1 : x0.heap.size ≤ x1.heap.size := hp1.size; have hx1 : Below w12.heap.size w12 x1 := hx0.trans (hp1.mono hx0.size); have k1_0 := (hx1.cell (p := ⟨w.heap.size, 0, none⟩) hk_bxa).trans bxac0; have k1_1 := (hx1.cell (p := ⟨w.heap.size, 1, none⟩) hk_bxa).trans bxac1; have k1_2 := (hx1.cell (p := ⟨w.heap.size, 2, none⟩) hk_bxa).trans bxac2; have k1_3 := (hx1.cell (p := ⟨w.heap.size + 1, 0, none⟩) hk_bxc).trans bxcc0; have k1_4 := (hx1.cell (p := ⟨w.heap.size + 1, 1, none⟩) hk_bxc).trans bxcc1; have k1_5 := (hx1.cell (p := ⟨w.heap.size + 1, 2, none⟩) hk_bxc).trans bxcc2; (try have hZ1_0 : x1.heap[w12.heap.size]? = some (.cells #[.int .i64 0, .slice none 0 0, .slice none 0 0] 26 (0, 0)) := (hp1.block _ (Array.getElem?_eq_some_iff.1 hZ0_0).1).trans hZ0_0); have hZ1_1 : x1.heap[x0.heap.size]? = some (.cells #[.int .i64 0, .slice none 0 0, .slice none 0 0] 26 (0, 0)) := (box_newD hb); (try have hzl1_0 := (Array.getElem?_eq_some_iff.1 hZ1_0).1); (try have hzl1_1 := (Array.getElem?_eq_some_iff.1 hZ1_1).1); have rdb := rda.kept hp1 (Nat.le_refl _); clear hb) | (go_at_call 13; have hc_ := HI.out _ x1 (rdb.le (by omega)); with_reducible refine hc_.mono ?_; clear hc_; rintro e x2 ⟨vh, rfl, inh, hb⟩; have hp2 : Below x1.heap.size x1 x2 := hb; have sp2 : x1.heap.size ≤ x2.heap.size := hp2.size; have hx2 : Below w12.heap.size w12 x2 := hx1.trans (hp2.mono hx1.size); have k2_0 := (hx2.cell (p := ⟨w.heap.size, 0, none⟩) hk_bxa).trans bxac0; have k2_1 := (hx2.cell (p := ⟨w.heap.size, 1, none⟩) hk_bxa).trans bxac1; have k2_2 := (hx2.cell (p := ⟨w.heap.size, 2, none⟩) hk_bxa).trans bxac2; have k2_3 := (hx2.cell (p := ⟨w.heap.size + 1, 0, none⟩) hk_bxc).trans bxcc0; have k2_4 := (hx2.cell (p := ⟨w.heap.size + 1, 1, none⟩) hk_bxc).trans bxcc1; have k2_5 := (hx2.cell (p := ⟨w.heap.size + 1, 2, none⟩) hk_bxc).trans bxcc2; (try have hZ2_0 : x2.heap[w12.heap.size]? = some (.cells #[.int .i64 0, .slice none 0 0, .slice none 0 0] 26 (0, 0)) := (hp2.block _ (Array.getElem?_eq_some_iff.1 hZ1_0).1).trans hZ1_0); (try have hZ2_1 : x2.heap[x0.heap.size]? = some (.cells #[.int .i64 0, .slice none 0 0, .slice none 0 0] 26 (0, 0)) := (hp2.block _ (Array.getElem?_eq_some_iff.1 hZ1_1).1).trans hZ1_1); (try have hzl2_0 := (Array.getElem?_eq_some_iff.1 hZ2_0).1); (try have hzl2_1 := (Array.getElem?_eq_some_iff.1 hZ2_1).1); (try have hzl2_2 := (Array.getElem?_eq_some_iff.1 hZ2_2).1); obtain ⟨oh, ch, oRh, cRh, hve⟩ := inh.opn; subst hve; (try have hzc0_0 : x2.cell? ⟨w12.heap.size, 0, none⟩ = some (.int .i64 0) := block_cellD hZ2_0 0 _ rfl); (try have hzf0_0 := bx_frozen hZ2_0 0); (try have hzc0_1 : x2.cell? ⟨w12.heap.size, 1, none⟩ = some (.slice none 0 0) := block_cellD hZ2_0 1 _ rfl); (try have hzf0_1 := bx_frozen hZ2_0 1); (try have hzc0_2 : x2.cell? ⟨w12.heap.size, 2, none⟩ = some (.slice none 0 0) := block_cellD hZ2_0 2 _ rfl); (try have hzf0_2 := bx_frozen hZ2_0 2); (try have hzc1_0 : x2.cell? ⟨x0.heap.size, 0, none⟩ = some (.int .i64 0) := block_cellD hZ2_1 0 _ rfl); (try have hzf1_0 := bx_frozen hZ2_1 0); (try have hzc1_1 : x2.cell? ⟨x0.heap.size, 1, none⟩ = some (.slice none 0 0) := block_cellD hZ2_1 1 _ rfl); (try have hzf1_1 := bx_frozen hZ2_1 1); (try have hzc1_2 : x2.cell? ⟨x0.heap.size, 2, none⟩ = some (.slice none 0 0) := block_cellD hZ2_1 2 _ rfl); (try have hzf1_2 := bx_frozen hZ2_1 2); (try have hzc2_0 : x2.cell? ⟨x1.heap.size, 0, none⟩ = some (.int .i64 0) := block_cellD hZ2_2 0 _ rfl); (try have hzf2_0 := bx_frozen hZ2_2 0); (try have hzc2_1 : x2.cell? ⟨x1.heap.size, 1, none⟩ = some (.slice none 0 0) := block_cellD hZ2_2 1 _ rfl); (try have hzf2_1 := bx_frozen hZ2_2 1); (try have hzc2_2 : x2.cell? ⟨x1.heap.size, 2, none⟩ = some (.slice none 0 0) := block_cellD hZ2_2 2 _ rfl); (try have hzf2_2 := bx_frozen hZ2_2 2); clear hb) | (go_at_call 13; have hc_ := HI.out _ (x1.alloc (.cells #[.int .i64 0, .slice none 0 0, .slice none 0 0] 26)) (((rdb.le (show x0.heap.size ≤ x1.heap.size by omega)).kept ((Below.refl _ _).alloc (Nat.le_refl _) _) (Nat.le_refl _)).le (by simp)); with_reducible refine hc_.mono ?_; clear hc_; rintro e x2 ⟨vh, rfl, inh, hb⟩; have hp2 : Below x1.heap.size x1 x2 := Below.trans (show Below x1.heap.size x1 (x1.alloc (.cells #[.int .i64 0, .slice none 0 0, .slice none 0 0] 26)) from ((Below.refl _ _).alloc (Nat.le_refl _) _)) (hb.mono (by simp)); have sp2 : x1.heap.size ≤ x2.heap.size := hp2.size; have hx2 : Below w12.heap.size w12 x2 := hx1.trans (hp2.mono hx1.size); have k2_0 := (hx2.cell (p := ⟨w.heap.size, 0, none⟩) hk_bxa).trans bxac0; have k2_1 := (hx2.cell (p := ⟨w.heap.size, 1, none⟩) hk_bxa).trans bxac1; have k2_2 := (hx2.cell (p := ⟨w.heap.size, 2, none⟩) hk_bxa).trans bxac2; have k2_3 := (hx2.cell (p := ⟨w.heap.size + 1, 0, none⟩) hk_bxc).trans bxcc0; have k2_4 := (hx2.cell (p := ⟨w.heap.size + 1, 1, none⟩) hk_bxc).trans bxcc1; have k2_5 := (hx2.cell (p := ⟨w.heap.size + 1, 2, none⟩) hk_bxc).trans bxcc2; (try have hZ2_0 : x2.heap[w12.heap.size]? = some (.cells #[.int .i64 0, .slice none 0 0, .slice none 0 0] 26 (0, 0)) := (hp2.block _ (Array.getElem?_eq_some_iff.1 hZ1_0).1).trans hZ1_0); (try have hZ2_1 : x2.heap[x0.heap.size]? = some (.cells #[.int .i64 0, .slice none 0 0, .slice none 0 0] 26 (0, 0)) := (hp2.block _ (Array.getElem?_eq_some_iff.1 hZ1_1).1).trans hZ1_1); have hZ2_2 : x2.heap[x1.heap.size]? = some (.cells #[.int .i64 0, .slice none 0 0, .slice none 0 0] 26 (0, 0)) := (box_newD hb); (try have hzl2_0 := (Array.getElem?_eq_some_iff.1 hZ2_0).1); (try have hzl2_1 := (Array.getElem?_eq_some_iff.1 hZ2_1).1); (try have hzl2_2 := (Array.getElem?_eq_some_iff.1 hZ2_2).1); obtain ⟨oh, ch, oRh, cRh, hve⟩ := inh.opn; subst hve; (try have hzc0_0 : x2.cell? ⟨w12.heap.size, 0, none⟩ = some (.int .i64 0) := block_cellD hZ2_0 0 _ rfl); (try have hzf0_0 := bx_frozen hZ2_0 0); (try have hzc0_1 : x2.cell? ⟨w12.heap.size, 1, none⟩ = some (.slice none 0 0) := block_cellD hZ2_0 1 _ rfl); (try have hzf0_1 := bx_frozen hZ2_0 1); (try have hzc0_2 : x2.cell? ⟨w12.heap.size, 2, none⟩ = some (.slice none 0 0) := block_cellD hZ2_0 2 _ rfl); (try have hzf0_2 := bx_frozen hZ2_0 2); (try have hzc1_0 : x2.cell? ⟨x0.heap.size, 0, none⟩ = some (.int .i64 0) := block_cellD hZ2_1 0 _ rfl); (try have hzf1_0 := bx_frozen hZ2_1 0); (try have hzc1_1 : x2.cell? ⟨x0.heap.size, 1, none⟩ = some (.slice none 0 0) := block_cellD hZ2_1 1 _ rfl); (try have hzf1_1 := bx_frozen hZ2_1 1); (try have hzc1_2 : x2.cell? ⟨x0.heap.size, 2, none⟩ = some (.slice none 0 0) := block_cellD hZ2_1 2 _ rfl); (try have hzf1_2 := bx_frozen hZ2_1 2); (try have hzc2_0 : x2.cell? ⟨x1.heap.size, 0, none⟩ = some (.int .i64 0) := block_cellD hZ2_2 0 _ rfl); (try have hzf2_0 := bx_frozen hZ2_2 0); (try have hzc2_1 : x2.cell? ⟨x1.heap.size, 1, none⟩ = some (.slice none 0 0) := block_cellD hZ2_2 1 _ rfl); (try have hzf2_1 := bx_frozen hZ2_2 1); (try have hzc2_2 : x2.cell? ⟨x1.heap.size, 2, none⟩ = some (.slice none 0 0) := block_cellD hZ2_2 2 _ rfl); (try have hzf2_2 := bx_frozen hZ2_2 2); clear hb))
      all_goals (go_wp2_with fail; go_meet)
      all_goals first
        | with_reducible exact finD InPm.stps hZ2_0 hx2 (by omega) inh (by (try simp) <;> omega) (Nat.le_refl _) (by (try simp) <;> omega)
        | with_reducible exact finD InPm.stps hZ2_1 hx2 (by omega) inh (by (try simp) <;> omega) (Nat.le_refl _) (by (try simp) <;> omega)
        | with_reducible exact finD InPm.stps hZ2_2 hx2 (by omega) inh (by (try simp) <;> omega) (Nat.le_refl _) (by (try simp) <;> omega)
        | with_reducible exact finDn InPm.stps hx2 inh (by (try simp) <;> omega) (Nat.le_refl _)
    case rest =>
    obtain ⟨Bh, loh, hih, oh, ch, oRh, cRh, rfl, rfl, Hbx_, Hbl_, hB1_h, hB2_h, Hin_, hl1_h, hl2_h, hl3_h⟩ := hcut
    have bxh := Hbx_.out
    have hbl_ := Hbl_.out
    clear Hbx_ Hbl_
    have inh := Hin_.out
    clear Hin_
    clear bxac0 bxac1 bxac2
    clear bxcc0 bxcc1 bxcc2
    have bxa := Hbxa.out
    clear Hbxa
    have bxc := Hbxc.out
    clear Hbxc
    have bxw := Hbxw.out
    clear Hbxw
    have inw := Hinw.out
    clear Hinw
    have bxg := Hbxg.out
    clear Hbxg
    have ing := Hing.out
    clear Hing
    have B_w12 := HB_.out
    clear HB_
    obtain ⟨w13, hwc⟩ : ∃ W, W = wc := ⟨_, rfl⟩
    subst hwc
    replace bxa := (hbl_.block _ (by omega)).trans bxa
    replace bxc := (hbl_.block _ (by omega)).trans bxc
    replace bxw := (hbl_.block _ (by omega)).trans bxw
    replace inw := inw.step (Stp.of (lo := 0) (hi := 0) hbl_) (.inl (Nat.zero_le _))
    replace bxg := (hbl_.block _ (by omega)).trans bxg
    replace ing := ing.step (Stp.of (lo := 0) (hi := 0) hbl_) (.inl (Nat.zero_le _))
    have B_w13 : Below w.heap.size w w13 := B_w12.trans (hbl_.mono B_w12.size)
    have hs_w13 : w12.heap.size ≤ w13.heap.size := hbl_.size
    clear hbl_ B_w12
    have bxhc0 : w13.cell? ⟨Bh, 0, none⟩ = some (.int .i64 mr.key) := block_cellD bxh 0 _ rfl
    have bxhc1 : w13.cell? ⟨Bh, 1, none⟩ = some (.slice oh mr.l.length ch) := block_cellD bxh 1 _ rfl
    have bxhc2 : w13.cell? ⟨Bh, 2, none⟩ = some (.slice oRh mr.ring.length cRh) := block_cellD bxh 2 _ rfl
    have bxwc0 : w13.cell? ⟨Bw, 0, none⟩ = some (.int .i64 mr.key) := block_cellD bxw 0 _ rfl
    have bxwc1 : w13.cell? ⟨Bw, 1, none⟩ = some (.slice ow mr.l.length cw) := block_cellD bxw 1 _ rfl
    have bxwc2 : w13.cell? ⟨Bw, 2, none⟩ = some (.slice oRw mr.ring.length cRw) := block_cellD bxw 2 _ rfl
    have Hbxa := hide bxa
    clear bxa
    have Hbxc := hide bxc
    clear bxc
    have Hbxw := hide bxw
    clear bxw
    have Hinw := hide inw
    clear inw
    have Hbxg := hide bxg
    clear bxg
    have Hing := hide ing
    clear ing
    have Hbxh := hide bxh
    clear bxh
    have Hinh := hide inh
    clear inh
    have HB_ := hide B_w13
    clear B_w13
    go_wp2_with fail
    clear bxhc0 bxhc1 bxhc2
    clear bxwc0 bxwc1 bxwc2
    have bxa := Hbxa.out
    clear Hbxa
    have bxc := Hbxc.out
    clear Hbxc
    have bxw := Hbxw.out
    clear Hbxw
    have inw := Hinw.out
    clear Hinw
    have bxg := Hbxg.out
    clear Hbxg
    have ing := Hing.out
    clear Hing
    have bxh := Hbxh.out
    clear Hbxh
    have inh := Hinh.out
    clear Hinh
    have B_w13 := HB_.out
    clear HB_
    refine (eqPool_sh _ _ mr w13 (inh.rd.le (by omega)) (inw.rd.le (by omega)) hmr).mono ?_
    rintro e w14 ⟨rfl, hb_w14⟩
    replace bxa := (hb_w14.block _ (by omega)).trans bxa
    replace bxc := (hb_w14.block _ (by omega)).trans bxc
    replace bxw := (hb_w14.block _ (by omega)).trans bxw
    replace inw := inw.step (Stp.of (lo := 0) (hi := 0) hb_w14) (.inl (Nat.zero_le _))
    replace bxg := (hb_w14.block _ (by omega)).trans bxg
    replace ing := ing.step (Stp.of (lo := 0) (hi := 0) hb_w14) (.inl (Nat.zero_le _))
    replace bxh := (hb_w14.block _ (by omega)).trans bxh
    replace inh := inh.step (Stp.of (lo := 0) (hi := 0) hb_w14) (.inl (Nat.zero_le _))
    have B_w14 : Below w.heap.size w w14 := B_w13.trans (hb_w14.mono B_w13.size)
    have hs_w14 : w13.heap.size ≤ w14.heap.size := hb_w14.size
    clear hb_w14 B_w13
    clear inh
    clear bxh
    have bxgc0 : w14.cell? ⟨Bg, 0, none⟩ = some (.int .i64 mr.key) := block_cellD bxg 0 _ rfl
    have bxgc1 : w14.cell? ⟨Bg, 1, none⟩ = some (.slice og mr.l.length cg) := block_cellD bxg 1 _ rfl
    have bxgc2 : w14.cell? ⟨Bg, 2, none⟩ = some (.slice oRg mr.ring.length cRg) := block_cellD bxg 2 _ rfl
    have Hbxa := hide bxa
    clear bxa
    have Hbxc := hide bxc
    clear bxc
    have Hbxw := hide bxw
    clear bxw
    have Hinw := hide inw
    clear inw
    have Hbxg := hide bxg
    clear bxg
    have Hing := hide ing
    clear ing
    have HB_ := hide B_w14
    clear B_w14
    go_wp2_with fail
    clear bxgc0 bxgc1 bxgc2
    have bxa := Hbxa.out
    clear Hbxa
    have bxc := Hbxc.out
    clear Hbxc
    have bxw := Hbxw.out
    clear Hbxw
    have inw := Hinw.out
    clear Hinw
    have bxg := Hbxg.out
    clear Hbxg
    have ing := Hing.out
    clear Hing
    have B_w14 := HB_.out
    clear HB_
    refine (heldPool_sh _ mr 1 w14 (ing.rd.le (by omega)) (by omega) (by omega) hmr).mono ?_
    rintro e w15 ⟨rfl, hb_w15⟩
    replace bxa := (hb_w15.block _ (by omega)).trans bxa
    replace bxc := (hb_w15.block _ (by omega)).trans bxc
    replace bxw := (hb_w15.block _ (by omega)).trans bxw
    replace inw := inw.step (Stp.of (lo := 0) (hi := 0) hb_w15) (.inl (Nat.zero_le _))
    replace bxg := (hb_w15.block _ (by omega)).trans bxg
    replace ing := ing.step (Stp.of (lo := 0) (hi := 0) hb_w15) (.inl (Nat.zero_le _))
    have B_w15 : Below w.heap.size w w15 := B_w14.trans (hb_w15.mono B_w14.size)
    have hs_w15 : w14.heap.size ≤ w15.heap.size := hb_w15.size
    clear hb_w15 B_w14
    have Hbxa := hide bxa
    clear bxa
    have Hbxc := hide bxc
    clear bxc
    have Hbxw := hide bxw
    clear bxw
    have Hinw := hide inw
    clear inw
    have Hbxg := hide bxg
    clear bxg
    have Hing := hide ing
    clear ing
    have HB_ := hide B_w15
    clear B_w15
    go_wp2
    go_ret
    exact ⟨rfl, HB_.out⟩

theorem walkFnExactPoolDo (m : Pm) (o : Option Addr) (cap : Nat) (oR : Option Addr) (cR : Nat) (k i g : Int) (w : World) (hl : lenPm m) (hR : RdPm w.heap.size w (plv m.key (.slice o m.l.length cap) (.slice oR m.ring.length cR)) m) :
    Calls Try.prog 9 #[plv m.key (.slice o m.l.length cap) (.slice oR m.ring.length cR), cmd k i g] w fun e w' => e = .returned (.bool true) ∧ Below w.heap.size w w' := lawFnExactPoolDo _ m k i g w hR hl

set_option maxRecDepth 100000 in
theorem fnExactPoolDo_lifted (os : Os) (started : os.Started) (H : Type) (enc : TypeId × Value → H) :
    ReturnsInHanded {} Try.checked os 9 .any (Rows.fnExactPoolDoSpec.pre6 enc Try.prog Try.f9 Rows.fnExactPoolDoRow.domain false) (Rows.fnExactPoolDoSpec.post enc Try.prog Try.f9 false true false false) := by
  refine returnsInHanded_of_change (C := Try.checked) own started (by kernel_rfl) Try.func9
    (ChangeSpec.witness6 (enc := enc) (C := Try.checked) false ⟨#[], #[.agg #[.int .i64 0, .slice none 0 0, .slice none 0 0], .agg #[.int .i64 0, .int .i64 0, .int .i64 0]], []⟩ 8 (by kernel_rfl) (by kernel_rfl) (by kernel_rfl) (by kernel_rfl)) ?_
  intro W base args ds gs before hval0 hW hcnd _
  have hval : ∀ (j : Nat) t v, Try.f9.params[j]? = some t → args[j]? = some v → Value.okWide Try.prog W .any base t v := hval0
  have hW' := hW
  obtain ⟨p, q, hA0, hV, rfl, hfz, hnd⟩ := hW
  have hA : DataW.TrodAll enc Try.prog W 0 (fun _ => true) true Try.f9.params.toList args.toList ds p := hA0
  rw [Try.params9] at hA hval
  obtain ⟨v0, vs0, d0, ds0, p0, q0, hargs, rfl, rfl, h0, r0⟩ := trodAll_cons hA
  obtain ⟨v1, vs1, d1, ds1, p1, q1, rfl, rfl, rfl, h1, r1⟩ := trodAll_cons r0
  obtain ⟨rfl, rfl, rfl⟩ := trodAll_nil r1
  obtain rfl : args = #[v0, v1] := by cases args; simp_all
  obtain ⟨rfl, rfl⟩ := trodVars_none hV
  have k0 := h0
  have lt0 : ∀ x ∈ p0, x.block < W.heap.size := by obtain ⟨m, hm⟩ := k0; exact DataW.trod_lt m _ _ _ hm
  have k1 := h1
  have lt1 : ∀ x ∈ p1, x.block < W.heap.size := by obtain ⟨m, hm⟩ := k1; exact DataW.trod_lt m _ _ _ hm
  obtain ⟨m0, o0, cap0, oR0, cR0, rfl, hm0, hR0⟩ := open_pool (hval 0 66 v0 rfl rfl) h0
  obtain ⟨a1, b1, c1, rfl⟩ := open_cmd (hval 1 73 v1 rfl rfl) h1
  clear hA0 hval0
  refine (walkFnExactPoolDo m0 o0 cap0 oR0 cR0 a1 b1 c1 W hm0 hR0  ).mono fun e W' ⟨he, bel⟩ => ?_
  subst he
  exact ⟨_, rfl, _, _, _, [], _, [], hW', trodAll_mk1 (shut_bool Try.underlying4 _), (trodAll_cons_mk (Below.trod laidOut (by kernel_rfl) (of_decide_eq_true (by kernel_rfl)) k0 bel lt0) (trodAll_cons_mk (Below.trod laidOut (by kernel_rfl) (of_decide_eq_true (by kernel_rfl)) k1 bel lt1) trodAll_mk0)), rfl, bel.frame _, fun h => by cases h⟩

theorem fnExactPoolDo_over : Rows.fnExactPoolDoRow.holds Try.pinned (OpenSpec.ofChange Rows.fnExactPoolDoSpec) :=
  OpenClaim.holds_of_wide 9 Try.f9 rfl rfl rfl rfl rfl rfl rfl ⟨rfl, rfl, rfl, rfl, rfl⟩ rfl rfl rfl rfl rfl (by kernel_rfl) Try.func9 (by kernel_rfl)
    (of_decide_eq_true (by kernel_rfl)) (by unfold Func.isWrapper; first | (rw [if_pos (by decide +kernel)]; kernel_rfl) | (rw [if_neg (by decide +kernel)]; exact ⟨rfl, rfl⟩))
    (fun os started H enc _ => fnExactPoolDo_lifted os started H enc)

theorem fnExactPoolDo_holds : Rows.FnExactPoolDoSaid := fnExactPoolDo_over

end Go.Proofs.Ytldjaapbkihibaa
