/- Several texts in one: SDr4, SDr4b, SDr4c. -/
import Derived.Test.YtldjaapbkihibaaGrSDraw3
import Derived.Test.YtldjaapbkihibaaGrSPools
import Derived.Deep.RegionLaw
/- Draws of commands. -/
namespace Go.Proofs.Ytldjaapbkihibaa
open Go.ChangeShapes Go.WideShapes Go.ChangeAt Go.RowKit Go.Joins
set_option linter.unusedVariables false
set_option linter.unusedSimpArgs false


/-- What draws leave: the cursor alone is turned of what was. -/
structure Dr (k : Nat) (w w' : World) : Prop where
  cur : isCur k w'
  gr : w.grownBy w' (some k)
theorem Dr.step {k : Nat} {w x y : World} (h : Dr k w x) (hc : isCur k y) (hg : x.grownBy y (some k)) : Dr k w y := ⟨hc, grownBy_then h.gr hg⟩
theorem grown_belowD {w w1 w2 : World} {k B : Nat} (h : w.grownBy w1 (some k)) (hb : Below B w1 w2) (hB : w.heap.size ≤ B) : w.grownBy w2 (some k) :=
  ⟨hb.os.trans h.os, hb.tape.trans h.tape, hb.output.trans h.output, Nat.le_trans h.size hb.size, fun j hj hne => (hb.block j (by omega)).trans (h.block j hj hne)⟩

theorem Dr.below {k : Nat} {w x y : World} (h : Dr k w x) (hk : k < w.heap.size) (hb : Below w.heap.size x y) : Dr k w y := ⟨h.cur.below (hb.mono hk), grown_belowD h.gr hb (Nat.le_refl _)⟩
theorem Dr.lt {k : Nat} {w x : World} (h : Dr k w x) (hk : k < w.heap.size) : k < x.heap.size := Nat.lt_of_lt_of_le hk h.gr.size
theorem grown_box {k q : Nat} {w w' : World} {O : Obj} (hg : w.grownBy w' (some k)) (hq : q < w.heap.size) (hne : q ≠ k) (h : w.heap[q]? = some O) : w'.heap[q]? = some O := (hg.block q hq (by simp [hne])).trans h
theorem set_box {q B j : Nat} {w : World} {O : Obj} {u : Value} (h : w.heap[q]? = some O) (hne : q ≠ B) : (w.setCell ⟨B, j, none⟩ u).heap[q]? = some O := ((grown_set w B j u).block q (Array.getElem?_eq_some_iff.1 h).1 (by simp [hne])).trans h
theorem ownL_other {α : Type} {L : Lay α} {e : TypeId} {w w' : World} {base k : Nat} {v : Value} {l : List α} (h : ownL L e w base v l) (hg : w.grownBy w' (some k)) (hk : k < base) : ownL L e w' base v l :=
World.ownsRow.kept h hg (by
    cases hob : v.ownBlock with
    | none => exact .inl rfl
    | some j => right; have := (h.lt j hob).1; intro e; simp at e; omega)
theorem fin_alloc {W : World} {R : Nat} {x y z z0 z1 z2 : Value} {T : TypeId} (h : W.heap[R]? = some (.cells #[z0, z1, z2] T (0, 0))) (O : Obj) : ((((W.setCell ⟨R, 0, none⟩ x).setCell ⟨R, 1, none⟩ y).setCell ⟨R, 2, none⟩ z).alloc O).cell? ⟨R, 0, none⟩ = some x ∧ ((((W.setCell ⟨R, 0, none⟩ x).setCell ⟨R, 1, none⟩ y).setCell ⟨R, 2, none⟩ z).alloc O).cell? ⟨R, 1, none⟩ = some y ∧ ((((W.setCell ⟨R, 0, none⟩ x).setCell ⟨R, 1, none⟩ y).setCell ⟨R, 2, none⟩ z).alloc O).cell? ⟨R, 2, none⟩ = some z := by
  have b3 := box_put (box_put (box_put h 0 x) 1 y) 2 z
  have b4 := ((Below.refl _ _).alloc (Nat.le_refl _) O).block R (Array.getElem?_eq_some_iff.1 b3).1
  have b5 := b4.trans b3
  exact ⟨bx_cell b5 0 _ rfl, bx_cell b5 1 _ rfl, bx_cell b5 2 _ rfl⟩
theorem pick_any (k : Nat) (vs : List Int) (w : World) (hc : isCur k w) (hk : k < w.heap.size) (h0 : 0 < vs.length) (h1 : vs.length ≤ 1000) :
    Calls Try.prog 81 #[.pointer (some ⟨k, 0, none⟩), .slice (some ⟨w.heap.size, 0, none⟩) vs.length vs.length] (w.alloc (.cells (vs.map (Value.int .i64)).toArray 3)) fun e w' => ∃ x, x ∈ vs ∧ e = .returned (.int .i64 x) ∧ isCur k w' ∧ w.grownBy w' (some k) := by
  refine (l1PickInt_any k w.heap.size vs _ (hc.alloc hk _) (by simp) (by omega) h0 h1 (fun q hq => ?_)).mono ?_
  · refine bx_cell (World.alloc_heap_new w _) q _ ?_
    rw [List.getElem?_toArray, List.getElem?_map, List.getElem?_eq_getElem hq, List.getD_eq_getElem?_getD, List.getElem?_eq_getElem hq]
    rfl
  · rintro e w' ⟨q, hq, rfl, hc', hg'⟩
    refine ⟨_, ?_, rfl, hc', grownBy_then (grown_alloc w _ k) hg'⟩
    rw [List.getD_eq_getElem?_getD, List.getElem?_eq_getElem hq]
    exact List.getElem_mem hq

set_option maxRecDepth 100000 in
set_option maxHeartbeats 2000000 in
theorem l4cmd_any (k : Nat) (w : World) (hc : isCur k w) (hk : k < w.heap.size) :
    Calls Try.prog 103 #[.pointer (some ⟨k, 0, none⟩)] w fun e w' => ∃ a i g : Int, e = .returned (cmd a i g) ∧ cmdOkB a i g = true ∧ Dr k w w' := by
  obtain ⟨W0, hW0⟩ : ∃ W, w.alloc (.cells #[.int .i64 0, .int .i64 0, .int .i64 0] 28) = W := ⟨_, rfl⟩
  have hb0 : Below w.heap.size w W0 := by rw [← hW0]; exact (Below.refl _ _).alloc (Nat.le_refl _) _
  have HD0 := hide (show Dr k w W0 from ⟨hc.below (hb0.mono hk), by rw [← hW0]; exact grown_alloc w _ k⟩)
  have HR0 : Hid (W0.heap[w.heap.size]? = some (.cells #[.int .i64 0, .int .i64 0, .int .i64 0] 28 (0, 0))) := by rw [← hW0]; exact World.alloc_heap_new w _
  have hs0 : w.heap.size < W0.heap.size := by rw [← hW0]; simp
  clear hb0 hc
  go_enter Try.func103, Try.ntmps103
  go_wp2_with fail
  refine (pick_any k [0, 0, 0, 1, 2, 3] W0 HD0.out.cur (HD0.out.lt hk) (by decide) (by decide)).mono ?_
  rintro e w1 ⟨a, ha, rfl, hc1, hg1⟩
  have HA := hide ha
  have HD1 := hide (HD0.out.step hc1 hg1)
  have HR1 := hide (grown_box hg1 hs0 (by omega) HR0.out)
  have hs1 : w.heap.size < w1.heap.size := Nat.lt_of_lt_of_le hs0 hg1.size
  clear ha hc1 hg1 HR0 HD0 hs0
  go_wp2_with fail
  refine (l1Below_any k 5 w1 HD1.out.cur (by decide) (by decide)).mono ?_
  rintro e w2 ⟨i, rfl, hi0, hi5, hc2, hg2⟩
  have HD2 := hide (HD1.out.step hc2 hg2)
  have HR2 := hide (grown_box hg2 hs1 (by omega) HR1.out)
  have hs2 : w.heap.size < w2.heap.size := Nat.lt_of_lt_of_le hs1 hg2.size
  clear hc2 hg2 HR1 HD1 hs1
  have hb3 : Below w2.heap.size w2 (w2.alloc (.cells #[.int .i64 a, .int .i64 i, .int .i64 0] 28)) := (Below.refl _ _).alloc (Nat.le_refl _) _
  have HX3 : Hid ((w2.alloc (.cells #[.int .i64 a, .int .i64 i, .int .i64 0] 28)).heap[w2.heap.size]? = some (.cells #[.int .i64 a, .int .i64 i, .int .i64 0] 28 (0, 0))) := World.alloc_heap_new w2 _
  have HR3 := hide ((hb3.block _ hs2).trans HR2.out)
  have HD3 := hide (HD2.out.below hk (hb3.mono (Nat.le_of_lt hs2)))
  have hs3 : w2.heap.size < ((w2.alloc (.cells #[.int .i64 a, .int .i64 i, .int .i64 0] 28))).heap.size := by simp
  have hsz : ((w2.alloc (.cells #[.int .i64 a, .int .i64 i, .int .i64 0] 28))).heap.size = w2.heap.size + 1 := by simp
  have HSZ := hide hsz
  have hne : ¬ w.heap.size = w2.heap.size := by omega
  clear hb3 hsz
  by_cases h1 : a ≤ 1
  · go_wp2_with fail
    clear HR2 HD2
    generalize (w2.alloc (.cells #[.int .i64 a, .int .i64 i, .int .i64 0] 28)) = W3 at *
    rw [← HSZ.out]
    refine (pick_any k [1, 2, 10, 100] W3 HD3.out.cur (HD3.out.lt hk) (by decide) (by decide)).mono ?_
    rintro e w5 ⟨g, hgm, rfl, hc5, hg5⟩
    have hkw : k < w2.heap.size := by omega
    have HX5 := grown_box hg5 hs3 (by omega) HX3.out
    have HR5 := grown_box hg5 (by omega) (by omega) HR3.out
    have HD5 := hide (HD3.out.step hc5 hg5)
    have HOK := hide (show cmdOkB a i g = true by
      have h2 := HA.out
      simp at h2 hgm
      unfold cmdOkB
      simp
      omega)
    have hX6 := box_put HX5 2 (.int .i64 g)
    have hR6 := set_box (j := 2) (u := .int .i64 g) HR5 (show w.heap.size ≠ w2.heap.size by omega)
    have y2 : w5.cell? ⟨w2.heap.size, 2, none⟩ = some (.int .i64 0) := bx_cell HX5 2 _ rfl
    have fy2 : w5.frozen? ⟨w2.heap.size, 2, none⟩ = false := bx_frozen HX5 2
    have z0 : (w5.setCell ⟨w2.heap.size, 2, none⟩ (.int .i64 g)).cell? ⟨w2.heap.size, 0, none⟩ = some (.int .i64 a) := bx_cell hX6 0 _ rfl
    have z1 : (w5.setCell ⟨w2.heap.size, 2, none⟩ (.int .i64 g)).cell? ⟨w2.heap.size, 1, none⟩ = some (.int .i64 i) := bx_cell hX6 1 _ rfl
    have z2 : (w5.setCell ⟨w2.heap.size, 2, none⟩ (.int .i64 g)).cell? ⟨w2.heap.size, 2, none⟩ = some (.int .i64 g) := bx_cell hX6 2 _ rfl
    have r0 : (w5.setCell ⟨w2.heap.size, 2, none⟩ (.int .i64 g)).cell? ⟨w.heap.size, 0, none⟩ = some (.int .i64 0) := bx_cell hR6 0 _ rfl
    have fr0 : (w5.setCell ⟨w2.heap.size, 2, none⟩ (.int .i64 g)).frozen? ⟨w.heap.size, 0, none⟩ = false := bx_frozen hR6 0
    have r1 : (w5.setCell ⟨w2.heap.size, 2, none⟩ (.int .i64 g)).cell? ⟨w.heap.size, 1, none⟩ = some (.int .i64 0) := bx_cell hR6 1 _ rfl
    have fr1 : (w5.setCell ⟨w2.heap.size, 2, none⟩ (.int .i64 g)).frozen? ⟨w.heap.size, 1, none⟩ = false := bx_frozen hR6 1
    have r2 : (w5.setCell ⟨w2.heap.size, 2, none⟩ (.int .i64 g)).cell? ⟨w.heap.size, 2, none⟩ = some (.int .i64 0) := bx_cell hR6 2 _ rfl
    have fr2 : (w5.setCell ⟨w2.heap.size, 2, none⟩ (.int .i64 g)).frozen? ⟨w.heap.size, 2, none⟩ = false := bx_frozen hR6 2
    clear hc5 hg5 HX5 HR5 hX6 hR6 HX3 HR3 HD3 HA hgm
    go_wp2
    refine bodyPost_ret (v := cmd a i g) (by simp [results, Try.results103, go_sem, r0, r1, r2]) rfl ⟨a, i, g, rfl, HOK.out, HD5.out.below hk ?_⟩
    exact setP_below ((Below.refl _ _).setCell (p := ⟨w2.heap.size, 2, none⟩) (Nat.le_of_lt hs2) _) (Nat.le_refl _) _ _ _
  · have HOK := hide (show cmdOkB a i 0 = true by
      have h2 := HA.out
      simp at h2
      unfold cmdOkB
      simp
      omega)
    have r0 : w2.cell? ⟨w.heap.size, 0, none⟩ = some (.int .i64 0) := bx_cell HR2.out 0 _ rfl
    have fr0 : w2.frozen? ⟨w.heap.size, 0, none⟩ = false := bx_frozen HR2.out 0
    have r1 : w2.cell? ⟨w.heap.size, 1, none⟩ = some (.int .i64 0) := bx_cell HR2.out 1 _ rfl
    have fr1 : w2.frozen? ⟨w.heap.size, 1, none⟩ = false := bx_frozen HR2.out 1
    have r2 : w2.cell? ⟨w.heap.size, 2, none⟩ = some (.int .i64 0) := bx_cell HR2.out 2 _ rfl
    have fr2 : w2.frozen? ⟨w.heap.size, 2, none⟩ = false := bx_frozen HR2.out 2
    obtain ⟨q0, q1, q2⟩ := fin_alloc (x := .int .i64 a) (y := .int .i64 i) (z := .int .i64 0) HR2.out (.cells #[.int .i64 a, .int .i64 i, .int .i64 0] 28)
    have HQ0 := hide q0
    have HQ1 := hide q1
    have HQ2 := hide q2
    clear HX3 HR3 HR2 HA q0 q1 q2
    go_wp2
    refine bodyPost_ret (v := cmd a i 0) (by simp [results, Try.results103, go_sem, HQ0.out, HQ1.out, HQ2.out]) rfl ⟨a, i, 0, rfl, HOK.out, HD2.out.below hk ?_⟩
    exact (setP_below (Below.refl _ _) (Nat.le_refl _) _ _ _).alloc (by simp; omega) _

set_option maxRecDepth 100000 in
set_option maxHeartbeats 4000000 in
theorem l4bentCmd_any (k : Nat) (w : World) (hc : isCur k w) (hk : k < w.heap.size) :
    Calls Try.prog 54 #[.pointer (some ⟨k, 0, none⟩)] w fun e w' => ∃ a i g : Int, e = .returned (cmd a i g) ∧ Dr k w w' := by
  obtain ⟨W0, hW0⟩ : ∃ W, w.alloc (.cells #[.int .i64 0, .int .i64 0, .int .i64 0] 28) = W := ⟨_, rfl⟩
  have hb0 : Below w.heap.size w W0 := by rw [← hW0]; exact (Below.refl _ _).alloc (Nat.le_refl _) _
  have HD0 := hide (show Dr k w W0 from ⟨hc.below (hb0.mono hk), by rw [← hW0]; exact grown_alloc w _ k⟩)
  have HR0 : Hid (W0.heap[w.heap.size]? = some (.cells #[.int .i64 0, .int .i64 0, .int .i64 0] 28 (0, 0))) := by rw [← hW0]; exact World.alloc_heap_new w _
  have hs0 : w.heap.size < W0.heap.size := by rw [← hW0]; simp
  clear hb0 hc
  go_enter Try.func54, Try.ntmps54
  go_wp2_with fail
  refine (l4cmd_any k W0 HD0.out.cur (HD0.out.lt hk)).mono ?_
  rintro e w1 ⟨a, i, g, rfl, _, hd1⟩
  have HD1 := hide (HD0.out.step hd1.cur hd1.gr)
  have HR1 := hide (grown_box hd1.gr hs0 (by omega) HR0.out)
  have hs1 : w.heap.size < w1.heap.size := Nat.lt_of_lt_of_le hs0 hd1.gr.size
  clear hd1 HR0 HD0 hs0
  have hb2 : Below w1.heap.size w1 (w1.alloc (.cells #[.int .i64 a, .int .i64 i, .int .i64 g] 28)) := (Below.refl _ _).alloc (Nat.le_refl _) _
  have HX2 : Hid ((w1.alloc (.cells #[.int .i64 a, .int .i64 i, .int .i64 g] 28)).heap[w1.heap.size]? = some (.cells #[.int .i64 a, .int .i64 i, .int .i64 g] 28 (0, 0))) := World.alloc_heap_new w1 _
  have HR2 := hide ((hb2.block _ hs1).trans HR1.out)
  have HD2 := hide (HD1.out.below hk (hb2.mono (Nat.le_of_lt hs1)))
  have hs2 : w1.heap.size < ((w1.alloc (.cells #[.int .i64 a, .int .i64 i, .int .i64 g] 28))).heap.size := by simp
  have hsz : ((w1.alloc (.cells #[.int .i64 a, .int .i64 i, .int .i64 g] 28))).heap.size = w1.heap.size + 1 := by simp
  have HSZ := hide hsz
  clear hb2 HR1 HD1 hsz
  go_wp2_with fail
  generalize (w1.alloc (.cells #[.int .i64 a, .int .i64 i, .int .i64 g] 28)) = W2 at *
  refine (l1Once_any k 7 W2 HD2.out.cur (by decide) (by decide)).mono ?_
  rintro e w4 ⟨yes, rfl, hc4, hg4⟩
  have HX4 := hide (grown_box hg4 hs2 (by omega) HX2.out)
  have HR4 := hide (grown_box hg4 (by omega) (by omega) HR2.out)
  have HD4 := hide (HD2.out.step hc4 hg4)
  have hs4 : w1.heap.size < w4.heap.size := Nat.lt_of_lt_of_le hs2 hg4.size
  clear hc4 hg4 HX2 HR2 HD2 hs2
  cases yes with
  | false =>
    have z0 : w4.cell? ⟨w1.heap.size, 0, none⟩ = some (.int .i64 a) := bx_cell HX4.out 0 _ rfl
    have z1 : w4.cell? ⟨w1.heap.size, 1, none⟩ = some (.int .i64 i) := bx_cell HX4.out 1 _ rfl
    have z2 : w4.cell? ⟨w1.heap.size, 2, none⟩ = some (.int .i64 g) := bx_cell HX4.out 2 _ rfl
    have r0 : w4.cell? ⟨w.heap.size, 0, none⟩ = some (.int .i64 0) := bx_cell HR4.out 0 _ rfl
    have fr0 : w4.frozen? ⟨w.heap.size, 0, none⟩ = false := bx_frozen HR4.out 0
    have r1 : w4.cell? ⟨w.heap.size, 1, none⟩ = some (.int .i64 0) := bx_cell HR4.out 1 _ rfl
    have fr1 : w4.frozen? ⟨w.heap.size, 1, none⟩ = false := bx_frozen HR4.out 1
    have r2 : w4.cell? ⟨w.heap.size, 2, none⟩ = some (.int .i64 0) := bx_cell HR4.out 2 _ rfl
    have fr2 : w4.frozen? ⟨w.heap.size, 2, none⟩ = false := bx_frozen HR4.out 2
    clear HX4 HR4
    go_wp2
    refine bodyPost_ret (v := cmd a i g) (by simp [results, Try.results54, go_sem, r0, r1, r2]) rfl ⟨a, i, g, rfl, HD4.out.below hk ?_⟩
    exact setP_below (Below.refl _ _) (Nat.le_refl _) _ _ _
  | true =>
    go_wp2_with fail
    refine (l1Below_any k 3 w4 HD4.out.cur (by decide) (by decide)).mono ?_
    rintro e w3 ⟨x, rfl, hx0, hx3, hc3, hg3⟩
    have HX3 := hide (grown_box hg3 hs4 (by omega) HX4.out)
    have HR3 := hide (grown_box hg3 (by omega) (by omega) HR4.out)
    have HD3 := hide (HD4.out.step hc3 hg3)
    have hs3 : w1.heap.size < w3.heap.size := Nat.lt_of_lt_of_le hs4 hg3.size
    clear hc3 hg3 HX4 HR4 HD4 hs4
    by_cases e0 : x = 0
    · subst e0
      go_wp2_with fail
      refine (pick_any k [-1, 4, 2] w3 HD3.out.cur (HD3.out.lt hk) (by decide) (by decide)).mono ?_
      rintro e w5 ⟨y, hym, rfl, hc5, hg5⟩
      have HX5 := grown_box hg5 hs3 (by omega) HX3.out
      have HR5 := grown_box hg5 (by omega) (by omega) HR3.out
      have HD5 := hide (HD3.out.step hc5 hg5)
      have hX6 := box_put HX5 0 (.int .i64 y)
      have hR6 := set_box (j := 0) (u := .int .i64 y) HR5 (show w.heap.size ≠ w1.heap.size by omega)
      have y2 : w5.cell? ⟨w1.heap.size, 0, none⟩ = some (.int .i64 a) := bx_cell HX5 0 _ rfl
      have fy2 : w5.frozen? ⟨w1.heap.size, 0, none⟩ = false := bx_frozen HX5 0
      have z0 : (w5.setCell ⟨w1.heap.size, 0, none⟩ (.int .i64 y)).cell? ⟨w1.heap.size, 0, none⟩ = some (.int .i64 y) := bx_cell hX6 0 _ rfl
      have z1 : (w5.setCell ⟨w1.heap.size, 0, none⟩ (.int .i64 y)).cell? ⟨w1.heap.size, 1, none⟩ = some (.int .i64 i) := bx_cell hX6 1 _ rfl
      have z2 : (w5.setCell ⟨w1.heap.size, 0, none⟩ (.int .i64 y)).cell? ⟨w1.heap.size, 2, none⟩ = some (.int .i64 g) := bx_cell hX6 2 _ rfl
      have r0 : (w5.setCell ⟨w1.heap.size, 0, none⟩ (.int .i64 y)).cell? ⟨w.heap.size, 0, none⟩ = some (.int .i64 0) := bx_cell hR6 0 _ rfl
      have fr0 : (w5.setCell ⟨w1.heap.size, 0, none⟩ (.int .i64 y)).frozen? ⟨w.heap.size, 0, none⟩ = false := bx_frozen hR6 0
      have r1 : (w5.setCell ⟨w1.heap.size, 0, none⟩ (.int .i64 y)).cell? ⟨w.heap.size, 1, none⟩ = some (.int .i64 0) := bx_cell hR6 1 _ rfl
      have fr1 : (w5.setCell ⟨w1.heap.size, 0, none⟩ (.int .i64 y)).frozen? ⟨w.heap.size, 1, none⟩ = false := bx_frozen hR6 1
      have r2 : (w5.setCell ⟨w1.heap.size, 0, none⟩ (.int .i64 y)).cell? ⟨w.heap.size, 2, none⟩ = some (.int .i64 0) := bx_cell hR6 2 _ rfl
      have fr2 : (w5.setCell ⟨w1.heap.size, 0, none⟩ (.int .i64 y)).frozen? ⟨w.heap.size, 2, none⟩ = false := bx_frozen hR6 2
      clear hc5 hg5 HX5 HR5 hX6 hR6 HX3 HR3 HD3 hym
      go_wp2
      refine bodyPost_ret (v := cmd y i g) (by simp [results, Try.results54, go_sem, r0, r1, r2]) rfl ⟨y, i, g, rfl, HD5.out.below hk ?_⟩
      exact setP_below ((Below.refl _ _).setCell (p := ⟨w1.heap.size, 0, none⟩) (Nat.le_of_lt hs1) _) (Nat.le_refl _) _ _ _
    by_cases e1 : x = 1
    · subst e1
      go_wp2_with fail
      refine (pick_any k [-1, 6] w3 HD3.out.cur (HD3.out.lt hk) (by decide) (by decide)).mono ?_
      rintro e w5 ⟨y, hym, rfl, hc5, hg5⟩
      have HX5 := grown_box hg5 hs3 (by omega) HX3.out
      have HR5 := grown_box hg5 (by omega) (by omega) HR3.out
      have HD5 := hide (HD3.out.step hc5 hg5)
      have hX6 := box_put HX5 1 (.int .i64 y)
      have hR6 := set_box (j := 1) (u := .int .i64 y) HR5 (show w.heap.size ≠ w1.heap.size by omega)
      have y2 : w5.cell? ⟨w1.heap.size, 1, none⟩ = some (.int .i64 i) := bx_cell HX5 1 _ rfl
      have fy2 : w5.frozen? ⟨w1.heap.size, 1, none⟩ = false := bx_frozen HX5 1
      have z0 : (w5.setCell ⟨w1.heap.size, 1, none⟩ (.int .i64 y)).cell? ⟨w1.heap.size, 0, none⟩ = some (.int .i64 a) := bx_cell hX6 0 _ rfl
      have z1 : (w5.setCell ⟨w1.heap.size, 1, none⟩ (.int .i64 y)).cell? ⟨w1.heap.size, 1, none⟩ = some (.int .i64 y) := bx_cell hX6 1 _ rfl
      have z2 : (w5.setCell ⟨w1.heap.size, 1, none⟩ (.int .i64 y)).cell? ⟨w1.heap.size, 2, none⟩ = some (.int .i64 g) := bx_cell hX6 2 _ rfl
      have r0 : (w5.setCell ⟨w1.heap.size, 1, none⟩ (.int .i64 y)).cell? ⟨w.heap.size, 0, none⟩ = some (.int .i64 0) := bx_cell hR6 0 _ rfl
      have fr0 : (w5.setCell ⟨w1.heap.size, 1, none⟩ (.int .i64 y)).frozen? ⟨w.heap.size, 0, none⟩ = false := bx_frozen hR6 0
      have r1 : (w5.setCell ⟨w1.heap.size, 1, none⟩ (.int .i64 y)).cell? ⟨w.heap.size, 1, none⟩ = some (.int .i64 0) := bx_cell hR6 1 _ rfl
      have fr1 : (w5.setCell ⟨w1.heap.size, 1, none⟩ (.int .i64 y)).frozen? ⟨w.heap.size, 1, none⟩ = false := bx_frozen hR6 1
      have r2 : (w5.setCell ⟨w1.heap.size, 1, none⟩ (.int .i64 y)).cell? ⟨w.heap.size, 2, none⟩ = some (.int .i64 0) := bx_cell hR6 2 _ rfl
      have fr2 : (w5.setCell ⟨w1.heap.size, 1, none⟩ (.int .i64 y)).frozen? ⟨w.heap.size, 2, none⟩ = false := bx_frozen hR6 2
      clear hc5 hg5 HX5 HR5 hX6 hR6 HX3 HR3 HD3 hym
      go_wp2
      refine bodyPost_ret (v := cmd a y g) (by simp [results, Try.results54, go_sem, r0, r1, r2]) rfl ⟨a, y, g, rfl, HD5.out.below hk ?_⟩
      exact setP_below ((Below.refl _ _).setCell (p := ⟨w1.heap.size, 1, none⟩) (Nat.le_of_lt hs1) _) (Nat.le_refl _) _ _ _
    · go_wp2_with fail
      refine (pick_any k [-1, 0, 101, 5] w3 HD3.out.cur (HD3.out.lt hk) (by decide) (by decide)).mono ?_
      rintro e w5 ⟨y, hym, rfl, hc5, hg5⟩
      have HX5 := grown_box hg5 hs3 (by omega) HX3.out
      have HR5 := grown_box hg5 (by omega) (by omega) HR3.out
      have HD5 := hide (HD3.out.step hc5 hg5)
      have hX6 := box_put HX5 2 (.int .i64 y)
      have hR6 := set_box (j := 2) (u := .int .i64 y) HR5 (show w.heap.size ≠ w1.heap.size by omega)
      have y2 : w5.cell? ⟨w1.heap.size, 2, none⟩ = some (.int .i64 g) := bx_cell HX5 2 _ rfl
      have fy2 : w5.frozen? ⟨w1.heap.size, 2, none⟩ = false := bx_frozen HX5 2
      have z0 : (w5.setCell ⟨w1.heap.size, 2, none⟩ (.int .i64 y)).cell? ⟨w1.heap.size, 0, none⟩ = some (.int .i64 a) := bx_cell hX6 0 _ rfl
      have z1 : (w5.setCell ⟨w1.heap.size, 2, none⟩ (.int .i64 y)).cell? ⟨w1.heap.size, 1, none⟩ = some (.int .i64 i) := bx_cell hX6 1 _ rfl
      have z2 : (w5.setCell ⟨w1.heap.size, 2, none⟩ (.int .i64 y)).cell? ⟨w1.heap.size, 2, none⟩ = some (.int .i64 y) := bx_cell hX6 2 _ rfl
      have r0 : (w5.setCell ⟨w1.heap.size, 2, none⟩ (.int .i64 y)).cell? ⟨w.heap.size, 0, none⟩ = some (.int .i64 0) := bx_cell hR6 0 _ rfl
      have fr0 : (w5.setCell ⟨w1.heap.size, 2, none⟩ (.int .i64 y)).frozen? ⟨w.heap.size, 0, none⟩ = false := bx_frozen hR6 0
      have r1 : (w5.setCell ⟨w1.heap.size, 2, none⟩ (.int .i64 y)).cell? ⟨w.heap.size, 1, none⟩ = some (.int .i64 0) := bx_cell hR6 1 _ rfl
      have fr1 : (w5.setCell ⟨w1.heap.size, 2, none⟩ (.int .i64 y)).frozen? ⟨w.heap.size, 1, none⟩ = false := bx_frozen hR6 1
      have r2 : (w5.setCell ⟨w1.heap.size, 2, none⟩ (.int .i64 y)).cell? ⟨w.heap.size, 2, none⟩ = some (.int .i64 0) := bx_cell hR6 2 _ rfl
      have fr2 : (w5.setCell ⟨w1.heap.size, 2, none⟩ (.int .i64 y)).frozen? ⟨w.heap.size, 2, none⟩ = false := bx_frozen hR6 2
      clear hc5 hg5 HX5 HR5 hX6 hR6 HX3 HR3 HD3 hym
      go_wp2
      refine bodyPost_ret (v := cmd a i y) (by simp [results, Try.results54, go_sem, r0, r1, r2]) rfl ⟨a, i, y, rfl, HD5.out.below hk ?_⟩
      exact setP_below ((Below.refl _ _).setCell (p := ⟨w1.heap.size, 2, none⟩) (Nat.le_of_lt hs1) _) (Nat.le_refl _) _ _ _

end Go.Proofs.Ytldjaapbkihibaa

/- Drawn journals. -/
namespace Go.Proofs.Ytldjaapbkihibaa
open Go.ChangeShapes Go.WideShapes Go.ChangeAt Go.RowKit Go.Joins
set_option linter.unusedVariables false
set_option linter.unusedSimpArgs false


structure JInv (k B R C : Nat) (w0 wr : World) (key : Int) (cs : List Cd) (o : Option Addr) (c : Nat) : Prop where
  box : wr.heap[B]? = some (.cells #[.int .i64 key, .slice o cs.length c, .int .i64 0] 47 (0, 0))
  res : wr.heap[R]? = some (.cells #[.int .i64 0, .slice none 0 0, .int .i64 0] 47 (0, 0))
  own : ownC wr C (.slice o cs.length c) cs
  dr : Dr k w0 wr
theorem JInv.draw {k B R C : Nat} {w0 wr x : World} {key : Int} {cs : List Cd} {o : Option Addr} {c : Nat} (h : JInv k B R C w0 wr key cs o c) (hc : isCur k x) (hg : wr.grownBy x (some k)) (hk : k < w0.heap.size) (hR : w0.heap.size ≤ R) (hB : R < B) (hC : B < C) : JInv k B R C w0 x key cs o c :=
  ⟨grown_box hg (Array.getElem?_eq_some_iff.1 h.box).1 (by omega) h.box, grown_box hg (Array.getElem?_eq_some_iff.1 h.res).1 (by omega) h.res, ownL_other h.own hg (by omega), h.dr.step hc hg⟩
theorem JInv.below {k B R C : Nat} {w0 wr x : World} {key : Int} {cs : List Cd} {o : Option Addr} {c : Nat} (h : JInv k B R C w0 wr key cs o c) (hb : Below wr.heap.size wr x) (hk : k < w0.heap.size) : JInv k B R C w0 x key cs o c :=
  ⟨(hb.block _ (Array.getElem?_eq_some_iff.1 h.box).1).trans h.box, (hb.block _ (Array.getElem?_eq_some_iff.1 h.res).1).trans h.res, own_kept h.own hb, h.dr.below hk (hb.mono h.dr.gr.size)⟩
theorem run_snoc {cs : List Cd} {a i g : Int} {m : List Bk} (hr : (runTo cs cs.length).isSome = true) (hok : cmdOkB a i g = true) (hd : doL (servedOf cs cs.length) a i g = some m) : (runTo (cs ++ [(a, i, g)]) (cs ++ [(a, i, g)]).length).isSome = true := by
  obtain ⟨l, hl⟩ := Option.isSome_iff_exists.1 hr
  have e1 : servedOf cs cs.length = l := by unfold servedOf; rw [hl]; rfl
  rw [e1] at hd
  have e2 : runTo (cs ++ [(a, i, g)]) (cs ++ [(a, i, g)]).length = stepO (runTo cs cs.length) (a, i, g) := by
    unfold runTo
    rw [List.take_length, List.take_length, List.foldl_append]
    rfl
  rw [e2, hl]
  unfold stepO
  simp [hok, hd]
theorem l4do_both (key : Int) (o : Option Addr) (cap : Nat) (l : List Bk) (oR : Option Addr) (cR : Nat) (hsR : List Hd) (k i g : Int) (w : World) (hk : keyB key = true) (hl : backsOkB l = true) (hc : cmdOkB k i g = true) (hlen : l.length ≤ 100) (hR : RdK w.heap.size w o l) (hG : RdL layH w.heap.size w oR hsR) (hnR : oR = none → cR = 0) (hR3 : hsR.length ≤ 3) :
    Calls Try.prog 74 #[plv key (.slice o l.length cap) (.slice oR hsR.length cR), cmd k i g] w fun e w' => ∃ o2 n2 c2 oR2 n3 cR2, e = .returned (.tuple #[plv key (.slice o2 n2 c2) (.slice oR2 n3 cR2), .bool (doL l k i g).isSome]) ∧ Below w.heap.size w w' := by
  cases hm : doL l k i g with
  | none =>
    refine (l4do_no key o cap l oR hsR.length cR k i g w hl hm hlen hR).mono ?_
    rintro e w' ⟨rfl, hb⟩
    exact ⟨_, _, _, _, _, _, rfl, hb⟩
  | some m =>
    refine (l4do_yes key o cap l oR cR hsR k i g m w hk hl hc hm hlen hR hG hnR hR3).mono ?_
    rintro e w' ⟨o2, c2, oR2, n2, cR2, o3, c3, hs3, rfl, _, _, _, _, _, hb⟩
    exact ⟨_, _, _, _, _, _, rfl, hb⟩
theorem replay_l (key : Int) (o : Option Addr) (cap : Nat) (cs : List Cd) (l : List Bk) (n : Nat) (hn : n = cs.length) (w : World) (hs : servedOf cs cs.length = l) (hR : RdC w.heap.size w o cs) (hk : keyB key = true) (hl : cs.length ≤ 100) (hrun : (runTo cs cs.length).isSome = true) :
    Calls Try.prog 97 #[.int .i64 key, .slice o n cap] w fun e w' => ∃ o1 c1 oR cR hs1, e = .returned (plv key (.slice o1 l.length c1) (.slice oR hs1.length cR)) ∧ RdK w'.heap.size w' o1 l ∧ RdL layH w'.heap.size w' oR hs1 ∧ (oR = none → cR = 0) ∧ hs1.length ≤ 3 ∧ Below w.heap.size w w' := by
  subst hs hn
  refine (l4replay_any key o cap cs w hR hk hl hrun).mono ?_
  rintro e w' ⟨o1, c1, oR, cR, hs1, rfl, h1, h2, _, h3, hb⟩
  exact ⟨o1, c1, oR, cR, hs1, rfl, ownL.rds (L := layK) h1, ownL.rds (L := layH) h2, capH h2, h3, hb⟩
theorem finS {cur W : World} {B : Nat} {x y z f : Value} (hx : Below cur.heap.size cur W) (hB : cur.heap.size ≤ B) : ∃ B', Value.pointer (some ⟨B, 0, none⟩) = .pointer (some ⟨B', 0, none⟩) ∧ f = f ∧ Hid (Below cur.heap.size cur (setP W B x y z)) := ⟨B, rfl, rfl, setP_below hx hB _ _ _⟩
theorem finSn {cur W : World} {x y z f : Value} {T : TypeId} (hx : Below cur.heap.size cur W) : ∃ B', Value.pointer (some ⟨W.heap.size, 0, none⟩) = .pointer (some ⟨B', 0, none⟩) ∧ f = f ∧ Hid (Below cur.heap.size cur (W.alloc (.cells #[x, y, z] T))) := ⟨_, rfl, rfl, hx.alloc hx.size _⟩
theorem box_newS {w new : World} {c : Array Value} {T : TypeId} (hb : Below (w.alloc (.cells c T)).heap.size (w.alloc (.cells c T)) new) : new.heap[w.heap.size]? = some (.cells c T (0, 0)) :=
  (hb.block w.heap.size (by simp)).trans (World.alloc_heap_new w (.cells c T))
theorem box_newSd {w new : World} {c : Array Value} {T : TypeId} (hb : Below (w.alloc (.cells c T)).drew.heap.size (w.alloc (.cells c T)).drew new) : new.heap[w.heap.size]? = some (.cells c T (0, 0)) :=
  (hb.block w.heap.size (by simp)).trans (World.alloc_heap_new w (.cells c T))

set_option maxRecDepth 100000 in
set_option maxHeartbeats 16000000 in
theorem l4drawJ_any (k : Nat) (w : World) (hc : isCur k w) (hk : k < w.heap.size) :
    Calls Try.prog 78 #[.pointer (some ⟨k, 0, none⟩)] w fun e w' => ∃ v m, e = .returned v ∧ InJm w.heap.size w'.heap.size w' v m ∧ journalB m.key m.l m.safe = true ∧ m.l.length ≤ 10 ∧ Dr k w w' := by
  obtain ⟨W0, hW0⟩ : ∃ W, w.alloc (.cells #[.int .i64 0, .slice none 0 0, .int .i64 0] 47) = W := ⟨_, rfl⟩
  have hb0 : Below w.heap.size w W0 := by rw [← hW0]; exact (Below.refl _ _).alloc (Nat.le_refl _) _
  have HD0 := hide (show Dr k w W0 from ⟨hc.below (hb0.mono hk), by rw [← hW0]; exact grown_alloc w _ k⟩)
  have HR0 : Hid (W0.heap[w.heap.size]? = some (.cells #[.int .i64 0, .slice none 0 0, .int .i64 0] 47 (0, 0))) := by rw [← hW0]; exact World.alloc_heap_new w _
  have hs0 : w.heap.size < W0.heap.size := by rw [← hW0]; simp
  clear hb0 hc
  go_enter Try.func78, Try.ntmps78
  go_wp2_with fail
  refine (l1Below_any k 50 W0 HD0.out.cur (by decide) (by decide)).mono ?_
  rintro e w1 ⟨key, rfl, hk0, hk50, hc1, hg1⟩
  have HD1 := hide (HD0.out.step hc1 hg1)
  have HR1 := hide (grown_box hg1 hs0 (by omega) HR0.out)
  have hs1 : w.heap.size < w1.heap.size := Nat.lt_of_lt_of_le hs0 hg1.size
  have HKEY := hide (show keyB key = true by unfold keyB; simp; omega)
  clear hc1 hg1 HR0 HD0 hs0
  have hb2 : Below w1.heap.size w1 (w1.alloc (.cells #[.int .i64 key, .slice none 0 0, .int .i64 0] 47)) := (Below.refl _ _).alloc (Nat.le_refl _) _
  have HX2 : Hid ((w1.alloc (.cells #[.int .i64 key, .slice none 0 0, .int .i64 0] 47)).heap[w1.heap.size]? = some (.cells #[.int .i64 key, .slice none 0 0, .int .i64 0] 47 (0, 0))) := World.alloc_heap_new w1 _
  have HR2 := hide ((hb2.block _ hs1).trans HR1.out)
  have HD2 := hide (HD1.out.below hk (hb2.mono (Nat.le_of_lt hs1)))
  have hs2 : w1.heap.size < ((w1.alloc (.cells #[.int .i64 key, .slice none 0 0, .int .i64 0] 47))).heap.size := by simp
  have HO2 : Hid (ownC (w1.alloc (.cells #[.int .i64 key, .slice none 0 0, .int .i64 0] 47)) (w1.heap.size + 1) (.slice none 0 0) []) := World.ownsRow_nil _ _ _ _
  have HSZ : Hid (((w1.alloc (.cells #[.int .i64 key, .slice none 0 0, .int .i64 0] 47))).heap.size = w1.heap.size + 1) := by unfold Hid; simp
  clear hb2 HR1 HD1
  go_wp2_with fail
  generalize (w1.alloc (.cells #[.int .i64 key, .slice none 0 0, .int .i64 0] 47)) = W2 at *
  refine (l1Below_any k 10 W2 HD2.out.cur (by decide) (by decide)).mono ?_
  rintro e w3 ⟨n', rfl, hn0, hn10, hc3, hg3⟩
  obtain ⟨n, rfl⟩ := Int.eq_ofNat_of_zero_le hn0
  have HJ3 := hide (JInv.draw (C := w1.heap.size + 1) (⟨HX2.out, HR2.out, HO2.out, HD2.out⟩ : JInv k w1.heap.size w.heap.size (w1.heap.size + 1) w W2 key [] none 0) hc3 hg3 hk (Nat.le_refl _) hs1 (Nat.lt_succ_self _))
  clear hc3 hg3 HX2 HR2 HO2 HD2 hs2 HSZ
  obtain ⟨B, hB⟩ : ∃ B, w1.heap.size = B := ⟨_, rfl⟩
  simp only [hB] at HJ3 hs1 ⊢
  clear hB
  go_wp2
  go_loopw [5] (fun iv wr => ∃ (i : Nat) (cs : List Cd) (oJ : Option Addr) (cJ : Nat), i ≤ n ∧ iv = .int .i64 (i : Int) ∧ Hid (JInv k B w.heap.size (B + 1) w wr key cs oJ cJ) ∧ cs.length ≤ i ∧ Hid ((runTo cs cs.length).isSome = true))
    (fun iv _ => n - (intOf iv).toNat)
  case atStart => exact ⟨0, [], none, 0, Nat.zero_le _, rfl, HJ3.out, Nat.le_refl _, rfl⟩
  case round =>
    rename World => wr
    obtain ⟨i, cs, oJ, cJ, hi', rfl, HJ, hcl, HRUN⟩ := hrel
    clear HJ3
    have HKL := hide (HJ.out.dr.lt hk)
    by_cases hlt : i < n
    · have hlt' : (i : Int) < (n : Int) := by omega
      go_wp2_with fail
      refine (l4cmd_any k wr HJ.out.dr.cur HKL.out).mono ?_
      rintro e x1 ⟨a, i2, g, rfl, hok, hd⟩
      have HOK := hide hok
      have HJ1 := hide (HJ.out.draw hd.cur hd.gr hk (Nat.le_refl _) hs1 (Nat.lt_succ_self _))
      clear hok hd HJ HKL
      have hBx : B < x1.heap.size := (Array.getElem?_eq_some_iff.1 HJ1.out.box).1
      have hb2 : Below x1.heap.size x1 (x1.alloc (.cells #[.int .i64 a, .int .i64 i2, .int .i64 g] 28)) := (Below.refl _ _).alloc (Nat.le_refl _) _
      have HX2 : Hid ((x1.alloc (.cells #[.int .i64 a, .int .i64 i2, .int .i64 g] 28)).heap[x1.heap.size]? = some (.cells #[.int .i64 a, .int .i64 i2, .int .i64 g] 28 (0, 0))) := World.alloc_heap_new x1 _
      have HJ2 := hide (HJ1.out.below hb2 hk)
      have hku : x1.heap.size < ((x1.alloc (.cells #[.int .i64 a, .int .i64 i2, .int .i64 g] 28))).heap.size := by simp
      clear hb2 HJ1
      obtain ⟨l, hl⟩ : ∃ l, servedOf cs cs.length = l := ⟨_, rfl⟩
      have HL := hide hl
      have HLF := hide (show backsOkB l = true ∧ l.length ≤ 100 by
        have h := served_facts (key := key) (cs := cs) (safe := 0) (by unfold journalB; simp only [Bool.and_eq_true, decide_eq_true_eq]; exact ⟨⟨⟨⟨HKEY.out, by omega⟩, by omega⟩, by omega⟩, HRUN.out⟩)
        rw [hl] at h
        exact h)
      obtain ⟨m, hm⟩ : ∃ m, m = cs.length := ⟨_, rfl⟩
      have HM := hide hm
      have HB1 : Hid ((x1.alloc (.cells #[.int .i64 a, .int .i64 i2, .int .i64 g] 28)).heap[B]? = some (.cells #[.int .i64 key, .slice oJ m cJ, .int .i64 0] 47 (0, 0))) := by unfold Hid; rw [hm]; exact HJ2.out.box
      have HREP := hide (fun W (hb : Below ((x1.alloc (.cells #[.int .i64 a, .int .i64 i2, .int .i64 g] 28))).heap.size (x1.alloc (.cells #[.int .i64 a, .int .i64 i2, .int .i64 g] 28)) W) => replay_l key oJ cJ cs l m hm W hl (((ownL.rds (L := layC) HJ2.out.own).kept hb (Nat.le_refl _)).le hb.size) HKEY.out (by omega) HRUN.out)
      have HDO := hide (fun o1 c1 oR1 cR1 hs1 W rk rr cr h31 => l4do_both key o1 c1 l oR1 cR1 hs1 a i2 g W HKEY.out HLF.out.1 HOK.out HLF.out.2 rk rr cr h31)
      have hmi : m ≤ i := by omega
      clear hl hm
      obtain ⟨t, ht⟩ : ∃ t, (doL l a i2 g).isSome = t := ⟨_, rfl⟩
      rw [ht] at HDO
      have HT := hide ht
      clear ht
      go_upto_region 7 with fail
      generalize (x1.alloc (.cells #[.int .i64 a, .int .i64 i2, .int .i64 g] 28)) = X2 at *
      have hkB : B < X2.heap.size := by omega
      have z0 : X2.cell? ⟨B, 0, none⟩ = some (.int .i64 key) := bx_cell HB1.out 0 _ rfl
      have z1 : X2.cell? ⟨B, 1, none⟩ = some (.slice oJ m cJ) := bx_cell HB1.out 1 _ rfl
      have u0 : X2.cell? ⟨x1.heap.size, 0, none⟩ = some (.int .i64 a) := bx_cell HX2.out 0 _ rfl
      have u1 : X2.cell? ⟨x1.heap.size, 1, none⟩ = some (.int .i64 i2) := bx_cell HX2.out 1 _ rfl
      have u2 : X2.cell? ⟨x1.heap.size, 2, none⟩ = some (.int .i64 g) := bx_cell HX2.out 2 _ rfl
      go_cut [7, 8] from 21 to 30 (fun s7 s8 wx => ∃ B', s7 = .pointer (some ⟨B', 0, none⟩) ∧ s8 = .bool t ∧ Hid (Below X2.heap.size X2 wx))
      case first =>
        go_region_held3 (fun w' => w'.cell? ⟨B, 0, none⟩ = some (.int .i64 key) ∧ w'.cell? ⟨B, 1, none⟩ = some (.slice oJ m cJ) ∧ w'.cell? ⟨x1.heap.size, 0, none⟩ = some (.int .i64 a) ∧ w'.cell? ⟨x1.heap.size, 1, none⟩ = some (.int .i64 i2) ∧ w'.cell? ⟨x1.heap.size, 2, none⟩ = some (.int .i64 g)) (first | with_reducible exact ⟨k1_0, k1_1, k1_2, k1_3, k1_4⟩ | with_reducible exact ⟨k0_0, k0_1, k0_2, k0_3, k0_4⟩ | with_reducible exact ⟨z0, z1, u0, u1, u2⟩ | with_reducible exact ⟨setP_cell k1_0 (show B < X2.heap.size by omega), setP_cell k1_1 (show B < X2.heap.size by omega), setP_cell k1_2 (show x1.heap.size < X2.heap.size by omega), setP_cell k1_3 (show x1.heap.size < X2.heap.size by omega), setP_cell k1_4 (show x1.heap.size < X2.heap.size by omega)⟩ | with_reducible exact ⟨setP_cell k1_0 (show B < x09.heap.size by omega), setP_cell k1_1 (show B < x09.heap.size by omega), setP_cell k1_2 (show x1.heap.size < x09.heap.size by omega), setP_cell k1_3 (show x1.heap.size < x09.heap.size by omega), setP_cell k1_4 (show x1.heap.size < x09.heap.size by omega)⟩ | go_keep) (first | (go_at_call 97; have hc_ := HREP.out X2.drew (Below.drew (Below.refl _ _)); with_reducible refine hc_.mono ?_; clear hc_; rintro e x09 ⟨o1, c1, oR1, cR1, hs1, rfl, rk1, rr1, cr1, h31, hb⟩; have hp0 : Below X2.heap.size X2 x09 := Below.trans (show Below X2.heap.size X2 X2.drew from (Below.drew (Below.refl _ _))) (hb.mono (by simp)); have sp0 : X2.heap.size ≤ x09.heap.size := hp0.size; have hx0 : Below X2.heap.size X2 x09 := hp0; have k0_0 := (hx0.cell (p := ⟨B, 0, none⟩) hkB).trans z0; have k0_1 := (hx0.cell (p := ⟨B, 1, none⟩) hkB).trans z1; have k0_2 := (hx0.cell (p := ⟨x1.heap.size, 0, none⟩) hku).trans u0; have k0_3 := (hx0.cell (p := ⟨x1.heap.size, 1, none⟩) hku).trans u1; have k0_4 := (hx0.cell (p := ⟨x1.heap.size, 2, none⟩) hku).trans u2; (try have hzl0_0 := (Array.getElem?_eq_some_iff.1 hZ0_0).1); clear hb) | (go_at_call 97; have hc_ := HREP.out (X2.alloc (.cells #[.int .i64 0, .slice none 0 0, .slice none 0 0] 26)).drew (Below.drew ((Below.refl _ _).alloc (Nat.le_refl _) _)); with_reducible refine hc_.mono ?_; clear hc_; rintro e x09 ⟨o1, c1, oR1, cR1, hs1, rfl, rk1, rr1, cr1, h31, hb⟩; have hp0 : Below X2.heap.size X2 x09 := Below.trans (show Below X2.heap.size X2 (X2.alloc (.cells #[.int .i64 0, .slice none 0 0, .slice none 0 0] 26)).drew from (Below.drew ((Below.refl _ _).alloc (Nat.le_refl _) _))) (hb.mono (by simp)); have sp0 : X2.heap.size ≤ x09.heap.size := hp0.size; have hx0 : Below X2.heap.size X2 x09 := hp0; have k0_0 := (hx0.cell (p := ⟨B, 0, none⟩) hkB).trans z0; have k0_1 := (hx0.cell (p := ⟨B, 1, none⟩) hkB).trans z1; have k0_2 := (hx0.cell (p := ⟨x1.heap.size, 0, none⟩) hku).trans u0; have k0_3 := (hx0.cell (p := ⟨x1.heap.size, 1, none⟩) hku).trans u1; have k0_4 := (hx0.cell (p := ⟨x1.heap.size, 2, none⟩) hku).trans u2; have hZ0_0 : x09.heap[X2.heap.size]? = some (.cells #[.int .i64 0, .slice none 0 0, .slice none 0 0] 26 (0, 0)) := (box_newSd hb); (try have hzl0_0 := (Array.getElem?_eq_some_iff.1 hZ0_0).1); clear hb) | (go_at_call 74; have hc_ := HDO.out o1 c1 oR1 cR1 hs1 x09 rk1 rr1 cr1 h31; with_reducible refine hc_.mono ?_; clear hc_; rintro e x19 ⟨o2, n2, c2, oR2, n3, cR2, rfl, hb⟩; have hp1 : Below x09.heap.size x09 x19 := hb; have sp1 : x09.heap.size ≤ x19.heap.size := hp1.size; have hx1 : Below X2.heap.size X2 x19 := hx0.trans (hp1.mono hx0.size); have k1_0 := (hx1.cell (p := ⟨B, 0, none⟩) hkB).trans z0; have k1_1 := (hx1.cell (p := ⟨B, 1, none⟩) hkB).trans z1; have k1_2 := (hx1.cell (p := ⟨x1.heap.size, 0, none⟩) hku).trans u0; have k1_3 := (hx1.cell (p := ⟨x1.heap.size, 1, none⟩) hku).trans u1; have k1_4 := (hx1.cell (p := ⟨x1.heap.size, 2, none⟩) hku).trans u2; (try have hZ1_0 : x19.heap[X2.heap.size]? = some (.cells #[.int .i64 0, .slice none 0 0, .slice none 0 0] 26 (0, 0)) := (hp1.block _ (Array.getElem?_eq_some_iff.1 hZ0_0).1).trans hZ0_0); (try have hzl1_0 := (Array.getElem?_eq_some_iff.1 hZ1_0).1); (try have hzl1_1 := (Array.getElem?_eq_some_iff.1 hZ1_1).1); (try have hzc0_0 : x19.cell? ⟨X2.heap.size, 0, none⟩ = some (.int .i64 0) := bx_cell hZ1_0 0 _ rfl); (try have hzf0_0 := bx_frozen hZ1_0 0); (try have hzc0_1 : x19.cell? ⟨X2.heap.size, 1, none⟩ = some (.slice none 0 0) := bx_cell hZ1_0 1 _ rfl); (try have hzf0_1 := bx_frozen hZ1_0 1); (try have hzc0_2 : x19.cell? ⟨X2.heap.size, 2, none⟩ = some (.slice none 0 0) := bx_cell hZ1_0 2 _ rfl); (try have hzf0_2 := bx_frozen hZ1_0 2); (try have hzc1_0 : x19.cell? ⟨x09.heap.size, 0, none⟩ = some (.int .i64 0) := bx_cell hZ1_1 0 _ rfl); (try have hzf1_0 := bx_frozen hZ1_1 0); (try have hzc1_1 : x19.cell? ⟨x09.heap.size, 1, none⟩ = some (.slice none 0 0) := bx_cell hZ1_1 1 _ rfl); (try have hzf1_1 := bx_frozen hZ1_1 1); (try have hzc1_2 : x19.cell? ⟨x09.heap.size, 2, none⟩ = some (.slice none 0 0) := bx_cell hZ1_1 2 _ rfl); (try have hzf1_2 := bx_frozen hZ1_1 2); clear hb) | (go_at_call 74; have hc_ := HDO.out o1 c1 oR1 cR1 hs1 (x09.alloc (.cells #[.int .i64 0, .slice none 0 0, .slice none 0 0] 26)) ((rk1.kept ((Below.refl _ _).alloc (Nat.le_refl _) _) (Nat.le_refl _)).le (by simp)) ((rr1.kept ((Below.refl _ _).alloc (Nat.le_refl _) _) (Nat.le_refl _)).le (by simp)) cr1 h31; with_reducible refine hc_.mono ?_; clear hc_; rintro e x19 ⟨o2, n2, c2, oR2, n3, cR2, rfl, hb⟩; have hp1 : Below x09.heap.size x09 x19 := Below.trans (show Below x09.heap.size x09 (x09.alloc (.cells #[.int .i64 0, .slice none 0 0, .slice none 0 0] 26)) from ((Below.refl _ _).alloc (Nat.le_refl _) _)) (hb.mono (by simp)); have sp1 : x09.heap.size ≤ x19.heap.size := hp1.size; have hx1 : Below X2.heap.size X2 x19 := hx0.trans (hp1.mono hx0.size); have k1_0 := (hx1.cell (p := ⟨B, 0, none⟩) hkB).trans z0; have k1_1 := (hx1.cell (p := ⟨B, 1, none⟩) hkB).trans z1; have k1_2 := (hx1.cell (p := ⟨x1.heap.size, 0, none⟩) hku).trans u0; have k1_3 := (hx1.cell (p := ⟨x1.heap.size, 1, none⟩) hku).trans u1; have k1_4 := (hx1.cell (p := ⟨x1.heap.size, 2, none⟩) hku).trans u2; (try have hZ1_0 : x19.heap[X2.heap.size]? = some (.cells #[.int .i64 0, .slice none 0 0, .slice none 0 0] 26 (0, 0)) := (hp1.block _ (Array.getElem?_eq_some_iff.1 hZ0_0).1).trans hZ0_0); have hZ1_1 : x19.heap[x09.heap.size]? = some (.cells #[.int .i64 0, .slice none 0 0, .slice none 0 0] 26 (0, 0)) := (box_newS hb); (try have hzl1_0 := (Array.getElem?_eq_some_iff.1 hZ1_0).1); (try have hzl1_1 := (Array.getElem?_eq_some_iff.1 hZ1_1).1); (try have hzc0_0 : x19.cell? ⟨X2.heap.size, 0, none⟩ = some (.int .i64 0) := bx_cell hZ1_0 0 _ rfl); (try have hzf0_0 := bx_frozen hZ1_0 0); (try have hzc0_1 : x19.cell? ⟨X2.heap.size, 1, none⟩ = some (.slice none 0 0) := bx_cell hZ1_0 1 _ rfl); (try have hzf0_1 := bx_frozen hZ1_0 1); (try have hzc0_2 : x19.cell? ⟨X2.heap.size, 2, none⟩ = some (.slice none 0 0) := bx_cell hZ1_0 2 _ rfl); (try have hzf0_2 := bx_frozen hZ1_0 2); (try have hzc1_0 : x19.cell? ⟨x09.heap.size, 0, none⟩ = some (.int .i64 0) := bx_cell hZ1_1 0 _ rfl); (try have hzf1_0 := bx_frozen hZ1_1 0); (try have hzc1_1 : x19.cell? ⟨x09.heap.size, 1, none⟩ = some (.slice none 0 0) := bx_cell hZ1_1 1 _ rfl); (try have hzf1_1 := bx_frozen hZ1_1 1); (try have hzc1_2 : x19.cell? ⟨x09.heap.size, 2, none⟩ = some (.slice none 0 0) := bx_cell hZ1_1 2 _ rfl); (try have hzf1_2 := bx_frozen hZ1_1 2); clear hb))
        all_goals (go_wp2_with fail; go_meet)
        all_goals first
          | with_reducible exact finS hx1 (show _ ≤ X2.heap.size by omega)
          | with_reducible exact finS hx1 (show _ ≤ x09.heap.size by omega)
          | with_reducible exact finSn hx1
      case rest =>
        obtain ⟨B9, rfl, rfl, HBL⟩ := hcut
        have hb := HBL.out
        have hwz := hb.size
        have HX3 := hide ((hb.block _ hku).trans HX2.out)
        have HJ4 := hide (HJ2.out.below hb hk)
        clear hb HBL HX2 HJ2 HB1 z0 z1 u0 u1 u2 HREP HDO
        cases t with
        | false =>
          go_wp2
          go_roundw
          case rel => exact ⟨i + 1, cs, oJ, cJ, by omega, by go_num, HJ4.out, by omega, HRUN.out⟩
          case measure => simp [intOf]; omega
        | true =>
          obtain ⟨mm, hmm⟩ := Option.isSome_iff_exists.1 HT.out
          have HRUN2 := hide (run_snoc HRUN.out HOK.out (by rw [HL.out]; exact hmm))
          clear hmm
          have HB4 : Hid (wc.heap[B]? = some (.cells #[.int .i64 key, .slice oJ m cJ, .int .i64 0] 47 (0, 0))) := by unfold Hid; rw [HM.out]; exact HJ4.out.box
          have y1 : wc.cell? ⟨B, 1, none⟩ = some (.slice oJ m cJ) := bx_cell HB4.out 1 _ rfl
          have v0 : wc.cell? ⟨x1.heap.size, 0, none⟩ = some (.int .i64 a) := bx_cell HX3.out 0 _ rfl
          have v1 : wc.cell? ⟨x1.heap.size, 1, none⟩ = some (.int .i64 i2) := bx_cell HX3.out 1 _ rfl
          have v2 : wc.cell? ⟨x1.heap.size, 2, none⟩ = some (.int .i64 g) := bx_cell HX3.out 2 _ rfl
          have HOW : Hid (ownC wc (B + 1) (.slice oJ m cJ) cs) := by unfold Hid; rw [HM.out]; exact HJ4.out.own
          have HA := hide (World.ownsRow.alloc HOW.out (.cells #[.int .i64 a, .int .i64 i2, .int .i64 g] 28))
          have hBw : B < wc.heap.size := by omega
          go_wp2_with (first | (at_builtin; refine wpList_append_lay appC0 rfl (.tmp 33) (.tmp 35) rfl (B + 1) _ cs rfl HA.out (some ⟨wc.heap.size, 0, none⟩) 1 _ [(a, i2, g)] 1 rfl rfl (by simp) rd_oneC (by simp; omega) (by simp; omega) ?_))
          intro v8 w8 ho8 hg8 _
          obtain ⟨o8, c8, e8, _⟩ := ownL.open (L := layC) ho8
          subst e8
          have HNE : Hid (∀ q, q ≤ B → ¬ (some q = (Value.slice oJ m cJ).ownBlock)) := fun q hq e => by have := (HOW.out.lt q e.symm).1; omega
          have hbw : Below wc.heap.size wc (wc.alloc (.cells #[.int .i64 a, .int .i64 i2, .int .i64 g] 28)) := (Below.refl _ _).alloc (Nat.le_refl _) _
          have hx8 := (hg8.block B (by simp; omega) (HNE.out B (Nat.le_refl _))).trans ((hbw.block B hBw).trans HB4.out)
          have hr8 := (hg8.block w.heap.size (by simp; omega) (HNE.out _ (by omega))).trans ((hbw.block w.heap.size (by omega)).trans HJ4.out.res)
          have hb8 : Below w.heap.size wc w8 := (hbw.mono (by omega)).grown hg8 (by simp; omega) (fun q h => by have := (HOW.out.lt q h).1; omega)
          have HD8 := hide (HJ4.out.dr.below hk hb8)
          have p8 : w8.cell? ⟨B, 1, none⟩ = some (.slice oJ m cJ) := bx_cell hx8 1 _ rfl
          have f8 : w8.frozen? ⟨B, 1, none⟩ = false := bx_frozen hx8 1
          have HJ9 := hide (show JInv k B w.heap.size (B + 1) w (w8.setCell ⟨B, 1, none⟩ (.slice o8 (cs ++ [(a, i2, g)]).length c8)) key (cs ++ [(a, i2, g)]) o8 c8 from ⟨box_put hx8 1 _, set_box hr8 (by omega), own_putJ ho8 hx8 1 _, HD8.out.below hk ((Below.refl _ _).setCell (p := ⟨B, 1, none⟩) (by exact Nat.le_of_lt hs1) _)⟩)
          clear hg8 ho8 hx8 hr8 hb8 hbw HD8 y1 v0 v1 v2
          go_wp2
          go_roundw
          case rel => exact ⟨i + 1, cs ++ [(a, i2, g)], o8, c8, by omega, by go_num, by have h := HJ9.out; rw [List.length_append] at h; exact h, by simp; omega, HRUN2.out⟩
          case measure => simp [intOf]; omega
    · have e : i = n := by omega
      subst e
      have hn : i ≤ 10 := by omega
      obtain ⟨m, hm⟩ : ∃ m, m = cs.length := ⟨_, rfl⟩
      have HM := hide hm
      have HB4 : Hid (wr.heap[B]? = some (.cells #[.int .i64 key, .slice oJ m cJ, .int .i64 0] 47 (0, 0))) := by unfold Hid; rw [hm]; exact HJ.out.box
      have z1 : wr.cell? ⟨B, 1, none⟩ = some (.slice oJ m cJ) := bx_cell HB4.out 1 _ rfl
      have hmi : m ≤ i := by omega
      clear hm
      go_wp2_with fail
      refine (l1Below_any k ((m : Int) + 1) wr HJ.out.dr.cur (by omega) (by omega)).mono ?_
      rintro e w5 ⟨s, rfl, hs0, hs1', hc5, hg5⟩
      have HJ5 := hide (HJ.out.draw hc5 hg5 hk (Nat.le_refl _) hs1 (Nat.lt_succ_self _))
      have hB5 : w5.heap[B]? = some (.cells #[.int .i64 key, .slice oJ m cJ, .int .i64 0] 47 (0, 0)) := by rw [HM.out]; exact HJ5.out.box
      have hX6 := box_put hB5 2 (.int .i64 s)
      have hR6 := set_box (j := 2) (u := .int .i64 s) HJ5.out.res (show w.heap.size ≠ B by omega)
      have HO6 := hide (own_putJ (own_putJ (own_putJ (own_putJ (show ownC w5 (B + 1) (.slice oJ m cJ) cs by rw [HM.out]; exact HJ5.out.own) hB5 2 (.int .i64 s)) hR6 0 (.int .i64 key)) (box_put hR6 0 (.int .i64 key)) 1 (.slice oJ m cJ)) (box_put (box_put hR6 0 (.int .i64 key)) 1 (.slice oJ m cJ)) 2 (.int .i64 s))
      have y2 : w5.cell? ⟨B, 2, none⟩ = some (.int .i64 0) := bx_cell hB5 2 _ rfl
      have fy2 : w5.frozen? ⟨B, 2, none⟩ = false := bx_frozen hB5 2
      have v0 : (w5.setCell ⟨B, 2, none⟩ (.int .i64 s)).cell? ⟨B, 0, none⟩ = some (.int .i64 key) := bx_cell hX6 0 _ rfl
      have v1 : (w5.setCell ⟨B, 2, none⟩ (.int .i64 s)).cell? ⟨B, 1, none⟩ = some (.slice oJ m cJ) := bx_cell hX6 1 _ rfl
      have v2 : (w5.setCell ⟨B, 2, none⟩ (.int .i64 s)).cell? ⟨B, 2, none⟩ = some (.int .i64 s) := bx_cell hX6 2 _ rfl
      have r0 : (w5.setCell ⟨B, 2, none⟩ (.int .i64 s)).cell? ⟨w.heap.size, 0, none⟩ = some (.int .i64 0) := bx_cell hR6 0 _ rfl
      have fr0 : (w5.setCell ⟨B, 2, none⟩ (.int .i64 s)).frozen? ⟨w.heap.size, 0, none⟩ = false := bx_frozen hR6 0
      have r1 : (w5.setCell ⟨B, 2, none⟩ (.int .i64 s)).cell? ⟨w.heap.size, 1, none⟩ = some (.slice none 0 0) := bx_cell hR6 1 _ rfl
      have fr1 : (w5.setCell ⟨B, 2, none⟩ (.int .i64 s)).frozen? ⟨w.heap.size, 1, none⟩ = false := bx_frozen hR6 1
      have r2 : (w5.setCell ⟨B, 2, none⟩ (.int .i64 s)).cell? ⟨w.heap.size, 2, none⟩ = some (.int .i64 0) := bx_cell hR6 2 _ rfl
      have fr2 : (w5.setCell ⟨B, 2, none⟩ (.int .i64 s)).frozen? ⟨w.heap.size, 2, none⟩ = false := bx_frozen hR6 2
      have HJB := hide (show journalB key cs s = true by unfold journalB; simp only [Bool.and_eq_true, decide_eq_true_eq]; exact ⟨⟨⟨⟨HKEY.out, by omega⟩, hs0⟩, by have := HM.out; omega⟩, HRUN.out⟩)
      clear hc5 hg5 HJ HB4 hB5 hX6 hR6 z1
      go_wp2
      refine bodyPost_ret (v := jrn key (.slice oJ m cJ) s) (by simp [results, Try.results78, go_sem, r0, r1, r2]) rfl ⟨_, ⟨key, cs, s⟩, rfl, ⟨_, rfl, InRow.mono (InRow.of HO6.out) (by omega) (Nat.le_refl _)⟩, HJB.out, show cs.length ≤ 10 by omega, HJ5.out.dr.below hk ?_⟩
      exact setP_below ((Below.refl _ _).setCell (p := ⟨B, 2, none⟩) (Nat.le_of_lt hs1) _) (Nat.le_refl _) _ _ _

end Go.Proofs.Ytldjaapbkihibaa

/- Bent journals. -/
namespace Go.Proofs.Ytldjaapbkihibaa
open Go.ChangeShapes Go.WideShapes Go.ChangeAt Go.RowKit Go.Joins
set_option linter.unusedVariables false
set_option linter.unusedSimpArgs false


structure JS (k B R C : Nat) (w0 wr : World) (key s : Int) (cs : List Cd) (o : Option Addr) (n c : Nat) : Prop where
  len : n = cs.length
  box : wr.heap[B]? = some (.cells #[.int .i64 key, .slice o n c, .int .i64 s] 47 (0, 0))
  res : wr.heap[R]? = some (.cells #[.int .i64 0, .slice none 0 0, .int .i64 0] 47 (0, 0))
  own : ownC wr C (.slice o n c) cs
  dr : Dr k w0 wr
theorem JS.draw {k B R C : Nat} {w0 wr : World} {key s : Int} {cs : List Cd} {o : Option Addr} {n c : Nat} {x : World} (h : JS k B R C w0 wr key s cs o n c) (hc : isCur k x) (hg : wr.grownBy x (some k)) (hB : B ≠ k) (hR : R ≠ k) (hC : k < C) : JS k B R C w0 x key s cs o n c :=
  ⟨h.len, grown_box hg (Array.getElem?_eq_some_iff.1 h.box).1 hB h.box, grown_box hg (Array.getElem?_eq_some_iff.1 h.res).1 hR h.res, ownL_other h.own hg hC, h.dr.step hc hg⟩
theorem JS.below {k B R C : Nat} {w0 wr : World} {key s : Int} {cs : List Cd} {o : Option Addr} {n c : Nat} {x : World} (h : JS k B R C w0 wr key s cs o n c) (hb : Below wr.heap.size wr x) (hk : k < w0.heap.size) : JS k B R C w0 x key s cs o n c :=
  ⟨h.len, (hb.block _ (Array.getElem?_eq_some_iff.1 h.box).1).trans h.box, (hb.block _ (Array.getElem?_eq_some_iff.1 h.res).1).trans h.res, own_kept h.own hb, h.dr.below hk (hb.mono h.dr.gr.size)⟩
theorem JS.set0 {k B R C : Nat} {w0 wr : World} {key s : Int} {cs : List Cd} {o : Option Addr} {n c : Nat} (h : JS k B R C w0 wr key s cs o n c) (hk : k < w0.heap.size) (hB : w0.heap.size ≤ B) (hR : R ≠ B) (y : Int) : JS k B R C w0 (wr.setCell ⟨B, 0, none⟩ (.int .i64 y)) y s cs o n c :=
  ⟨h.len, box_put h.box 0 _, set_box h.res hR, own_putJ h.own h.box 0 _, h.dr.below hk ((Below.refl _ _).setCell (p := ⟨B, 0, none⟩) hB _)⟩
theorem JS.set2 {k B R C : Nat} {w0 wr : World} {key s : Int} {cs : List Cd} {o : Option Addr} {n c : Nat} (h : JS k B R C w0 wr key s cs o n c) (hk : k < w0.heap.size) (hB : w0.heap.size ≤ B) (hR : R ≠ B) (y : Int) : JS k B R C w0 (wr.setCell ⟨B, 2, none⟩ (.int .i64 y)) key y cs o n c :=
  ⟨h.len, box_put h.box 2 _, set_box h.res hR, own_putJ h.own h.box 2 _, h.dr.below hk ((Below.refl _ _).setCell (p := ⟨B, 2, none⟩) hB _)⟩
theorem JS.done {k B C : Nat} {w0 wr : World} {key s : Int} {cs : List Cd} {o : Option Addr} {n c : Nat} (h : JS k B w0.heap.size C w0 wr key s cs o n c) (hk : k < w0.heap.size) (hC : w0.heap.size ≤ C) : InJm w0.heap.size (setP wr w0.heap.size (.int .i64 key) (.slice o n c) (.int .i64 s)).heap.size (setP wr w0.heap.size (.int .i64 key) (.slice o n c) (.int .i64 s)) (jrn key (.slice o n c) s) ⟨key, cs, s⟩ ∧ Dr k w0 (setP wr w0.heap.size (.int .i64 key) (.slice o n c) (.int .i64 s)) := by
  have r1 := box_put h.res 0 (.int .i64 key)
  have r2 := box_put r1 1 (.slice o n c)
  have o1 := own_putJ (own_putJ (own_putJ h.own h.res 0 (.int .i64 key)) r1 1 (.slice o n c)) r2 2 (.int .i64 s)
  exact ⟨⟨_, rfl, InRow.mono (InRow.of o1) hC (Nat.le_refl _)⟩, h.dr.below hk (setP_below (Below.refl _ _) (Nat.le_refl _) _ _ _)⟩
theorem JS.push {k B R C : Nat} {w0 wr : World} {key s : Int} {cs : List Cd} {o : Option Addr} {n c : Nat} {w8 : World} {a i g : Int} {o8 : Option Addr} {n8 c8 : Nat} {O : Obj} (h : JS k B R C w0 wr key s cs o n c) (hk : k < w0.heap.size) (hB : w0.heap.size ≤ B) (hR : R ≠ B) (hC : w0.heap.size ≤ C) (hRC : R < C) (hn : n8 = n + 1) (ho : ownC w8 C (.slice o8 n8 c8) (cs ++ [(a, i, g)])) (hg : (wr.alloc O).grownBy w8 (Value.slice o n c).ownBlock) :
    w8.heap[B]? = some (.cells #[.int .i64 key, .slice o n c, .int .i64 s] 47 (0, 0)) ∧ JS k B R C w0 (w8.setCell ⟨B, 1, none⟩ (.slice o8 n8 c8)) key s (cs ++ [(a, i, g)]) o8 n8 c8 := by
  have hb : Below wr.heap.size wr (wr.alloc O) := (Below.refl _ _).alloc (Nat.le_refl _) _
  have hlB := (Array.getElem?_eq_some_iff.1 h.box).1
  have hlR := (Array.getElem?_eq_some_iff.1 h.res).1
  have hsz := hb.size
  have hnB : ¬ (some B = (Value.slice o n c).ownBlock) := fun e => by
    rcases own_box h.own h.box (show (28 : TypeId) ≠ 47 by decide) with h1 | h1
    · rw [h1] at e; cases e
    · exact h1 e.symm
  have hnR : ¬ (some R = (Value.slice o n c).ownBlock) := fun e => by have := (h.own.lt R e.symm).1; omega
  have hx8 := (hg.block B (by omega) hnB).trans ((hb.block B hlB).trans h.box)
  have hr8 := (hg.block R (by omega) hnR).trans ((hb.block R hlR).trans h.res)
  have hb8 : Below w0.heap.size wr w8 := (hb.mono h.dr.gr.size).grown hg (by have := h.dr.gr.size; omega) (fun q e => by have := (h.own.lt q e).1; omega)
  exact ⟨hx8, ⟨by simp [hn, h.len], box_put hx8 1 _, set_box hr8 hR, own_putJ ho hx8 1 _, (h.dr.below hk hb8).below hk ((Below.refl _ _).setCell (p := ⟨B, 1, none⟩) hB _)⟩⟩

set_option maxRecDepth 100000 in
set_option maxHeartbeats 8000000 in
theorem l4bentJ_any (k : Nat) (w : World) (hc : isCur k w) (hk : k < w.heap.size) :
    Calls Try.prog 70 #[.pointer (some ⟨k, 0, none⟩)] w fun e w' => ∃ v m, e = .returned v ∧ InJm w.heap.size w'.heap.size w' v m ∧ m.l.length ≤ 11 ∧ Dr k w w' := by
  obtain ⟨W0, hW0⟩ : ∃ W, w.alloc (.cells #[.int .i64 0, .slice none 0 0, .int .i64 0] 47) = W := ⟨_, rfl⟩
  have hb0 : Below w.heap.size w W0 := by rw [← hW0]; exact (Below.refl _ _).alloc (Nat.le_refl _) _
  have HD0 := hide (show Dr k w W0 from ⟨hc.below (hb0.mono hk), by rw [← hW0]; exact grown_alloc w _ k⟩)
  have HR0 : Hid (W0.heap[w.heap.size]? = some (.cells #[.int .i64 0, .slice none 0 0, .int .i64 0] 47 (0, 0))) := by rw [← hW0]; exact World.alloc_heap_new w _
  have hs0 : w.heap.size < W0.heap.size := by rw [← hW0]; simp
  clear hb0 hc
  go_enter Try.func70, Try.ntmps70
  go_wp2_with fail
  refine (l4drawJ_any k W0 HD0.out.cur (HD0.out.lt hk)).mono ?_
  rintro e w1 ⟨v, ⟨key, cs, s⟩, rfl, ⟨vl, rfl, hin⟩, _, hl10, hd1⟩
  obtain ⟨o, c, e1, _⟩ := ownL.open (L := layC) hin.1
  subst e1
  dsimp only at hin hl10 ⊢
  obtain ⟨n, hn⟩ : ∃ n, cs.length = n := ⟨_, rfl⟩
  rw [hn] at hin hl10 ⊢
  have HW1 := hide hin.1
  have HD1 := hide (HD0.out.step hd1.cur hd1.gr)
  have HR1 := hide (grown_box hd1.gr hs0 (by omega) HR0.out)
  have hs1 : W0.heap.size ≤ w1.heap.size := hd1.gr.size
  have HN := hide hn
  clear hd1 hin HR0 HD0 hn
  have hb2 : Below w1.heap.size w1 (w1.alloc (.cells #[.int .i64 key, .slice o n c, .int .i64 s] 47)) := (Below.refl _ _).alloc (Nat.le_refl _) _
  have HJ2 := hide (show JS k w1.heap.size w.heap.size W0.heap.size w (w1.alloc (.cells #[.int .i64 key, .slice o n c, .int .i64 s] 47)) key s cs o n c from ⟨HN.out.symm, World.alloc_heap_new w1 _, (hb2.block _ (by omega)).trans HR1.out, own_kept HW1.out hb2, HD1.out.below hk (hb2.mono (by omega))⟩)
  clear hb2 HR1 HD1 HW1
  go_wp2_with fail
  generalize (w1.alloc (.cells #[.int .i64 key, .slice o n c, .int .i64 s] 47)) = W2 at *
  obtain ⟨B, hB⟩ : ∃ B, w1.heap.size = B := ⟨_, rfl⟩
  simp only [hB] at HJ2 hs1 ⊢
  have hkB : B ≠ k := by omega
  have hkR : w.heap.size ≠ k := by omega
  have hRB : w.heap.size ≠ B := by omega
  have hwB : w.heap.size ≤ B := by omega
  have hkC : k < W0.heap.size := by omega
  clear hB
  refine (l1Once_any k 7 W2 HJ2.out.dr.cur (by decide) (by decide)).mono ?_
  rintro e w3 ⟨yes, rfl, hc3, hg3⟩
  have HJ3 := hide (HJ2.out.draw hc3 hg3 hkB hkR hkC)
  clear hc3 hg3 HJ2
  cases yes with
  | false =>
    have z0 : w3.cell? ⟨B, 0, none⟩ = some (.int .i64 key) := bx_cell HJ3.out.box 0 _ rfl
    have z1 : w3.cell? ⟨B, 1, none⟩ = some (.slice o n c) := bx_cell HJ3.out.box 1 _ rfl
    have z2 : w3.cell? ⟨B, 2, none⟩ = some (.int .i64 s) := bx_cell HJ3.out.box 2 _ rfl
    have r0 : w3.cell? ⟨w.heap.size, 0, none⟩ = some (.int .i64 0) := bx_cell HJ3.out.res 0 _ rfl
    have fr0 : w3.frozen? ⟨w.heap.size, 0, none⟩ = false := bx_frozen HJ3.out.res 0
    have r1 : w3.cell? ⟨w.heap.size, 1, none⟩ = some (.slice none 0 0) := bx_cell HJ3.out.res 1 _ rfl
    have fr1 : w3.frozen? ⟨w.heap.size, 1, none⟩ = false := bx_frozen HJ3.out.res 1
    have r2 : w3.cell? ⟨w.heap.size, 2, none⟩ = some (.int .i64 0) := bx_cell HJ3.out.res 2 _ rfl
    have fr2 : w3.frozen? ⟨w.heap.size, 2, none⟩ = false := bx_frozen HJ3.out.res 2
    have HF := hide (HJ3.out.done hk (Nat.le_of_lt hs0))
    clear HJ3
    go_wp2
    refine bodyPost_ret (v := jrn key (.slice o n c) s) (by simp [results, Try.results70, go_sem, r0, r1, r2]) rfl ⟨_, ⟨key, cs, s⟩, rfl, HF.out.1, show cs.length ≤ 11 by have := HN.out; omega, HF.out.2⟩
  | true =>
    go_wp2_with fail
    refine (l1Below_any k 3 w3 HJ3.out.dr.cur (by decide) (by decide)).mono ?_
    rintro e w4 ⟨x, rfl, hx0, hx3, hc4, hg4⟩
    have HJ4 := hide (HJ3.out.draw hc4 hg4 hkB hkR hkC)
    clear hc4 hg4 HJ3
    by_cases e0 : x = 0
    · subst e0
      have z1 : w4.cell? ⟨B, 1, none⟩ = some (.slice o n c) := bx_cell HJ4.out.box 1 _ rfl
      go_wp2_with fail
      refine (pick_any k [-1, (n : Int) + 1] w4 HJ4.out.dr.cur (HJ4.out.dr.lt hk) (by simp) (by simp)).mono ?_
      rintro e w5 ⟨y, _, rfl, hc5, hg5⟩
      have HJ5 := HJ4.out.draw hc5 hg5 hkB hkR hkC
      have HJ6 := HJ5.set2 hk hwB hRB y
      have y2 : w5.cell? ⟨B, 2, none⟩ = some (.int .i64 s) := bx_cell HJ5.box 2 _ rfl
      have fy2 : w5.frozen? ⟨B, 2, none⟩ = false := bx_frozen HJ5.box 2
      have q0 : (w5.setCell ⟨B, 2, none⟩ (.int .i64 y)).cell? ⟨B, 0, none⟩ = some (.int .i64 key) := bx_cell HJ6.box 0 _ rfl
      have q1 : (w5.setCell ⟨B, 2, none⟩ (.int .i64 y)).cell? ⟨B, 1, none⟩ = some (.slice o n c) := bx_cell HJ6.box 1 _ rfl
      have q2 : (w5.setCell ⟨B, 2, none⟩ (.int .i64 y)).cell? ⟨B, 2, none⟩ = some (.int .i64 y) := bx_cell HJ6.box 2 _ rfl
      have r0 : (w5.setCell ⟨B, 2, none⟩ (.int .i64 y)).cell? ⟨w.heap.size, 0, none⟩ = some (.int .i64 0) := bx_cell HJ6.res 0 _ rfl
      have fr0 : (w5.setCell ⟨B, 2, none⟩ (.int .i64 y)).frozen? ⟨w.heap.size, 0, none⟩ = false := bx_frozen HJ6.res 0
      have r1 : (w5.setCell ⟨B, 2, none⟩ (.int .i64 y)).cell? ⟨w.heap.size, 1, none⟩ = some (.slice none 0 0) := bx_cell HJ6.res 1 _ rfl
      have fr1 : (w5.setCell ⟨B, 2, none⟩ (.int .i64 y)).frozen? ⟨w.heap.size, 1, none⟩ = false := bx_frozen HJ6.res 1
      have r2 : (w5.setCell ⟨B, 2, none⟩ (.int .i64 y)).cell? ⟨w.heap.size, 2, none⟩ = some (.int .i64 0) := bx_cell HJ6.res 2 _ rfl
      have fr2 : (w5.setCell ⟨B, 2, none⟩ (.int .i64 y)).frozen? ⟨w.heap.size, 2, none⟩ = false := bx_frozen HJ6.res 2
      have HF := hide (HJ6.done hk (Nat.le_of_lt hs0))
      clear hc5 hg5 HJ4 HJ5 HJ6
      go_wp2
      refine bodyPost_ret (v := jrn key (.slice o n c) y) (by simp [results, Try.results70, go_sem, r0, r1, r2]) rfl ⟨_, ⟨key, cs, y⟩, rfl, HF.out.1, show cs.length ≤ 11 by have := HN.out; omega, HF.out.2⟩
    by_cases e1 : x = 1
    · subst e1
      have z1 : w4.cell? ⟨B, 1, none⟩ = some (.slice o n c) := bx_cell HJ4.out.box 1 _ rfl
      have HCD : Hid (isCur k w4.drew) := HJ4.out.dr.cur.below (Below.drew (Below.refl _ _))
      have HKD : Hid (k < w4.drew.heap.size) := HJ4.out.dr.lt hk
      go_wp2
      go_region_law (first | (go_simp; go_at_call 54; refine (l4bentCmd_any k _ HCD.out HKD.out).mono ?_; rintro e w7 ⟨a, i2, g, rfl, hd⟩; have hg7 : w4.grownBy w7 (some k) := ⟨hd.gr.os, hd.gr.tape, hd.gr.output, hd.gr.size, hd.gr.block⟩; have J7 := HJ4.out.draw hd.cur hg7 hkB hkR hkC; have y7 : w7.cell? ⟨B, 1, none⟩ = some (.slice o n c) := bx_cell J7.box 1 _ rfl; have z4a : ∀ O, (w7.alloc O).cell? ⟨B, 1, none⟩ = some (.slice o n c) := (fun O => bx_cell (J7.below ((Below.refl _ _).alloc (Nat.le_refl _) O) hk).box 1 _ rfl); have hs7 : W0.heap.size ≤ w7.heap.size := (by have := (Array.getElem?_eq_some_iff.1 J7.box).1; omega); clear hd hg7; dsimp only) | (refine step_append_lay appC0 rfl (.tmp 27) (.tmp 30) rfl W0.heap.size (.slice o n c) cs rfl (World.ownsRow.alloc J7.own _) (some ⟨w7.heap.size, 0, none⟩) 1 _ [(a, i2, g)] 1 rfl rfl (by simp) rd_oneC (by simp; have := HN.out; omega) (by simp; omega) ?_; intro v8 w8 ho8 hg8 _; obtain ⟨o8, c8, e8, _⟩ := ownL.open (L := layC) ho8; rw [List.length_append] at e8; rw [HN.out] at e8; subst e8; have R8 := J7.push hk hwB hRB (Nat.le_of_lt hs0) hs0 rfl ho8 hg8; have p8 : w8.cell? ⟨B, 1, none⟩ = some (.slice o n c) := bx_cell R8.1 1 _ rfl; have f8 : w8.frozen? ⟨B, 1, none⟩ = false := bx_frozen R8.1 1))
      all_goals (
        have HJ9 := R8.2
        have q0 : (w8.setCell ⟨B, 1, none⟩ (.slice o8 (n + 1) c8)).cell? ⟨B, 0, none⟩ = some (.int .i64 key) := bx_cell HJ9.box 0 _ rfl
        have q1 : (w8.setCell ⟨B, 1, none⟩ (.slice o8 (n + 1) c8)).cell? ⟨B, 1, none⟩ = some (.slice o8 (n + 1) c8) := bx_cell HJ9.box 1 _ rfl
        have q2 : (w8.setCell ⟨B, 1, none⟩ (.slice o8 (n + 1) c8)).cell? ⟨B, 2, none⟩ = some (.int .i64 s) := bx_cell HJ9.box 2 _ rfl
        have r0 : (w8.setCell ⟨B, 1, none⟩ (.slice o8 (n + 1) c8)).cell? ⟨w.heap.size, 0, none⟩ = some (.int .i64 0) := bx_cell HJ9.res 0 _ rfl
        have fr0 : (w8.setCell ⟨B, 1, none⟩ (.slice o8 (n + 1) c8)).frozen? ⟨w.heap.size, 0, none⟩ = false := bx_frozen HJ9.res 0
        have r1 : (w8.setCell ⟨B, 1, none⟩ (.slice o8 (n + 1) c8)).cell? ⟨w.heap.size, 1, none⟩ = some (.slice none 0 0) := bx_cell HJ9.res 1 _ rfl
        have fr1 : (w8.setCell ⟨B, 1, none⟩ (.slice o8 (n + 1) c8)).frozen? ⟨w.heap.size, 1, none⟩ = false := bx_frozen HJ9.res 1
        have r2 : (w8.setCell ⟨B, 1, none⟩ (.slice o8 (n + 1) c8)).cell? ⟨w.heap.size, 2, none⟩ = some (.int .i64 0) := bx_cell HJ9.res 2 _ rfl
        have fr2 : (w8.setCell ⟨B, 1, none⟩ (.slice o8 (n + 1) c8)).frozen? ⟨w.heap.size, 2, none⟩ = false := bx_frozen HJ9.res 2
        have HF := hide (HJ9.done hk (Nat.le_of_lt hs0))
        clear HJ4 HJ9 R8 ho8 hg8 J7 y7 z4a z1
        go_wp2
        refine bodyPost_ret (v := jrn key (.slice o8 (n + 1) c8) s) (by simp [results, Try.results70, go_sem, r0, r1, r2]) rfl ⟨_, ⟨key, cs ++ [(a, i2, g)], s⟩, rfl, HF.out.1, show (cs ++ [(a, i2, g)]).length ≤ 11 by rw [List.length_append, HN.out]; simp; omega, HF.out.2⟩)
    · go_wp2_with fail
      refine (pick_any k [-1, 999999, 1000000] w4 HJ4.out.dr.cur (HJ4.out.dr.lt hk) (by decide) (by decide)).mono ?_
      rintro e w5 ⟨y, _, rfl, hc5, hg5⟩
      have HJ5 := HJ4.out.draw hc5 hg5 hkB hkR hkC
      have HJ6 := HJ5.set0 hk hwB hRB y
      have y2 : w5.cell? ⟨B, 0, none⟩ = some (.int .i64 key) := bx_cell HJ5.box 0 _ rfl
      have fy2 : w5.frozen? ⟨B, 0, none⟩ = false := bx_frozen HJ5.box 0
      have q0 : (w5.setCell ⟨B, 0, none⟩ (.int .i64 y)).cell? ⟨B, 0, none⟩ = some (.int .i64 y) := bx_cell HJ6.box 0 _ rfl
      have q1 : (w5.setCell ⟨B, 0, none⟩ (.int .i64 y)).cell? ⟨B, 1, none⟩ = some (.slice o n c) := bx_cell HJ6.box 1 _ rfl
      have q2 : (w5.setCell ⟨B, 0, none⟩ (.int .i64 y)).cell? ⟨B, 2, none⟩ = some (.int .i64 s) := bx_cell HJ6.box 2 _ rfl
      have r0 : (w5.setCell ⟨B, 0, none⟩ (.int .i64 y)).cell? ⟨w.heap.size, 0, none⟩ = some (.int .i64 0) := bx_cell HJ6.res 0 _ rfl
      have fr0 : (w5.setCell ⟨B, 0, none⟩ (.int .i64 y)).frozen? ⟨w.heap.size, 0, none⟩ = false := bx_frozen HJ6.res 0
      have r1 : (w5.setCell ⟨B, 0, none⟩ (.int .i64 y)).cell? ⟨w.heap.size, 1, none⟩ = some (.slice none 0 0) := bx_cell HJ6.res 1 _ rfl
      have fr1 : (w5.setCell ⟨B, 0, none⟩ (.int .i64 y)).frozen? ⟨w.heap.size, 1, none⟩ = false := bx_frozen HJ6.res 1
      have r2 : (w5.setCell ⟨B, 0, none⟩ (.int .i64 y)).cell? ⟨w.heap.size, 2, none⟩ = some (.int .i64 0) := bx_cell HJ6.res 2 _ rfl
      have fr2 : (w5.setCell ⟨B, 0, none⟩ (.int .i64 y)).frozen? ⟨w.heap.size, 2, none⟩ = false := bx_frozen HJ6.res 2
      have HF := hide (HJ6.done hk (Nat.le_of_lt hs0))
      clear hc5 hg5 HJ4 HJ5 HJ6
      go_wp2
      refine bodyPost_ret (v := jrn y (.slice o n c) s) (by simp [results, Try.results70, go_sem, r0, r1, r2]) rfl ⟨_, ⟨y, cs, s⟩, rfl, HF.out.1, show cs.length ≤ 11 by have := HN.out; omega, HF.out.2⟩

set_option maxRecDepth 100000 in
set_option maxHeartbeats 2000000 in
theorem drawCut_any (o : Option Addr) (cap : Nat) (l : List Int) (w : World) (hR : Rd w o l) (hB8 : isB l) (hm : l.length ≤ maxLen) :
    Calls Try.prog 32 #[.slice o l.length cap] w fun e w' => ∃ v m keep, e = .returned (.tuple #[v, .int .i64 keep]) ∧ InJm w.heap.size w'.heap.size w' v m ∧ m.l.length ≤ 11 ∧ Below w.heap.size w w' := by
  obtain ⟨W0, hW0⟩ : ∃ W, w.alloc (.cells #[.int .i64 0, .slice none 0 0, .int .i64 0] 47) = W := ⟨_, rfl⟩
  have hb0 : Below w.heap.size w W0 := by rw [← hW0]; exact (Below.refl _ _).alloc (Nat.le_refl _) _
  have HR0 : Hid (W0.heap[w.heap.size]? = some (.cells #[.int .i64 0, .slice none 0 0, .int .i64 0] 47 (0, 0))) := by rw [← hW0]; exact World.alloc_heap_new w _
  have hs0 : w.heap.size < W0.heap.size := by rw [← hW0]; simp
  have HNW := hide (l1New_any o cap l W0 (hR.kept hb0) hB8 hm)
  have HB0 := hide hb0
  clear hR hb0
  go_enter Try.func32, Try.ntmps32
  go_wp2_with fail
  refine HNW.out.mono ?_
  rintro e w1 ⟨rfl, hc1, hb1, hs1⟩
  obtain ⟨K, hK⟩ : ∃ K, W0.heap.size = K := ⟨_, rfl⟩
  have HR1 := hide ((hb1.block _ hs0).trans HR0.out)
  have HB1 := hide (HB0.out.trans (hb1.mono HB0.out.size))
  simp only [hK] at hs0 hs1 hc1 ⊢
  have HC1 := hide hc1
  clear hb1 hc1 HR0 HB0 HNW hK
  go_wp2_with fail
  refine (l4bentJ_any K w1 HC1.out hs1).mono ?_
  rintro e w2 ⟨v, ⟨key, cs, s⟩, rfl, ⟨vl, rfl, hin⟩, hl11, hd2⟩
  obtain ⟨o2, c2, e1, _⟩ := ownL.open (L := layC) hin.1
  subst e1
  dsimp only at hin hl11 ⊢
  obtain ⟨n, hn⟩ : ∃ n, cs.length = n := ⟨_, rfl⟩
  rw [hn] at hin ⊢
  have HW2 := hide (own_mono hin.1 (show w.heap.size ≤ w1.heap.size by omega))
  have HR2 := hide (grown_box hd2.gr (show w.heap.size < w1.heap.size by omega) (by omega) HR1.out)
  have HB2 := hide (show Below w.heap.size w w2 from ⟨hd2.gr.os.trans HB1.out.os, hd2.gr.tape.trans HB1.out.tape, hd2.gr.output.trans HB1.out.output, Nat.le_trans HB1.out.size hd2.gr.size, fun q hq => (hd2.gr.block q (Nat.lt_of_lt_of_le hq HB1.out.size) (by simp; omega)).trans (HB1.out.block q hq)⟩)
  have HC2 := hide hd2.cur
  have hs2 : K < w2.heap.size := Nat.lt_of_lt_of_le hs1 hd2.gr.size
  have hs21 : w1.heap.size ≤ w2.heap.size := hd2.gr.size
  have HOL := hide (fun x (hg : w2.grownBy x (some K)) => ownL_other (L := layC) hin.1 hg hs1)
  have HN := hide hn
  clear hin hd2 HR1 HB1 HC1 hn
  go_wp2_with fail
  refine (pick_any K [0, 1, 2, 99, -1] w2 HC2.out hs2 (by decide) (by decide)).mono ?_
  rintro e w3 ⟨keep, _, rfl, hc3, hg3⟩
  have hr3 := grown_box hg3 (show w.heap.size < w2.heap.size by omega) (by omega) HR2.out
  have HW3 := hide (own_mono (HOL.out w3 hg3) (show w.heap.size ≤ w1.heap.size by omega))
  have HB3 := hide (show Below w.heap.size w w3 from ⟨hg3.os.trans HB2.out.os, hg3.tape.trans HB2.out.tape, hg3.output.trans HB2.out.output, Nat.le_trans HB2.out.size hg3.size, fun q hq => (hg3.block q (Nat.lt_of_lt_of_le hq HB2.out.size) (by simp; omega)).trans (HB2.out.block q hq)⟩)
  have HO6 := hide (own_putJ (own_putJ (own_putJ HW3.out hr3 0 (.int .i64 key)) (box_put hr3 0 (.int .i64 key)) 1 (.slice o2 n c2)) (box_put (box_put hr3 0 (.int .i64 key)) 1 (.slice o2 n c2)) 2 (.int .i64 s))
  have r0 : w3.cell? ⟨w.heap.size, 0, none⟩ = some (.int .i64 0) := bx_cell hr3 0 _ rfl
  have fr0 : w3.frozen? ⟨w.heap.size, 0, none⟩ = false := bx_frozen hr3 0
  have r1 : w3.cell? ⟨w.heap.size, 1, none⟩ = some (.slice none 0 0) := bx_cell hr3 1 _ rfl
  have fr1 : w3.frozen? ⟨w.heap.size, 1, none⟩ = false := bx_frozen hr3 1
  have r2 : w3.cell? ⟨w.heap.size, 2, none⟩ = some (.int .i64 0) := bx_cell hr3 2 _ rfl
  have fr2 : w3.frozen? ⟨w.heap.size, 2, none⟩ = false := bx_frozen hr3 2
  clear hc3 hg3 hr3 HR2 HW2 HB2 HC2 HOL
  go_wp2
  refine bodyPost_ret (v := .tuple #[jrn key (.slice o2 n c2) s, .int .i64 keep]) (by simp [results, Try.results32, go_sem, r0, r1, r2]) rfl ⟨_, ⟨key, cs, s⟩, keep, rfl, ⟨_, rfl, InRow.of HO6.out⟩, hl11, setP_below HB3.out (Nat.le_refl _) _ _ _⟩

end Go.Proofs.Ytldjaapbkihibaa

