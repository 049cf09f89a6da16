/- FlowCmp of two flows that may be, as a sort's comparator wants it: how often it has drawn does not go down. -/
import Derived.Sort.Grow
import Derived.Test.YtljogkoaaidlcaaDoorQAgentText19
namespace Go.Proofs.YtljogkoaaidlcaaDoor
open Go.ChangeShapes Go.WideShapes Go.ChangeAt Go.RowKit Go.Joins Go.Maps
set_option linter.unusedVariables false
set_option linter.unusedSimpArgs false
set_option maxRecDepth 100000

/-- A world that has grown, in the words of the library's sort. -/
theorem grow_of {w w' : World} (hb : Below w.heap.size w w') (hd : w.drawn ≤ w'.drawn) : ∃ q os, w' = Go.Sort.grow (w.drewN q) os := by
 refine ⟨w'.drawn - w.drawn, w'.heap.extract w.heap.size w'.heap.size, ?_⟩
 have hh : w'.heap = w.heap ++ w'.heap.extract w.heap.size w'.heap.size := by
  apply Array.ext'
  apply List.ext_getElem?
  intro i
  by_cases hi : i < w.heap.size
  ·have h := hb.block i hi
   rw [Array.getElem?_toList, Array.getElem?_toList, h, Array.getElem?_append_left hi]
  ·rw [Array.getElem?_toList, Array.getElem?_toList, Array.getElem?_append_right (by omega), Array.getElem?_extract]
   by_cases h2 : i < w'.heap.size
   ·rw [if_pos (by omega), show w.heap.size + (i - w.heap.size) = i by omega]
   ·rw [if_neg (by omega), Array.getElem?_eq_none (by omega)]
 obtain ⟨h1, h2, h3, h4, h5⟩ := w'
 have e1 := hb.os; have e2 := hb.tape; have e3 := hb.output
 simp only at hh hd e1 e2 e3
 show World.mk h1 h2 h3 h4 h5 = World.mk (w.heap ++ _) w.tape (w.drawn + (h3 - w.drawn)) w.os w.output
 rw [← hh, ← e1, ← e2, ← e3, show w.drawn + (h3 - w.drawn) = h3 by omega]
theorem wpList_mapUpdate_ownD {H : Type} {P : Program} (w : World) {ops : Array Oper} {rest : List Oper} {o : Oper} {a : Act} {Q : Exit → Act → World → Prop}
  (hg : o.guard = none) (m x v : Operand) (t : TypeId) (hop : o.op = Op.mapUpdate t m x v)
  (k e : TypeId) (K : Keyed P k) (ht : P.underlying t = some (.map k e)) (R : Value → Option (DataW H × List MemPlace)) (b n : Nat) (D : DataW H)
  (hm : a.eval m = .map (some b)) (hown : w.ownsMap P k R b n D) (hn : n < maxLen) (key val : Value) (kl : Lit) (hx : a.eval x = key) (hv : a.eval v = val) (hkey : keyOf P k key = some kl)
  (d : DataW H) (ps : List MemPlace) (hval : R val = some (d, ps))
  (hK : ∀ w', w'.ownsMap P k R b (n + 1) (D.put kl d) → w.grownBy w' (some b) → w'.drawn = w.drawn → wpList P ops Q rest (a.put o.dst undef) w') :
  wpList P ops Q (o :: rest) a w := by
 refine wpList_plain hg fun K' hK' => ?_
 obtain ⟨w', hrun, r1, r2⟩ := hown.update K ht hn hkey hval
 have hd : w'.drawn = w.drawn := by
  obtain ⟨es, clock, hb, F, hs, _⟩ := hown
  obtain ⟨es', clock', hrun', _⟩ := Maps.fit_store (R' := R) K ht hb F (Nat.lt_of_le_of_lt hs hn) (fun _ _ _ _ hz => hz) hkey hval
  rw [hrun'] at hrun
  injection hrun with _ h
  rw [← h]; rfl
 unfold Oper.wp
 simp [execOp, hop, hm, hx, hv, hrun, Result.andThen]
 exact hK' _ _ (hK w' r1 r2 hd)

set_option maxHeartbeats 400000 in
theorem implFlowOkD_any (a b : Int) (w : World) :
  Calls Tryd.prog 49 #[.agg #[.int .i64 a, .int .i64 b]] w fun e w' => e = .returned (.bool (flowOkB a b)) ∧ Below w.heap.size w w' ∧ w.drawn ≤ w'.drawn := by
 rw [flowOkB_words]
 have hB : Below w.heap.size w w := Below.refl _ _
 go_enter Tryd.func49, Tryd.ntmps49
 go_wp2
 all_goals go_ret
 all_goals refine ⟨?_, by (repeat (first | with_reducible exact hB | with_reducible exact Below.refl _ _ | with_reducible refine Below.drew ?_ | with_reducible refine below_drewN ?_ _ | with_reducible refine Below.alloc ?_ ?_ _ | with_reducible refine Below.setCell ?_ ?_ _ | (focus (simp; done)) | (focus (simp; omega)) | omega)), by first | exact Nat.le_refl _ | exact Nat.le_succ _ | (simp [World.drew, World.alloc]; done) | (simp [World.drew, World.alloc]; omega)⟩
 all_goals first | (simp [isWordB, *]; done) | (simp [isWordB]; omega)

set_option maxHeartbeats 1000000 in
theorem flowRanksD_any (g : Nat) (a b c d : Int) (k1 k2 : Lit) (w : World) (hg : g < w.heap.size) (h0 : w.cell? ⟨g, 0, none⟩ = some (.int .i64 a)) (h1 : w.cell? ⟨g, 1, none⟩ = some (.int .i64 b)) (h2 : w.cell? ⟨g, 2, none⟩ = some (.int .i64 c)) (h3 : w.cell? ⟨g, 3, none⟩ = some (.int .i64 d))
  (q1 : flowOkB a b = true) (q2 : flowOkB c d = true) (hk1 : keyOf Tryd.prog 48 (.agg #[.int .i64 a, .int .i64 b]) = some k1) (hk2 : keyOf Tryd.prog 48 (.agg #[.int .i64 c, .int .i64 d]) = some k2) :
  Calls Tryd.prog 50 #[.slice (some ⟨g, 0, none⟩) 2 2] w fun e w' => e = .returned (.map (some w.heap.size)) ∧ w'.ownsMap Tryd.prog 48 (plainElem Tryd.prog 3) w.heap.size 2 (rankD k1 k2 (a * 65536 + b) (c * 65536 + d) 2) ∧ Below w.heap.size w w' ∧ w.drawn ≤ w'.drawn := by
 have hmm : ∀ w, (Instr.makeMap 96 (some (.int .i64 2))).run Tryd.prog w = .ok (.map (some w.heap.size)) (w.alloc (.map #[] 0)) := fun _ => by kernel_rfl
 have r1 := flowOkB_iff.1 q1
 have r2 := flowOkB_iff.1 q2
 have HK1 := hide hk1
 have HK2 := hide hk2
 have w1 : (Lit.int .i64 (a * 65536 + b)).wf = true := wfI64 (by omega) (by omega)
 have w2 : (Lit.int .i64 (c * 65536 + d)).wf = true := wfI64 (by omega) (by omega)
 have W1 := hide w1
 have W2 := hide w2
 clear hk1 hk2 w1 w2 q1 q2
 go_enter Tryd.func50, Tryd.ntmps50
 go_wp2
 go_loopw [11] (fun i wr => ∃ k : Nat, k ≤ 2 ∧ i = .int .i64 k ∧ wr.ownsMap Tryd.prog 48 (plainElem Tryd.prog 3) w.heap.size k (rankD k1 k2 (a * 65536 + b) (c * 65536 + d) k) ∧ Below w.heap.size w wr ∧ w.heap.size < wr.heap.size ∧ w.drawn ≤ wr.drawn)
  (fun i _ => 2 - (intOf i).toNat)
 case atStart => exact ⟨0, by omega, rfl, World.ownsMap_made _ _ _ _, (Below.refl _ _).alloc (Nat.le_refl _) _, by simp, Nat.le_refl _⟩
 case round =>
  obtain ⟨k, hk, rfl, hown, hBr, hsz, hdw⟩ := hrel
  have HDW := hide hdw
  clear hdw
  have d0 := (hBr.cell (p := ⟨g, 0, none⟩) hg).trans h0
  have d1 := (hBr.cell (p := ⟨g, 1, none⟩) hg).trans h1
  have d2 := (hBr.cell (p := ⟨g, 2, none⟩) hg).trans h2
  have d3 := (hBr.cell (p := ⟨g, 3, none⟩) hg).trans h3
  have ek : k = 0 ∨ k = 1 ∨ k = 2 := by omega
  rcases ek with ek | ek | ek
  ·subst ek
   have H := hide hown
   clear hown
   go_wp2_with (first | (at_mapUpdate; refine wpList_mapUpdate_ownD _ rfl _ _ _ 96 rfl 48 3 flowKeyed Tryd.underlying96 _ w.heap.size 0 _ rfl (H.out.alloc _) (by unfold maxLen; omega) _ _ k1 rfl rfl HK1.out _ [] (plainElem_int Tryd.underlying3 W1.out) ?_; intro w1 hown1 hgrow1 hdr1))
   go_roundw
   case rel => exact ⟨1, by omega, rfl, hown1, (hBr.alloc (Nat.le_of_lt hsz) _).grown hgrow1 (by simp; omega) (fun k h => by cases h; exact Nat.le_refl _), by have := hgrow1.size; simp at this; omega, by rw [hdr1]; exact HDW.out⟩
   case measure => simp [intOf]
  ·subst ek
   have H := hide hown
   clear hown
   go_wp2_with (first | (at_mapUpdate; refine wpList_mapUpdate_ownD _ rfl _ _ _ 96 rfl 48 3 flowKeyed Tryd.underlying96 _ w.heap.size 1 _ rfl (H.out.alloc _) (by unfold maxLen; omega) _ _ k2 rfl rfl HK2.out _ [] (plainElem_int Tryd.underlying3 W2.out) ?_; intro w1 hown1 hgrow1 hdr1))
   go_roundw
   case rel => exact ⟨2, by omega, rfl, hown1, (hBr.alloc (Nat.le_of_lt hsz) _).grown hgrow1 (by simp; omega) (fun k h => by cases h; exact Nat.le_refl _), by have := hgrow1.size; simp at this; omega, by rw [hdr1]; exact HDW.out⟩
   case measure => simp [intOf]
  ·subst ek
   have H := hide hown
   clear hown
   go_wp2
   go_ret
   exact ⟨rfl, H.out, hBr, HDW.out⟩


set_option maxHeartbeats 1000000 in
theorem implFlowCmpD_any (a b c d : Int) (w : World) (h1 : flowOkB a b = true) (h2 : flowOkB c d = true) : Calls Tryd.prog 34 #[.agg #[.int .i64 a, .int .i64 b], .agg #[.int .i64 c, .int .i64 d]] w fun e w' => e = .returned (.int .i64 (flowCmpI a b c d)) ∧ Below w.heap.size w w' ∧ w.drawn ≤ w'.drawn := by
 have k1 := hide (fun w => implFlowOkD_any a b w)
 have k2 := hide (fun w => implFlowOkD_any c d w)
 rw [h1] at k1
 rw [h2] at k2
 obtain ⟨l1, hl1⟩ := flowKey a b h1
 obtain ⟨l2, hl2⟩ := flowKey c d h2
 have hsame : l1 = l2 → a * 65536 + b = c * 65536 + d := by
  intro e
  subst e
  have := flowKeyed.inj hl1 hl2
  simp at this
  omega
 have hat := rank_at l1 l2 (a * 65536 + b) (c * 65536 + d) (flowKeyed.key hl1) (flowKeyed.key hl2) hsame
 have HAT := hide hat
 have H := hide (rank_cmp a b c d h1 h2)
 have HL1 := hide hl1
 have HL2 := hide hl2
 have HQ1 := hide h1
 have HQ2 := hide h2
 clear hat hsame hl1 hl2 h1 h2
 obtain ⟨W0, hW0⟩ : ∃ W, ((w.alloc (.cells #[.int .i64 a, .int .i64 b] 48)).alloc (.cells #[.int .i64 c, .int .i64 d] 48)) = W := ⟨_, rfl⟩
 have hb_W0 : Below w.heap.size w W0 := by rw [← hW0]; exact (((Below.refl _ _).alloc (Nat.le_refl _) _).alloc (by simp <;> omega) _)
 have HB := hide hb_W0
 clear hb_W0
 have zcx : w.heap.size < W0.heap.size := by rw [← hW0]; simp <;> omega
 have cx0 : W0.cell? ⟨w.heap.size, 0, none⟩ = some (.int .i64 a) := by rw [← hW0]; simp [go_sem]
 have cx1 : W0.cell? ⟨w.heap.size, 1, none⟩ = some (.int .i64 b) := by rw [← hW0]; simp [go_sem]
 have zcy : w.heap.size + 1 < W0.heap.size := by rw [← hW0]; simp
 have cy0 : W0.cell? ⟨w.heap.size + 1, 0, none⟩ = some (.int .i64 c) := by rw [← hW0]; simp [go_sem]
 have cy1 : W0.cell? ⟨w.heap.size + 1, 1, none⟩ = some (.int .i64 d) := by rw [← hW0]; simp [go_sem]
 have D0 : Hid (w.drawn ≤ W0.drawn) := by unfold Hid; rw [← hW0]; exact Nat.le_refl _
 go_enter Tryd.func34, Tryd.ntmps34
 go_wp2_with fail
 refine (k1.out _).mono ?_
 rintro e v1 ⟨rfl, hb, hd⟩
 have D1 := hide (Nat.le_trans D0.out hd)
 clear hd
 replace cx0 : v1.cell? ⟨w.heap.size, 0, none⟩ = some (.int .i64 a) := (hb.cell (p := ⟨w.heap.size, 0, none⟩) zcx).trans cx0
 replace cx1 : v1.cell? ⟨w.heap.size, 1, none⟩ = some (.int .i64 b) := (hb.cell (p := ⟨w.heap.size, 1, none⟩) zcx).trans cx1
 replace zcx : w.heap.size < v1.heap.size := Nat.lt_of_lt_of_le zcx hb.size
 replace cy0 : v1.cell? ⟨w.heap.size + 1, 0, none⟩ = some (.int .i64 c) := (hb.cell (p := ⟨w.heap.size + 1, 0, none⟩) zcy).trans cy0
 replace cy1 : v1.cell? ⟨w.heap.size + 1, 1, none⟩ = some (.int .i64 d) := (hb.cell (p := ⟨w.heap.size + 1, 1, none⟩) zcy).trans cy1
 replace zcy : w.heap.size + 1 < v1.heap.size := Nat.lt_of_lt_of_le zcy hb.size
 replace HB := hide (HB.out.trans (hb.mono HB.out.size))
 clear hb
 go_wp2_with fail
 refine (k2.out _).mono ?_
 rintro e v2 ⟨rfl, hb, hd⟩
 have D2 := hide (Nat.le_trans D1.out hd)
 clear hd
 replace cx0 : v2.cell? ⟨w.heap.size, 0, none⟩ = some (.int .i64 a) := (hb.cell (p := ⟨w.heap.size, 0, none⟩) zcx).trans cx0
 replace cx1 : v2.cell? ⟨w.heap.size, 1, none⟩ = some (.int .i64 b) := (hb.cell (p := ⟨w.heap.size, 1, none⟩) zcx).trans cx1
 replace zcx : w.heap.size < v2.heap.size := Nat.lt_of_lt_of_le zcx hb.size
 replace cy0 : v2.cell? ⟨w.heap.size + 1, 0, none⟩ = some (.int .i64 c) := (hb.cell (p := ⟨w.heap.size + 1, 0, none⟩) zcy).trans cy0
 replace cy1 : v2.cell? ⟨w.heap.size + 1, 1, none⟩ = some (.int .i64 d) := (hb.cell (p := ⟨w.heap.size + 1, 1, none⟩) zcy).trans cy1
 replace zcy : w.heap.size + 1 < v2.heap.size := Nat.lt_of_lt_of_le zcy hb.size
 replace HB := hide (HB.out.trans (hb.mono HB.out.size))
 clear hb
 have ux0 := cx0
 have ux1 := cx1
 have uy0 := cy0
 have uy1 := cy1
 obtain ⟨W3, hW3⟩ : ∃ W, (v2.alloc (.cells #[.int .i64 a, .int .i64 b, .int .i64 c, .int .i64 d] 48)) = W := ⟨_, rfl⟩
 have hb_W3 : Below v2.heap.size v2 W3 := by rw [← hW3]; exact ((Below.refl _ _).alloc (Nat.le_refl _) _)
 replace cx0 : W3.cell? ⟨w.heap.size, 0, none⟩ = some (.int .i64 a) := (hb_W3.cell (p := ⟨w.heap.size, 0, none⟩) zcx).trans cx0
 replace cx1 : W3.cell? ⟨w.heap.size, 1, none⟩ = some (.int .i64 b) := (hb_W3.cell (p := ⟨w.heap.size, 1, none⟩) zcx).trans cx1
 replace zcx : w.heap.size < W3.heap.size := Nat.lt_of_lt_of_le zcx hb_W3.size
 replace cy0 : W3.cell? ⟨w.heap.size + 1, 0, none⟩ = some (.int .i64 c) := (hb_W3.cell (p := ⟨w.heap.size + 1, 0, none⟩) zcy).trans cy0
 replace cy1 : W3.cell? ⟨w.heap.size + 1, 1, none⟩ = some (.int .i64 d) := (hb_W3.cell (p := ⟨w.heap.size + 1, 1, none⟩) zcy).trans cy1
 replace zcy : w.heap.size + 1 < W3.heap.size := Nat.lt_of_lt_of_le zcy hb_W3.size
 replace HB := hide (HB.out.trans (hb_W3.mono HB.out.size))
 clear hb_W3
 have zcz : v2.heap.size < W3.heap.size := by rw [← hW3]; simp
 have cz0 : W3.cell? ⟨v2.heap.size, 0, none⟩ = some (.int .i64 a) := by rw [← hW3]; simp [go_sem]
 have cz1 : W3.cell? ⟨v2.heap.size, 1, none⟩ = some (.int .i64 b) := by rw [← hW3]; simp [go_sem]
 have cz2 : W3.cell? ⟨v2.heap.size, 2, none⟩ = some (.int .i64 c) := by rw [← hW3]; simp [go_sem]
 have cz3 : W3.cell? ⟨v2.heap.size, 3, none⟩ = some (.int .i64 d) := by rw [← hW3]; simp [go_sem]
 have D3 : Hid (w.drawn ≤ W3.drawn) := by unfold Hid; rw [← hW3]; exact D2.out
 have hsx1 : W3.heap.size = v2.heap.size + 1 := by rw [← hW3]; simp
 have hfr := flowRanksD_any v2.heap.size a b c d l1 l2 W3 zcz cz0 cz1 cz2 cz3 HQ1.out HQ2.out HL1.out HL2.out
 rw [hsx1] at hfr
 have HS := hide hsx1
 clear hsx1
 go_wp2_with fail
 refine (hfr).mono ?_
 rintro e v3 ⟨rfl, howny, hb0, hd⟩
 have D4 := hide (Nat.le_trans D3.out hd)
 have HW := hide howny
 have hb : Below W3.heap.size W3 v3 := by rw [HS.out]; exact hb0
 clear hd howny hb0
 replace cx0 : v3.cell? ⟨w.heap.size, 0, none⟩ = some (.int .i64 a) := (hb.cell (p := ⟨w.heap.size, 0, none⟩) zcx).trans cx0
 replace cx1 : v3.cell? ⟨w.heap.size, 1, none⟩ = some (.int .i64 b) := (hb.cell (p := ⟨w.heap.size, 1, none⟩) zcx).trans cx1
 replace zcx : w.heap.size < v3.heap.size := Nat.lt_of_lt_of_le zcx hb.size
 replace cy0 : v3.cell? ⟨w.heap.size + 1, 0, none⟩ = some (.int .i64 c) := (hb.cell (p := ⟨w.heap.size + 1, 0, none⟩) zcy).trans cy0
 replace cy1 : v3.cell? ⟨w.heap.size + 1, 1, none⟩ = some (.int .i64 d) := (hb.cell (p := ⟨w.heap.size + 1, 1, none⟩) zcy).trans cy1
 replace zcy : w.heap.size + 1 < v3.heap.size := Nat.lt_of_lt_of_le zcy hb.size
 replace cz0 : v3.cell? ⟨v2.heap.size, 0, none⟩ = some (.int .i64 a) := (hb.cell (p := ⟨v2.heap.size, 0, none⟩) zcz).trans cz0
 replace cz1 : v3.cell? ⟨v2.heap.size, 1, none⟩ = some (.int .i64 b) := (hb.cell (p := ⟨v2.heap.size, 1, none⟩) zcz).trans cz1
 replace cz2 : v3.cell? ⟨v2.heap.size, 2, none⟩ = some (.int .i64 c) := (hb.cell (p := ⟨v2.heap.size, 2, none⟩) zcz).trans cz2
 replace cz3 : v3.cell? ⟨v2.heap.size, 3, none⟩ = some (.int .i64 d) := (hb.cell (p := ⟨v2.heap.size, 3, none⟩) zcz).trans cz3
 replace zcz : v2.heap.size < v3.heap.size := Nat.lt_of_lt_of_le zcz hb.size
 replace HB := hide (HB.out.trans (hb.mono HB.out.size))
 clear hb
 have L1 : (Instr.lookup 96 (.map (some (v2.heap.size + 1))) (.agg #[.int .i64 a, .int .i64 b]) false).run Tryd.prog v3.drew = .ok (.int .i64 (a * 65536 + b)) v3.drew := look_at HW.out.drew HL1.out HAT.out.1
 have L2 : (Instr.lookup 96 (.map (some (v2.heap.size + 1))) (.agg #[.int .i64 c, .int .i64 d]) false).run Tryd.prog v3.drew = .ok (.int .i64 (c * 65536 + d)) v3.drew := look_at HW.out.drew HL2.out HAT.out.2
 clear hfr cz0 cz1 cz2 cz3 ux0 ux1 uy0 uy1
 go_wp2_with fail
 go_region_held3 (fun w' => w'.cell? ⟨w.heap.size, 0, none⟩ = some (.int .i64 a) ∧ w'.cell? ⟨w.heap.size, 1, none⟩ = some (.int .i64 b) ∧ w'.cell? ⟨w.heap.size + 1, 0, none⟩ = some (.int .i64 c) ∧ w'.cell? ⟨w.heap.size + 1, 1, none⟩ = some (.int .i64 d) ∧ (Instr.lookup 96 (.map (some (v2.heap.size + 1))) (.agg #[.int .i64 a, .int .i64 b]) false).run Tryd.prog w' = .ok (.int .i64 (a * 65536 + b)) w' ∧ (Instr.lookup 96 (.map (some (v2.heap.size + 1))) (.agg #[.int .i64 c, .int .i64 d]) false).run Tryd.prog w' = .ok (.int .i64 (c * 65536 + d)) w') (first | exact ⟨cx0, cx1, cy0, cy1, L1, L2⟩) (first | (go_at_call 51; refine (compare_any _ _ _).mono ?_; rintro e wz ⟨rfl, rfl⟩))
 all_goals go_wp2
 all_goals go_ret
 all_goals exact ⟨ret_int H.out, Below.drew HB.out, Nat.le_trans D4.out (Nat.le_succ _)⟩

end Go.Proofs.YtljogkoaaidlcaaDoor

