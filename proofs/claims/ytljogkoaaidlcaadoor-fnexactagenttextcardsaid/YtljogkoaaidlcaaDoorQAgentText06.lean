/- Several texts in one: LSlot, LMarkS, ShT, ShA, TableMath, STabS, STabS2, STabS3. -/
import Derived.Deep.RegionHeld3
import Derived.Test.YtljogkoaaidlcaaDoorQAgentText01
import Derived.Test.YtljogkoaaidlcaaDoorQAgentText05
import Derived.Lib.SmallJoins
import Derived.RegionTactic
/- Slots, and rows of them: how they read; the laws' own helpers over them: toSlot, eqSlot, szSlotS, toSlotS, eqSlotS. -/
namespace Go.Proofs.YtljogkoaaidlcaaDoor
open Go.ChangeShapes Go.WideShapes Go.ChangeAt Go.RowKit Go.Joins
set_option linter.unusedVariables false
set_option linter.unusedSimpArgs false

/-- A slot, as the model has it. -/
structure Sl where
 u : Bool
 a : Int
 p : Int
 v : Int
 t : Int
abbrev sl0 : Sl := ⟨false, 0, 0, 0, 0⟩
def layS : Lay Sl := ⟨5, fun s => [.bool s.u, .int .i64 s.a, .int .i64 s.p, .int .i64 s.v, .int .i64 s.t], sl0, fun _ => rfl⟩
abbrev slot (s : Sl) : Value := .agg #[.bool s.u, .int .i64 s.a, .int .i64 s.p, .int .i64 s.v, .int .i64 s.t]
abbrev RdS := RdL layS
abbrev ownS := ownL layS 56
abbrev InS := InL layS 56

theorem RdL.slot {C : Nat} {w : World} {b off : Nat} {l : List Sl} (h : ∀ i, i < l.length → ∀ j, j < layS.k → w.cell? ⟨b, off + i * layS.k + j, none⟩ = (layS.cs (l.getD i layS.d))[j]?) (i : Nat) (hi : i < l.length) :
  w.cell? ⟨b, off + i * 5, none⟩ = some (.bool (l.getD i sl0).u) ∧ w.cell? ⟨b, off + i * 5 + 1, none⟩ = some (.int .i64 (l.getD i sl0).a) ∧ w.cell? ⟨b, off + i * 5 + 2, none⟩ = some (.int .i64 (l.getD i sl0).p) ∧ w.cell? ⟨b, off + i * 5 + 3, none⟩ = some (.int .i64 (l.getD i sl0).v) ∧ w.cell? ⟨b, off + i * 5 + 4, none⟩ = some (.int .i64 (l.getD i sl0).t) :=
 ⟨h i hi 0 (by decide), h i hi 1 (by decide), h i hi 2 (by decide), h i hi 3 (by decide), h i hi 4 (by decide)⟩
theorem flat_set5 {α : Type} (L : Lay α) (hk : L.k = 5) {v0 v1 v2 v3 v4 : Value} {a : α} (ha : L.cs a = [v0, v1, v2, v3, v4]) : ∀ (l : List α) (i : Nat), (((((l.flatMap L.cs).set (i * 5) v0).set (i * 5 + 1) v1).set (i * 5 + 2) v2).set (i * 5 + 3) v3).set (i * 5 + 4) v4 = (l.set i a).flatMap L.cs
 | [], i => by simp
 | q :: l, 0 => by
  have hq := (L.len q).trans hk
  match hc : L.cs q, hq with
  | [q0, q1, q2, q3, q4], _ => simp [ha, hc]
 | q :: l, i + 1 => by
  have hq := (L.len q).trans hk
  match hc : L.cs q, hq with
  | [q0, q1, q2, q3, q4], _ =>
   rw [show (i + 1) * 5 = i * 5 + 1 + 1 + 1 + 1 + 1 by omega]
   simp only [List.flatMap_cons, hc, List.cons_append, List.nil_append, List.set_cons_succ]
   rw [flat_set5 L hk ha l i]
theorem infoSlot : (Tryd.prog.info? 56).map (fun i => (i.zero, i.size, i.bytes)) = some (some (.agg #[.bool false, .int .i64 0, .int .i64 0, .int .i64 0, .int .i64 0]), 5, 40) := by kernel_rfl
theorem cellsInt1s : Tryd.prog.cellsOf 3 = 1 := by kernel_rfl
theorem cellsBool1s : Tryd.prog.cellsOf 4 = 1 := by kernel_rfl
theorem cellsLawsSlot : Tryd.prog.cellsOf 85 = 5 := by kernel_rfl
theorem open_slots_cells {H : Type} {enc : TypeId × Value → H} {W : World} {fuel : Nat} {cs : List Value} {x : DataW H × List MemPlace} (h : DataW.trod enc Tryd.prog W 0 (fun _ => true) true fuel 22 cs = some x) :
  ∃ (o : Option Addr) (cap : Nat) (l : List Sl), cs = [.slice o l.length cap] ∧ l.length ≤ maxLen ∧ RdS W.heap.size W o l := by
 refine open_list layS (by decide) Tryd.underlying22 cellsLawsSlot ?_ h
 intro n cs y hl hy
 match cs, hl with
 | [c0, c1, c2, c3, c4], _ =>
  obtain ⟨y0, y1, y2, y3, m, _, _, h0, h1, h2, h3⟩ := trod_struct4 Tryd.underlying85 hy
  simp [cellsInt1s, cellsBool1s, cellsLawsFlow] at h0 h1 h2 h3
  obtain ⟨u, e0, _⟩ := DataW.trod_bool Tryd.underlying4 h0
  obtain ⟨z0, z1, m', _, _, k0, k1⟩ := trod_struct2 Tryd.underlying83 h1
  simp [cellsInt1s] at k0 k1
  obtain ⟨a, e1, _, _⟩ := DataW.trod_int Tryd.underlying3 k0
  obtain ⟨p, e2, _, _⟩ := DataW.trod_int Tryd.underlying3 k1
  obtain ⟨v, e3, _, _⟩ := DataW.trod_int Tryd.underlying3 h2
  obtain ⟨t, e4, _, _⟩ := DataW.trod_int Tryd.underlying3 h3
  simp at e0 e1 e2 e3 e4
  subst e0 e1 e2 e3 e4
  exact ⟨⟨u, a, p, v, t⟩, rfl⟩

set_option maxHeartbeats 800000 in
theorem toSlot_any (s : Sl) (w : World) :
  Calls Tryd.prog 40 #[slot s] w fun e w' => e = .returned (slot s) ∧ Below w.heap.size w w' := by
 have hB : Below w.heap.size w w := Below.refl _ _
 go_enter Tryd.func40, Tryd.ntmps40
 go_wp2_with (first | (go_at_call 54; refine (toFlow_any s.a s.p _).mono ?_; rintro e w1a ⟨rfl, hba⟩; obtain ⟨hca, hfa⟩ := bcell hba; have hz0a : w.heap.size < w1a.heap.size := (by have hz := hba.size; (try simp at hz); omega); have hz1a : w.heap.size + 1 < w1a.heap.size := (by have hz := hba.size; (try simp at hz); omega); have hB : Below w.heap.size w w1a := (by refine Below.trans ?_ (hba.mono (by have hs := hB.size; (try simp) <;> omega)); (repeat (first | with_reducible exact hB | with_reducible exact Below.refl _ _ | with_reducible refine Below.drew ?_ | with_reducible refine below_drewN ?_ _ | with_reducible refine Below.alloc ?_ ?_ _ | with_reducible refine Below.setCell ?_ ?_ _ | (focus (simp; done)) | (focus (simp; omega)) | omega)))))
 refine bodyPost_ret (v := slot s) (by simp [results, Tryd.results40, go_sem, hca, hz0a, hz1a]) rfl ⟨rfl, ?_⟩
 (repeat (first | with_reducible exact hB | with_reducible exact Below.refl _ _ | with_reducible refine Below.drew ?_ | with_reducible refine below_drewN ?_ _ | with_reducible refine Below.alloc ?_ ?_ _ | with_reducible refine Below.setCell ?_ ?_ _ | (focus (simp; done)) | (focus (simp; omega)) | omega))

set_option maxHeartbeats 800000 in
theorem eqSlot_same (s : Sl) (w : World) :
  Calls Tryd.prog 52 #[slot s, slot s] w fun e w' => e = .returned (.bool true) ∧ Below w.heap.size w w' := by
 have hB : Below w.heap.size w w := Below.refl _ _
 go_enter Tryd.func52, Tryd.ntmps52
 go_wp2_with (first | (go_at_call 70; refine (eqFlow_same s.a s.p _).mono ?_; rintro e w1a ⟨rfl, hba⟩; obtain ⟨hca, hfa⟩ := bcell hba; have hz0a : w.heap.size < w1a.heap.size := (by have hz := hba.size; (try simp at hz); omega); have hz1a : w.heap.size + 1 < w1a.heap.size := (by have hz := hba.size; (try simp at hz); omega); have hB : Below w.heap.size w w1a := (by refine Below.trans ?_ (hba.mono (by have hs := hB.size; (try simp) <;> omega)); (repeat (first | with_reducible exact hB | with_reducible exact Below.refl _ _ | with_reducible refine Below.drew ?_ | with_reducible refine below_drewN ?_ _ | with_reducible refine Below.alloc ?_ ?_ _ | with_reducible refine Below.setCell ?_ ?_ _ | (focus (simp; done)) | (focus (simp; omega)) | omega)))))
 all_goals go_ret
 all_goals exact ⟨rfl, by (repeat (first | with_reducible exact hB | with_reducible exact Below.refl _ _ | with_reducible refine Below.drew ?_ | with_reducible refine below_drewN ?_ _ | with_reducible refine Below.alloc ?_ ?_ _ | with_reducible refine Below.setCell ?_ ?_ _ | (focus (simp; done)) | (focus (simp; omega)) | omega))⟩

set_option maxHeartbeats 400000 in
theorem szSlotS_any (o : Option Addr) (len cap : Nat) (n : Int) (w : World) (hl : len ≤ maxLen) (h0 : 0 ≤ n) (h1 : n ≤ 1048576) :
  Calls Tryd.prog 25 #[.slice o len cap, .int .i64 n] w fun e w' => e = .returned (.int .i64 (if n - len < 0 then -1 else n - len)) ∧ w = w' := by
 unfold maxLen at hl
 by_cases h : n - len < 0
 ·rw [if_pos h]
  go_enter Tryd.func25, Tryd.ntmps25
  go_wp2
  go_ret
  exact ⟨rfl, rfl⟩
 ·rw [if_neg h]
  go_enter Tryd.func25, Tryd.ntmps25
  go_wp2
  go_ret
  exact ⟨rfl, rfl⟩

/-- A whole record stored into a row. -/
theorem stored5 {e : TypeId} {w wr : World} {base B g c n : Nat} {l : List Sl} {k : Nat} (s : Sl) (hg : B ≤ g) (hown : wr.ownsRow base e 5 (.slice (some ⟨g, 0, none⟩) n c) n (l.flatMap layS.cs)) (hB : Below B w wr) :
  (((((wr.setCell ⟨g, k * 5, none⟩ (.bool s.u)).setCell ⟨g, k * 5 + 1, none⟩ (.int .i64 s.a)).setCell ⟨g, k * 5 + 2, none⟩ (.int .i64 s.p)).setCell ⟨g, k * 5 + 3, none⟩ (.int .i64 s.v)).setCell ⟨g, k * 5 + 4, none⟩ (.int .i64 s.t)).ownsRow base e 5 (.slice (some ⟨g, 0, none⟩) n c) n ((l.set k s).flatMap layS.cs) ∧
   Below B w (((((wr.setCell ⟨g, k * 5, none⟩ (.bool s.u)).setCell ⟨g, k * 5 + 1, none⟩ (.int .i64 s.a)).setCell ⟨g, k * 5 + 2, none⟩ (.int .i64 s.p)).setCell ⟨g, k * 5 + 3, none⟩ (.int .i64 s.v)).setCell ⟨g, k * 5 + 4, none⟩ (.int .i64 s.t)) := by
 have h := (((((hown.stored (k * 5) (.bool s.u)).1.stored (k * 5 + 1) (.int .i64 s.a)).1.stored (k * 5 + 2) (.int .i64 s.p)).1.stored (k * 5 + 3) (.int .i64 s.v)).1.stored (k * 5 + 4) (.int .i64 s.t)).1
 rw [flat_set5 layS rfl (a := s) rfl] at h
 exact ⟨h, ((((hB.setCell (p := ⟨g, k * 5, none⟩) hg _).setCell (p := ⟨g, k * 5 + 1, none⟩) hg _).setCell (p := ⟨g, k * 5 + 2, none⟩) hg _).setCell (p := ⟨g, k * 5 + 3, none⟩) hg _).setCell (p := ⟨g, k * 5 + 4, none⟩) hg _⟩

set_option maxHeartbeats 2000000 in
theorem toSlotS_any (o : Option Addr) (cap : Nat) (l : List Sl) (w : World) (hR : RdS w.heap.size w o l) (hlen : l.length ≤ 1048576) :
  Calls Tryd.prog 28 #[.slice o l.length cap] w fun e w' => ∃ g, e = .returned (.slice (some ⟨g, 0, none⟩) l.length l.length) ∧ ownS w' w.heap.size (.slice (some ⟨g, 0, none⟩) l.length l.length) l ∧ Below w.heap.size w w' := by
 obtain ⟨i0, hi, hz0, hz1, hz2⟩ := info_parts infoSlot
 have hB : Below w.heap.size w w := Below.refl _ _
 go_enter Tryd.func28, Tryd.ntmps28
 go_wp2_with (at_make; refine wpList_make_full _ rfl _ _ 30 rfl w.heap.size 56 i0 (slot sl0) 5 Tryd.underlying30 hi hz0 hz1 _ _ _ _ l.length rfl rfl rfl rfl ?b2 ?b3 ?b4 ?_)
 case b2 => rw [hz2]; omega
 case b3 => unfold maxLen; omega
 case b4 => simp
 intro w1 hown hgrow
 have hB1 : Below w.heap.size w w1 := hB.grown hgrow (Nat.le_refl _) (fun k h => by cases h)
 have hown1 : w1.ownsRow w.heap.size 56 5 (.slice (some ⟨w.heap.size, 0, none⟩) l.length l.length) l.length ((fillL layS l 0).flatMap layS.cs) := by
  rw [fillL_zero, ← made_flat layS (slot sl0) rfl]; exact hown
 clear hown hgrow hB
 go_wp2
 go_loopw [4] (fun i wr => ∃ k : Nat, k ≤ l.length ∧ i = .int .i64 k ∧ wr.ownsRow w.heap.size 56 5 (.slice (some ⟨w.heap.size, 0, none⟩) l.length l.length) l.length ((fillL layS l k).flatMap layS.cs) ∧ Below w.heap.size w wr)
  (fun i _ => l.length - (intOf i).toNat)
 case atStart => exact ⟨0, Nat.zero_le _, rfl, hown1, hB1⟩
 case round =>
  obtain ⟨k, hk, rfl, hown, hBr⟩ := hrel
  by_cases hlt : k < l.length
  ·rcases hR with hR | ⟨b, off, rfl, hbl, hcell⟩
   ·subst hR; simp at hlt
   obtain ⟨s, hxy⟩ : ∃ s, l.getD k sl0 = s := ⟨_, rfl⟩
   have hcx := RdL.slot (C := w.heap.size) hcell k hlt
   rw [hxy] at hcx
   have hc0 : wr.cell? ⟨b, off + k * 5, none⟩ = some (.bool s.u) := (hBr.cell (p := ⟨b, off + k * 5, none⟩) hbl).trans hcx.1
   have hc1 : wr.cell? ⟨b, off + k * 5 + 1, none⟩ = some (.int .i64 s.a) := (hBr.cell (p := ⟨b, off + k * 5 + 1, none⟩) hbl).trans hcx.2.1
   have hc2 : wr.cell? ⟨b, off + k * 5 + 2, none⟩ = some (.int .i64 s.p) := (hBr.cell (p := ⟨b, off + k * 5 + 2, none⟩) hbl).trans hcx.2.2.1
   have hc3 : wr.cell? ⟨b, off + k * 5 + 3, none⟩ = some (.int .i64 s.v) := (hBr.cell (p := ⟨b, off + k * 5 + 3, none⟩) hbl).trans hcx.2.2.2.1
   have hc4 : wr.cell? ⟨b, off + k * 5 + 4, none⟩ = some (.int .i64 s.t) := (hBr.cell (p := ⟨b, off + k * 5 + 4, none⟩) hbl).trans hcx.2.2.2.2
   have HW := hide (hlt)
   clear hcell hcx
   go_wp2_with fail
   refine (toSlot_any s _).mono ?_
   rintro e w2 ⟨rfl, hb2⟩
   have hB2 : Below w.heap.size w w2 := hBr.trans (hb2.mono hBr.size)
   have hown2 := own_kept hown hb2
   have hln : ((fillL layS l k).flatMap layS.cs).length = l.length * 5 := by rw [flat_length, fillL_length layS l k hk]; rfl
   obtain ⟨u0, hu0⟩ : ∃ u, w2.cell? ⟨w.heap.size, k * 5, none⟩ = some u := ⟨_, (hown2.cellAt (k * 5) (by omega)).trans (List.getElem?_eq_getElem (by omega))⟩
   have hf0 := hown2.frozenAt (k * 5)
   obtain ⟨u1, hu1⟩ : ∃ u, w2.cell? ⟨w.heap.size, k * 5 + 1, none⟩ = some u := ⟨_, (hown2.cellAt (k * 5 + 1) (by omega)).trans (List.getElem?_eq_getElem (by omega))⟩
   have hf1 := hown2.frozenAt (k * 5 + 1)
   obtain ⟨u2, hu2⟩ : ∃ u, w2.cell? ⟨w.heap.size, k * 5 + 2, none⟩ = some u := ⟨_, (hown2.cellAt (k * 5 + 2) (by omega)).trans (List.getElem?_eq_getElem (by omega))⟩
   have hf2 := hown2.frozenAt (k * 5 + 2)
   obtain ⟨u3, hu3⟩ : ∃ u, w2.cell? ⟨w.heap.size, k * 5 + 3, none⟩ = some u := ⟨_, (hown2.cellAt (k * 5 + 3) (by omega)).trans (List.getElem?_eq_getElem (by omega))⟩
   have hf3 := hown2.frozenAt (k * 5 + 3)
   obtain ⟨u4, hu4⟩ : ∃ u, w2.cell? ⟨w.heap.size, k * 5 + 4, none⟩ = some u := ⟨_, (hown2.cellAt (k * 5 + 4) (by omega)).trans (List.getElem?_eq_getElem (by omega))⟩
   have hf4 := hown2.frozenAt (k * 5 + 4)
   have HR := hide (stored5 (k := k) s (Nat.le_refl _) hown2 hB2)
   have HX := hide (show (fillL layS l k).set k s = fillL layS l (k + 1) by rw [← hxy]; exact fillL_set layS l k hlt)
   clear hxy hown hBr hB1 hown1 hown2 hc0 hc1 hc2 hc3 hc4 hb2 hln
   go_wp2
   go_roundw
   case rel => exact ⟨k + 1, by omega, by go_num, (by have := HR.out.1; rw [HX.out] at this; exact this), HR.out.2⟩
   case measure => simp [intOf]; omega
  ·have e : k = l.length := by omega
   subst e
   rw [fillL_all] at hown
   go_wp2
   go_ret
   exact ⟨w.heap.size, rfl, hown, hBr⟩

set_option maxHeartbeats 2000000 in
theorem eqSlotS_same (o1 o2 : Option Addr) (c1 c2 : Nat) (l : List Sl) (w : World) (h1 : RdS w.heap.size w o1 l) (h2 : RdS w.heap.size w o2 l) (hl : l.length ≤ 1048576) :
  Calls Tryd.prog 35 #[.slice o1 l.length c1, .slice o2 l.length c2] w fun e w' => e = .returned (.bool true) ∧ Below w.heap.size w w' := by
 go_enter Tryd.func35, Tryd.ntmps35
 go_wp2
 go_loopw [5] (fun i wr => ∃ k : Nat, k ≤ l.length ∧ i = .int .i64 k ∧ Below w.heap.size w wr)
  (fun i _ => l.length - (intOf i).toNat)
 case atStart => exact ⟨0, Nat.zero_le _, rfl, Below.refl _ _⟩
 case round =>
  obtain ⟨k, hk, rfl, hBr⟩ := hrel
  by_cases hlt : k < l.length
  ·rcases h1 with h1 | ⟨b1, off1, rfl, hb1, hcell1⟩
   ·subst h1; simp at hlt
   rcases h2 with h2 | ⟨b2, off2, rfl, hb2, hcell2⟩
   ·subst h2; simp at hlt
   obtain ⟨s, hxy⟩ : ∃ s, l.getD k sl0 = s := ⟨_, rfl⟩
   have hcx1 := RdL.slot (C := w.heap.size) hcell1 k hlt
   have hcx2 := RdL.slot (C := w.heap.size) hcell2 k hlt
   rw [hxy] at hcx1 hcx2
   have p0 : wr.cell? ⟨b1, off1 + k * 5, none⟩ = some (.bool s.u) := (hBr.cell (p := ⟨b1, off1 + k * 5, none⟩) hb1).trans hcx1.1
   have p1 : wr.cell? ⟨b1, off1 + k * 5 + 1, none⟩ = some (.int .i64 s.a) := (hBr.cell (p := ⟨b1, off1 + k * 5 + 1, none⟩) hb1).trans hcx1.2.1
   have p2 : wr.cell? ⟨b1, off1 + k * 5 + 2, none⟩ = some (.int .i64 s.p) := (hBr.cell (p := ⟨b1, off1 + k * 5 + 2, none⟩) hb1).trans hcx1.2.2.1
   have p3 : wr.cell? ⟨b1, off1 + k * 5 + 3, none⟩ = some (.int .i64 s.v) := (hBr.cell (p := ⟨b1, off1 + k * 5 + 3, none⟩) hb1).trans hcx1.2.2.2.1
   have p4 : wr.cell? ⟨b1, off1 + k * 5 + 4, none⟩ = some (.int .i64 s.t) := (hBr.cell (p := ⟨b1, off1 + k * 5 + 4, none⟩) hb1).trans hcx1.2.2.2.2
   have q0 : wr.cell? ⟨b2, off2 + k * 5, none⟩ = some (.bool s.u) := (hBr.cell (p := ⟨b2, off2 + k * 5, none⟩) hb2).trans hcx2.1
   have q1 : wr.cell? ⟨b2, off2 + k * 5 + 1, none⟩ = some (.int .i64 s.a) := (hBr.cell (p := ⟨b2, off2 + k * 5 + 1, none⟩) hb2).trans hcx2.2.1
   have q2 : wr.cell? ⟨b2, off2 + k * 5 + 2, none⟩ = some (.int .i64 s.p) := (hBr.cell (p := ⟨b2, off2 + k * 5 + 2, none⟩) hb2).trans hcx2.2.2.1
   have q3 : wr.cell? ⟨b2, off2 + k * 5 + 3, none⟩ = some (.int .i64 s.v) := (hBr.cell (p := ⟨b2, off2 + k * 5 + 3, none⟩) hb2).trans hcx2.2.2.2.1
   have q4 : wr.cell? ⟨b2, off2 + k * 5 + 4, none⟩ = some (.int .i64 s.t) := (hBr.cell (p := ⟨b2, off2 + k * 5 + 4, none⟩) hb2).trans hcx2.2.2.2.2
   have HB := hide hBr
   have hsr := hide hBr.size
   clear hcell1 hcell2 hBr hcx1 hcx2 hxy
   have i1 : (k : Int) < (l.length : Int) := by omega
   go_wp2
   go_region_held3 (fun w' => w'.cell? ⟨b1, off1 + k * 5, none⟩ = some (.bool s.u) ∧ w'.cell? ⟨b1, off1 + k * 5 + 1, none⟩ = some (.int .i64 s.a) ∧ w'.cell? ⟨b1, off1 + k * 5 + 2, none⟩ = some (.int .i64 s.p) ∧ w'.cell? ⟨b1, off1 + k * 5 + 3, none⟩ = some (.int .i64 s.v) ∧ w'.cell? ⟨b1, off1 + k * 5 + 4, none⟩ = some (.int .i64 s.t) ∧ w'.cell? ⟨b2, off2 + k * 5, none⟩ = some (.bool s.u) ∧ w'.cell? ⟨b2, off2 + k * 5 + 1, none⟩ = some (.int .i64 s.a) ∧ w'.cell? ⟨b2, off2 + k * 5 + 2, none⟩ = some (.int .i64 s.p) ∧ w'.cell? ⟨b2, off2 + k * 5 + 3, none⟩ = some (.int .i64 s.v) ∧ w'.cell? ⟨b2, off2 + k * 5 + 4, none⟩ = some (.int .i64 s.t)) (first | exact ⟨p0, p1, p2, p3, p4, q0, q1, q2, q3, q4⟩) (first | (go_at_call 52; refine (eqSlot_same s _).mono ?_; rintro e w2 ⟨rfl, hb2'⟩; replace hb2' : Below wr.heap.size wr w2 := (Below.drew (Below.refl _ _)).trans hb2'; have p0 := (hb2'.cell (p := ⟨b1, off1 + k * 5, none⟩) (Nat.lt_of_lt_of_le hb1 hsr.out)).trans p0; have p1 := (hb2'.cell (p := ⟨b1, off1 + k * 5 + 1, none⟩) (Nat.lt_of_lt_of_le hb1 hsr.out)).trans p1; have p2 := (hb2'.cell (p := ⟨b1, off1 + k * 5 + 2, none⟩) (Nat.lt_of_lt_of_le hb1 hsr.out)).trans p2; have p3 := (hb2'.cell (p := ⟨b1, off1 + k * 5 + 3, none⟩) (Nat.lt_of_lt_of_le hb1 hsr.out)).trans p3; have p4 := (hb2'.cell (p := ⟨b1, off1 + k * 5 + 4, none⟩) (Nat.lt_of_lt_of_le hb1 hsr.out)).trans p4; have q0 := (hb2'.cell (p := ⟨b2, off2 + k * 5, none⟩) (Nat.lt_of_lt_of_le hb2 hsr.out)).trans q0; have q1 := (hb2'.cell (p := ⟨b2, off2 + k * 5 + 1, none⟩) (Nat.lt_of_lt_of_le hb2 hsr.out)).trans q1; have q2 := (hb2'.cell (p := ⟨b2, off2 + k * 5 + 2, none⟩) (Nat.lt_of_lt_of_le hb2 hsr.out)).trans q2; have q3 := (hb2'.cell (p := ⟨b2, off2 + k * 5 + 3, none⟩) (Nat.lt_of_lt_of_le hb2 hsr.out)).trans q3; have q4 := (hb2'.cell (p := ⟨b2, off2 + k * 5 + 4, none⟩) (Nat.lt_of_lt_of_le hb2 hsr.out)).trans q4))
   go_wp2
   go_roundw
   case rel => exact ⟨k + 1, by omega, by go_num, HB.out.trans (hb2'.mono HB.out.size)⟩
   case measure => simp [intOf]; omega
  ·have e : k = l.length := by omega
   subst e
   go_wp2
   go_ret
   exact ⟨rfl, hBr⟩

end Go.Proofs.YtljogkoaaidlcaaDoor

/- The laws' marks in a row of slots. -/
namespace Go.Proofs.YtljogkoaaidlcaaDoor
open Go.ChangeShapes Go.WideShapes Go.ChangeAt Go.RowKit Go.Joins
set_option linter.unusedVariables false
set_option linter.unusedSimpArgs false

def mkSl (k : Int) : Sl := ⟨k % 3 == 0, k + 1, k + 1 + 1, k + 1 + 1 + 1, k + 1 + 1 + 1 + 1⟩

set_option maxHeartbeats 4000000 in
theorem markSlotS_any (base : Nat) (v : Value) (l : List Sl) (k : Int) (w : World) (hv : ownL layS 56 w base v l) (h0 : 0 ≤ k) (h1 : k ≤ 1073741824) (hlen : l.length ≤ 1048576) :
  Calls Tryd.prog 36 #[v, .int .i64 k] w fun e w' => e = .returned (.int .i64 (k + 5 * l.length)) ∧ ownL layS 56 w' base v (mkL mkSl 5 k l.length) ∧ w.grownBy w' v.ownBlock := by
 rcases hv.2 with ⟨rfl, h2⟩ | ⟨g, cap, cur, rfl, hg, _⟩
 ·have e : l = [] := List.eq_nil_of_length_eq_zero h2
  subst e
  go_enter Tryd.func36, Tryd.ntmps36
  go_wp2
  refine wp_loop_rounds 1 ?_
  rw [rounds_succ]
  go_wp2
  go_ret
  exact ⟨by simp, by simpa [mkL] using hv, World.grownBy.refl _ _⟩
 ·have hv0 : w.ownsRow base 56 5 (.slice (some ⟨g, 0, none⟩) l.length cap) l.length ((mkTo mkSl 5 l k 0).flatMap layS.cs) := by rw [mkTo_zero]; exact hv
  go_enter Tryd.func36, Tryd.ntmps36
  go_wp2
  go_loopw [1, 5] (fun q j wr => ∃ i : Nat, i ≤ l.length ∧ j = .int .i64 i ∧ q = .int .i64 (k + 5 * (i : Int)) ∧ wr.ownsRow base 56 5 (.slice (some ⟨g, 0, none⟩) l.length cap) l.length ((mkTo mkSl 5 l k i).flatMap layS.cs) ∧ w.grownBy wr (some g))
   (fun _ j _ => l.length - (intOf j).toNat)
  case atStart => exact ⟨0, Nat.zero_le _, rfl, by simp, hv0, World.grownBy.refl _ _⟩
  case round =>
   obtain ⟨i, hi, rfl, rfl, hown, hgr⟩ := hrel
   by_cases hlt : i < l.length
   ·have hxl : ((mkTo mkSl 5 l k i).flatMap layS.cs).length = l.length * 5 := by rw [flat_length, mkTo_length _ _ _ _ _ hi]; rfl
    have E := flat_set5 layS rfl (a := mkSl (k + 5 * (i : Int))) rfl (mkTo mkSl 5 l k i) i
    have E2 := mkTo_set mkSl 5 l k i hlt
    have HE0 := E.trans (congrArg (fun z => List.flatMap layS.cs z) E2)
    simp only [mkSl] at HE0
    clear E E2
    have hbm : (k + 5 * (i : Int)).tmod 3 = (k + 5 * (i : Int)) % 3 := Int.tmod_eq_emod_of_nonneg (by omega)
    generalize hxs : (mkTo mkSl 5 l k i).flatMap layS.cs = xs at *
    generalize hBB : ((k + 5 * (i : Int)) % 3 == 0) = B at *
    have s1 := grown_set1 (j := i * 5) (u := .bool B) hown hgr
    have s2 := grown_set1 (j := i * 5 + 1) (u := .int .i64 (k + 5 * (i : Int) + 1)) s1.1 s1.2
    have s3 := grown_set1 (j := i * 5 + 2) (u := .int .i64 (k + 5 * (i : Int) + 1 + 1)) s2.1 s2.2
    have s4 := grown_set1 (j := i * 5 + 3) (u := .int .i64 (k + 5 * (i : Int) + 1 + 1 + 1)) s3.1 s3.2
    have s5 := grown_set1 (j := i * 5 + 4) (u := .int .i64 (k + 5 * (i : Int) + 1 + 1 + 1 + 1)) s4.1 s4.2
    have f0 := hown.frozenAt (i * 5)
    obtain ⟨q0, hq0⟩ : ∃ z, wr.cell? ⟨g, i * 5, none⟩ = some z := ⟨_, (hown.cellAt (i * 5) (by omega)).trans (List.getElem?_eq_getElem (by (try simp) <;> omega))⟩
    have f1 := s1.1.frozenAt (i * 5 + 1)
    obtain ⟨q1, hq1⟩ : ∃ z, (wr.setCell ⟨g, i * 5, none⟩ (.bool B)).cell? ⟨g, i * 5 + 1, none⟩ = some z := ⟨_, (s1.1.cellAt (i * 5 + 1) (by omega)).trans (List.getElem?_eq_getElem (by (try simp) <;> omega))⟩
    have f2 := s2.1.frozenAt (i * 5 + 2)
    obtain ⟨q2, hq2⟩ : ∃ z, ((wr.setCell ⟨g, i * 5, none⟩ (.bool B)).setCell ⟨g, i * 5 + 1, none⟩ (.int .i64 (k + 5 * (i : Int) + 1))).cell? ⟨g, i * 5 + 2, none⟩ = some z := ⟨_, (s2.1.cellAt (i * 5 + 2) (by omega)).trans (List.getElem?_eq_getElem (by (try simp) <;> omega))⟩
    have f3 := s3.1.frozenAt (i * 5 + 3)
    obtain ⟨q3, hq3⟩ : ∃ z, (((wr.setCell ⟨g, i * 5, none⟩ (.bool B)).setCell ⟨g, i * 5 + 1, none⟩ (.int .i64 (k + 5 * (i : Int) + 1))).setCell ⟨g, i * 5 + 2, none⟩ (.int .i64 (k + 5 * (i : Int) + 1 + 1))).cell? ⟨g, i * 5 + 3, none⟩ = some z := ⟨_, (s3.1.cellAt (i * 5 + 3) (by omega)).trans (List.getElem?_eq_getElem (by (try simp) <;> omega))⟩
    have f4 := s4.1.frozenAt (i * 5 + 4)
    obtain ⟨q4, hq4⟩ : ∃ z, ((((wr.setCell ⟨g, i * 5, none⟩ (.bool B)).setCell ⟨g, i * 5 + 1, none⟩ (.int .i64 (k + 5 * (i : Int) + 1))).setCell ⟨g, i * 5 + 2, none⟩ (.int .i64 (k + 5 * (i : Int) + 1 + 1))).setCell ⟨g, i * 5 + 3, none⟩ (.int .i64 (k + 5 * (i : Int) + 1 + 1 + 1))).cell? ⟨g, i * 5 + 4, none⟩ = some z := ⟨_, (s4.1.cellAt (i * 5 + 4) (by omega)).trans (List.getElem?_eq_getElem (by (try simp) <;> omega))⟩
    have S := hide s5
    have HE := hide HE0
    have z1 : (i : Int) < (l.length : Int) := by omega
    clear s1 s2 s3 s4 s5 hown hgr hv hv0 HE0 hxl
    go_wp2
    go_roundw
    case rel =>
     refine ⟨i + 1, by omega, by go_num, by go_num, ?_, S.out.2⟩
     have h := S.out.1
     rw [← HE.out]
     exact h
    case measure => simp [intOf]; omega
   ·have e : i = l.length := by omega
    subst e
    rw [mkTo_all] at hown
    have HO := hide hown
    clear hown
    go_wp2
    go_ret
    exact ⟨rfl, (by have := HO.out; unfold ownL; rw [mkL_length]; exact this), hgr⟩

end Go.Proofs.YtljogkoaaidlcaaDoor

/- Tables, as a shape: how they read, what owns its memory, and the laws' own helpers over them. -/
namespace Go.Proofs.YtljogkoaaidlcaaDoor
open Go.ChangeShapes Go.WideShapes Go.ChangeAt Go.RowKit Go.Joins
set_option linter.unusedVariables false
set_option linter.unusedSimpArgs false

abbrev tab (v : Value) : Value := .agg #[v]
theorem block_cell1 {W : World} {B : Nat} {c : Array Value} {t : TypeId} (h : W.heap[B]? = some (.cells c t (0, 0))) (j : Nat) (u : Value) (hj : c[j]? = some u) : W.cell? ⟨B, j, none⟩ = some u := by
 simp [World.cell?, h, hj]
def RdT (C : Nat) (w : World) (v : Value) (l : List Sl) : Prop := ∃ vl, v = tab vl ∧ RdV layS C w vl l
def InTb (lo hi : Nat) (w : World) (v : Value) (l : List Sl) : Prop := ∃ vl, v = tab vl ∧ InS lo hi w vl l
theorem RdT.kept {C D : Nat} {w w' : World} {v : Value} {m : List Sl} (h : RdT C w v m) (hb : Below D w w') (hc : C ≤ D) : RdT C w' v m := by
 obtain ⟨vl, e, h1⟩ := h
 exact ⟨vl, e, h1.kept hb hc⟩
theorem RdT.le {C D : Nat} {w : World} {v : Value} {m : List Sl} (h : RdT C w v m) (hc : C ≤ D) : RdT D w v m := by
 obtain ⟨vl, e, h1⟩ := h
 exact ⟨vl, e, h1.le hc⟩
theorem InTb.rd {lo hi : Nat} {w : World} {v : Value} {m : List Sl} (h : InTb lo hi w v m) : RdT hi w v m := by
 obtain ⟨vl, e, h1⟩ := h
 exact ⟨vl, e, InL.rd (L := layS) h1⟩
theorem InTb.step {a b lo hi : Nat} {w w' : World} {v : Value} {m : List Sl} (h : InTb a b w v m) (s : Stp lo hi w w') (hd : hi ≤ a ∨ b ≤ lo) : InTb a b w' v m := by
 obtain ⟨vl, e, h1⟩ := h
 exact ⟨vl, e, InRow.step h1 s hd⟩
theorem InTb.mono {a b a' b' : Nat} {w : World} {v : Value} {m : List Sl} (h : InTb a b w v m) (h1 : a' ≤ a) (h2 : b ≤ b') : InTb a' b' w v m := by
 obtain ⟨vl, e, h3⟩ := h
 exact ⟨vl, e, InRow.mono h3 h1 h2⟩
def capT (v : Value) : Prop := ∃ vl, v = tab vl ∧ capV vl
theorem InTb.cap {lo hi : Nat} {w : World} {v : Value} {m : List Sl} (h : InTb lo hi w v m) : capT v := by
 obtain ⟨vl, e, h1⟩ := h
 exact ⟨vl, e, InRow.cap h1⟩
theorem capT.one {o : Option Addr} {n c : Nat} (h : capT (tab (.slice o n c))) : o = none → c = 0 := by
 obtain ⟨vl, e, h1⟩ := h
 injection e with e
 simp at e
 exact fun h => h1 n c (by rw [← e, h])
theorem InTb.row {lo hi : Nat} {w : World} {v : Value} {l : List Sl} (h : InTb lo hi w (tab v) l) : InS lo hi w v l := by
 obtain ⟨vl, e, h1⟩ := h
 injection e with e
 simp at e
 subst e
 exact h1

theorem cellsLawsT : Tryd.prog.cellsOf 24 = 1 := by kernel_rfl
theorem cellsLawsSlotS : Tryd.prog.cellsOf 22 = 1 := by kernel_rfl
theorem open_table_cells {H : Type} {enc : TypeId × Value → H} {W : World} {fuel : Nat} {cs : List Value} {x : DataW H × List MemPlace} (hl : cs.length = 1) (h : DataW.trod enc Tryd.prog W 0 (fun _ => true) true fuel 24 cs = some x) :
  ∃ (o : Option Addr) (cap : Nat) (l : List Sl), cs = [.slice o l.length cap] ∧ l.length ≤ maxLen ∧ RdS W.heap.size W o l := by
 match cs, hl with
 | [c0], _ =>
  obtain ⟨y0, n, _, _, h0⟩ := trod_struct1 Tryd.underlying24 h
  simp [cellsLawsSlotS] at h0
  exact open_slots_cells h0
set_option maxHeartbeats 400000 in
theorem szTable_n (o : Option Addr) (len c : Nat) (n : Int) (w : World) (hl : len ≤ maxLen) (h0 : 0 ≤ n) (h1 : n ≤ 1048576) :
  Calls Tryd.prog 13 #[tab (.slice o len c), .int .i64 n] w fun e w' => e = .returned (.int .i64 (if n - len < 0 then -1 else n - len)) ∧ Below w.heap.size w w' := by
 have hB : Below w.heap.size w w := Below.refl _ _
 have hs := fun W => szSlotS_any o len c n W hl h0 h1
 by_cases h : n - len < 0
 ·rw [if_pos h] at hs
  rw [if_pos h]
  go_enter Tryd.func13, Tryd.ntmps13
  go_wp2_with (go_at_call 25; refine (hs _).mono ?_; rintro e w1 ⟨rfl, rfl⟩)
  go_ret
  exact ⟨rfl, by (repeat (first | with_reducible exact hB | with_reducible exact Below.refl _ _ | with_reducible refine Below.drew ?_ | with_reducible refine below_drewN ?_ _ | with_reducible refine Below.alloc ?_ ?_ _ | with_reducible refine Below.setCell ?_ ?_ _ | (focus (simp; done)) | (focus (simp; omega)) | omega))⟩
 ·rw [if_neg h] at hs
  rw [if_neg h]
  have h' : 0 ≤ n - (len : Int) := by omega
  go_enter Tryd.func13, Tryd.ntmps13
  go_wp2_with (go_at_call 25; refine (hs _).mono ?_; rintro e w1 ⟨rfl, rfl⟩)
  go_ret
  exact ⟨rfl, by (repeat (first | with_reducible exact hB | with_reducible exact Below.refl _ _ | with_reducible refine Below.drew ?_ | with_reducible refine below_drewN ?_ _ | with_reducible refine Below.alloc ?_ ?_ _ | with_reducible refine Below.setCell ?_ ?_ _ | (focus (simp; done)) | (focus (simp; omega)) | omega))⟩

set_option maxHeartbeats 2000000 in
theorem toTable_sh (v : Value) (m : List Sl) (w : World) (hR : RdT w.heap.size w v m) (hf : m.length ≤ 1048576) :
  Calls Tryd.prog 18 #[v] w fun e w' => ∃ v', e = .returned v' ∧ InTb w.heap.size w'.heap.size w' v' m ∧ Below w.heap.size w w' := by
 obtain ⟨vl, rfl, o, c, rfl, hr⟩ := hR
 have hB : Below w.heap.size w w := Below.refl _ _
 go_enter Tryd.func18, Tryd.ntmps18
 go_wp2_with (first | (go_at_call 28; refine (toSlotS_any o c m _ ((hr.kept (D := w.heap.size) (by (repeat (first | with_reducible exact hB | with_reducible exact Below.refl _ _ | with_reducible refine Below.drew ?_ | with_reducible refine below_drewN ?_ _ | with_reducible refine Below.alloc ?_ ?_ _ | with_reducible refine Below.setCell ?_ ?_ _ | (focus (simp; done)) | (focus (simp; omega)) | omega))) (Nat.le_refl _)).le (by (try simp) <;> omega)) hf).mono ?_; rintro e w1a ⟨g, rfl, hown, hba⟩; obtain ⟨hca, hfa⟩ := bcell hba; have hz0a : w.heap.size < w1a.heap.size := (by have hz := hba.size; (try simp at hz); omega); have hz1a : w.heap.size + 1 < w1a.heap.size := (by have hz := hba.size; (try simp at hz); omega); have hz2a : w.heap.size + 1 + 1 < w1a.heap.size := (by have hz := hba.size; (try simp at hz); omega); have hB : Below w.heap.size w w1a := (by refine Below.trans ?_ (hba.mono (by have hs := hB.size; (try simp) <;> omega)); (repeat (first | with_reducible exact hB | with_reducible exact Below.refl _ _ | with_reducible refine Below.drew ?_ | with_reducible refine below_drewN ?_ _ | with_reducible refine Below.alloc ?_ ?_ _ | with_reducible refine Below.setCell ?_ ?_ _ | (focus (simp; done)) | (focus (simp; omega)) | omega)))))
 have hown' : ownS w1a (w.heap.size + 1 + 1 + 1) (.slice (some ⟨g, 0, none⟩) m.length m.length) m := by simpa using hown
 clear hown hba
 refine bodyPost_ret (v := tab (.slice (some ⟨g, 0, none⟩) m.length m.length)) (by simp [results, Tryd.results18, go_sem, hca, hz0a, hz1a, hz2a]) rfl ⟨_, rfl, ⟨_, rfl, InRow.of ?_⟩, ?_⟩
 ·refine own_mono (base := w.heap.size + 1 + 1 + 1) ?_ (by omega)
  repeat (refine ownsRow_setCell_below ?_ (by simp <;> omega) _)
  exact hown'
 ·(repeat (first | with_reducible exact hB | with_reducible exact Below.refl _ _ | with_reducible refine Below.drew ?_ | with_reducible refine below_drewN ?_ _ | with_reducible refine Below.alloc ?_ ?_ _ | with_reducible refine Below.setCell ?_ ?_ _ | (focus (simp; done)) | (focus (simp; omega)) | omega))

set_option maxHeartbeats 1000000 in
theorem eqTable_sh (v1 v2 : Value) (m : List Sl) (w : World) (h1 : RdT w.heap.size w v1 m) (h2 : RdT w.heap.size w v2 m) (hl : m.length ≤ 1048576) :
  Calls Tryd.prog 23 #[v1, v2] w fun e w' => e = .returned (.bool true) ∧ Below w.heap.size w w' := by
 obtain ⟨vl, rfl, o, c, rfl, r1⟩ := h1
 obtain ⟨vl2, rfl, o2, c2, rfl, r2⟩ := h2
 have hB : Below w.heap.size w w := Below.refl _ _
 go_enter Tryd.func23, Tryd.ntmps23
 go_wp2_with (first | (go_at_call 35; refine (eqSlotS_same o o2 c c2 m _ ((r1.kept (D := w.heap.size) (by (repeat (first | with_reducible exact hB | with_reducible exact Below.refl _ _ | with_reducible refine Below.drew ?_ | with_reducible refine below_drewN ?_ _ | with_reducible refine Below.alloc ?_ ?_ _ | with_reducible refine Below.setCell ?_ ?_ _ | (focus (simp; done)) | (focus (simp; omega)) | omega))) (Nat.le_refl _)).le (by (try simp) <;> omega)) ((r2.kept (D := w.heap.size) (by (repeat (first | with_reducible exact hB | with_reducible exact Below.refl _ _ | with_reducible refine Below.drew ?_ | with_reducible refine below_drewN ?_ _ | with_reducible refine Below.alloc ?_ ?_ _ | with_reducible refine Below.setCell ?_ ?_ _ | (focus (simp; done)) | (focus (simp; omega)) | omega))) (Nat.le_refl _)).le (by (try simp) <;> omega)) hl).mono ?_; rintro e w1 ⟨rfl, hb⟩; obtain ⟨hc, hf⟩ := bcell hb; have hz0 : w.heap.size < w1.heap.size := (by have hz := hb.size; (try simp at hz); omega); have hz1 : w.heap.size + 1 < w1.heap.size := (by have hz := hb.size; (try simp at hz); omega); have hB : Below w.heap.size w w1 := (by refine Below.trans ?_ (hb.mono (by have hs := hB.size; (try simp) <;> omega)); (repeat (first | with_reducible exact hB | with_reducible exact Below.refl _ _ | with_reducible refine Below.drew ?_ | with_reducible refine below_drewN ?_ _ | with_reducible refine Below.alloc ?_ ?_ _ | with_reducible refine Below.setCell ?_ ?_ _ | (focus (simp; done)) | (focus (simp; omega)) | omega)))))
 go_ret
 exact ⟨rfl, by (repeat (first | with_reducible exact hB | with_reducible exact Below.refl _ _ | with_reducible refine Below.drew ?_ | with_reducible refine below_drewN ?_ _ | with_reducible refine Below.alloc ?_ ?_ _ | with_reducible refine Below.setCell ?_ ?_ _ | (focus (simp; done)) | (focus (simp; omega)) | omega))⟩

/-- The marks of a table. -/
def mkTb (k : Int) (m : List Sl) : List Sl := mkL mkSl 5 k m.length
set_option maxHeartbeats 1000000 in
theorem markTable_sh (lo hi : Nat) (v : Value) (m : List Sl) (k : Int) (w : World) (hv : InTb lo hi w v m) (h0 : 0 ≤ k) (h1 : k ≤ 100000000) (hl : m.length ≤ 1048576) :
  Calls Tryd.prog 24 #[v, .int .i64 k] w fun e w' => e = .returned (.int .i64 (k + 5 * m.length)) ∧ InTb lo hi w' v (mkTb k m) ∧ Stp lo hi w w' := by
 obtain ⟨vl, rfl, iv⟩ := hv
 obtain ⟨ol, cl, hle, _⟩ := InL.rd (L := layS) iv
 subst hle
 have s1 : Hid (Stp lo hi w (w.alloc (.cells #[.slice ol m.length cl] 32))) := Stp.of ((Below.refl _ _).alloc (Nat.le_refl _) _)
 have i1 : Hid (InS lo hi (w.alloc (.cells #[.slice ol m.length cl] 32)) (.slice ol m.length cl) m) := ⟨World.ownsRow.alloc iv.1 _, iv.2⟩
 clear iv
 go_enter Tryd.func24, Tryd.ntmps24
 go_wp2_with fail
 generalize w.alloc (.cells #[.slice ol m.length cl] 32) = w1 at *
 refine (markSlotS_any lo _ m k w1 i1.out.1 h0 (by omega) hl).mono ?_
 rintro e w2 ⟨rfl, hown, hgr⟩
 have H : Hid (InTb lo hi w2 (tab (.slice ol m.length cl)) (mkTb k m) ∧ Stp lo hi w w2) := ⟨⟨_, rfl, hown, i1.out.2⟩, s1.out.trans (Stp.grown hgr (fun b e => ⟨(i1.out.1.lt b e).1, i1.out.2 b e⟩))⟩
 clear hown hgr s1 i1
 go_wp2
 go_ret
 exact ⟨rfl, H.out.1, H.out.2⟩
end Go.Proofs.YtljogkoaaidlcaaDoor

/- Agents, as a shape: how they read, what owns its memory. -/
namespace Go.Proofs.YtljogkoaaidlcaaDoor
open Go.ChangeShapes Go.WideShapes Go.ChangeAt Go.RowKit Go.Joins
set_option linter.unusedVariables false
set_option linter.unusedSimpArgs false

theorem stp_set1 (W : World) (B j : Nat) (v : Value) : Stp B (B + 1) W (W.setCell ⟨B, j, none⟩ v) := by
 have h := (Below.refl B W).setCell (p := ⟨B, j, none⟩) (Nat.le_refl _) v
 exact ⟨h.os, h.tape, h.output, h.size, fun k hk hn => Below.heap_setCell W ⟨B, j, none⟩ v k (by simp; omega)⟩
theorem stp_set5v (W : World) (B : Nat) (a b c d e : Value) : Stp B (B + 1) W (((((W.setCell ⟨B, 0, none⟩ a).setCell ⟨B, 1, none⟩ b).setCell ⟨B, 2, none⟩ c).setCell ⟨B, 3, none⟩ d).setCell ⟨B, 4, none⟩ e) :=
 ((((stp_set1 W B 0 a).trans (stp_set1 _ B 1 b)).trans (stp_set1 _ B 2 c)).trans (stp_set1 _ B 3 d)).trans (stp_set1 _ B 4 e)
theorem below_set5v {w W : World} {C B : Nat} (h : Below C w W) (hC : C ≤ B) (a b c d e : Value) : Below C w (((((W.setCell ⟨B, 0, none⟩ a).setCell ⟨B, 1, none⟩ b).setCell ⟨B, 2, none⟩ c).setCell ⟨B, 3, none⟩ d).setCell ⟨B, 4, none⟩ e) :=
 ((((h.setCell (p := ⟨B, 0, none⟩) hC a).setCell (p := ⟨B, 1, none⟩) hC b).setCell (p := ⟨B, 2, none⟩) hC c).setCell (p := ⟨B, 3, none⟩) hC d).setCell (p := ⟨B, 4, none⟩) hC e
theorem set5v_size (W : World) (B : Nat) (a b c d e : Value) : (((((W.setCell ⟨B, 0, none⟩ a).setCell ⟨B, 1, none⟩ b).setCell ⟨B, 2, none⟩ c).setCell ⟨B, 3, none⟩ d).setCell ⟨B, 4, none⟩ e).heap.size = W.heap.size := by simp

structure Am where
 id : Int
 lim : Int
 dr : Bool
 c : List Sl
 t : List Sl
abbrev agt (i l : Int) (d : Bool) (vc vt : Value) : Value := .agg #[.int .i64 i, .int .i64 l, .bool d, vc, vt]
def RdA (C : Nat) (w : World) (v : Value) (m : Am) : Prop := ∃ vc vt, v = agt m.id m.lim m.dr vc vt ∧ RdV layS C w vc m.c ∧ RdV layS C w vt m.t
def InA (lo hi : Nat) (w : World) (v : Value) (m : Am) : Prop := ∃ vc vt mid, v = agt m.id m.lim m.dr vc vt ∧ InS lo mid w vc m.c ∧ InS mid hi w vt m.t ∧ lo ≤ mid ∧ mid ≤ hi
theorem RdA.kept {C D : Nat} {w w' : World} {v : Value} {m : Am} (h : RdA C w v m) (hb : Below D w w') (hc : C ≤ D) : RdA C w' v m := by
 obtain ⟨vc, vt, e, h1, h2⟩ := h
 exact ⟨vc, vt, e, h1.kept hb hc, h2.kept hb hc⟩
theorem RdA.le {C D : Nat} {w : World} {v : Value} {m : Am} (h : RdA C w v m) (hc : C ≤ D) : RdA D w v m := by
 obtain ⟨vc, vt, e, h1, h2⟩ := h
 exact ⟨vc, vt, e, h1.le hc, h2.le hc⟩
theorem InA.rd {lo hi : Nat} {w : World} {v : Value} {m : Am} (h : InA lo hi w v m) : RdA hi w v m := by
 obtain ⟨vc, vt, mid, e, h1, h2, h3, h4⟩ := h
 exact ⟨vc, vt, e, (InL.rd (L := layS) h1).le h4, InL.rd (L := layS) h2⟩
theorem InA.step {a b lo hi : Nat} {w w' : World} {v : Value} {m : Am} (h : InA a b w v m) (s : Stp lo hi w w') (hd : hi ≤ a ∨ b ≤ lo) : InA a b w' v m := by
 obtain ⟨vc, vt, mid, e, h1, h2, h3, h4⟩ := h
 exact ⟨vc, vt, mid, e, InRow.step h1 s (by omega), InRow.step h2 s (by omega), h3, h4⟩
theorem InA.mono {a b a' b' : Nat} {w : World} {v : Value} {m : Am} (h : InA a b w v m) (h1 : a' ≤ a) (h2 : b ≤ b') : InA a' b' w v m := by
 obtain ⟨vc, vt, mid, e, i1, i2, h3, h4⟩ := h
 exact ⟨vc, vt, mid, e, InRow.mono i1 h1 (Nat.le_refl _), InRow.mono i2 (Nat.le_refl _) h2, Nat.le_trans h1 h3, Nat.le_trans h4 h2⟩

theorem array5a {α : Type} {cs : Array α} (h : cs.size = 5) : ∃ c0 c1 c2 c3 c4, cs = #[c0, c1, c2, c3, c4] := by
 obtain ⟨l⟩ := cs
 match l, h with
 | [c0, c1, c2, c3, c4], _ => exact ⟨c0, c1, c2, c3, c4, rfl⟩
theorem cellsLawsAgent : Tryd.prog.cellsOf 26 = 5 := by kernel_rfl
theorem cellsInt1a : Tryd.prog.cellsOf 3 = 1 := by kernel_rfl
theorem cellsBool1a : Tryd.prog.cellsOf 4 = 1 := by kernel_rfl
set_option maxRecDepth 100000 in
theorem open_agent {H : Type} {enc : TypeId × Value → H} {W : World} {base : Nat} {v : Value} {d : DataW H} {p : List MemPlace}
  (hv : Value.okWide Tryd.prog W .any base 26 v) (h : DataW.Trod enc Tryd.prog W 0 (fun _ => true) true 26 v d p) :
  ∃ (m : Am), RdA W.heap.size W v m ∧ m.c.length ≤ maxLen ∧ m.t.length ≤ maxLen := by
 obtain ⟨cs, rfl, hsz⟩ := okWide_struct Tryd.underlying26 hv
 obtain ⟨c0, c1, c2, c3, c4, rfl⟩ := array5a (hsz.trans cellsLawsAgent)
 obtain ⟨fuel, hf⟩ := h
 obtain ⟨xs, n, _, _, hl, hlen, hf⟩ := DataW.trod_struct Tryd.underlying26 hf
 match xs, hlen with
 | [y0, y1, y2, y3, y4], _ =>
  have h0 := hf 0 _ rfl
  have h1 := hf 1 _ rfl
  have h2 := hf 2 _ rfl
  have h3 := hf 3 _ rfl
  have h4 := hf 4 _ rfl
  simp [Value.cells, cellsInt1a, cellsBool1a, cellsLawsT] at h0 h1 h2 h3 h4
  obtain ⟨a, e0, _, _⟩ := DataW.trod_int Tryd.underlying3 h0
  obtain ⟨b, e1, _, _⟩ := DataW.trod_int Tryd.underlying3 h1
  obtain ⟨c, e2, _⟩ := DataW.trod_bool Tryd.underlying4 h2
  obtain ⟨o, cap, l, e3, r3⟩ := open_table_cells rfl h3
  obtain ⟨o', cap', l', e4, r4⟩ := open_table_cells rfl h4
  simp at e0 e1 e2 e3 e4
  subst e0 e1 e2 e3 e4
  exact ⟨⟨a, b, c, l, l'⟩, ⟨_, _, rfl, ⟨o, cap, rfl, r3.2⟩, ⟨o', cap', rfl, r4.2⟩⟩, r3.1, r4.1⟩

end Go.Proofs.YtljogkoaaidlcaaDoor

/- Tables, as the model has them: ways, homes, what is put, dropped, due; no program. -/
namespace Go.Proofs.YtljogkoaaidlcaaDoor
open Go.ChangeShapes Go.WideShapes Go.ChangeAt Go.RowKit Go.Joins
set_option linter.unusedVariables false
set_option linter.unusedSimpArgs false

/-- Where a flow belongs. -/
def homeN (n : Nat) (a p : Int) : Nat := ((a * 31 + p) % (n : Int)).toNat
theorem homeN_lt {n : Nat} (hn : 0 < n) (a p : Int) : homeN n a p < n := by
 unfold homeN
 have h1 := Int.emod_nonneg (a * 31 + p) (show (n : Int) ≠ 0 by omega)
 have h2 := Int.emod_lt_of_pos (a * 31 + p) (show (0 : Int) < n by omega)
 omega
theorem homeN_cast {n : Nat} (hn : 0 < n) (a p : Int) : ((homeN n a p : Nat) : Int) = (a * 31 + p) % (n : Int) := by
 unfold homeN
 have h1 := Int.emod_nonneg (a * 31 + p) (show (n : Int) ≠ 0 by omega)
 omega
theorem homeN_tmod {n : Nat} (hn : 0 < n) {a p : Int} (h : flowOkB a p = true) : (a * 31 + p).tmod (n : Int) = ((homeN n a p : Nat) : Int) := by
 rw [homeN_cast hn, Int.tmod_eq_emod_of_nonneg]
 have := flowOkB_iff.1 h
 omega
theorem homeN_tmod' {n : Nat} (hn : 0 < n) {a p : Int} (h : flowOkB a p = true) : (31 * a + p).tmod (n : Int) = ((homeN n a p : Nat) : Int) := by
 rw [Int.mul_comm]; exact homeN_tmod hn h
theorem next_tmod (n i : Nat) : ((i : Int) + 1).tmod (n : Int) = (((i + 1) % n : Nat) : Int) := by
 rw [Int.tmod_eq_emod_of_nonneg (by omega)]; simp
/-- How far it is from one slot to another, going up. -/
def farN (n i k : Nat) : Nat := (k + n - i) % n
theorem next_lt {n : Nat} (hn : 0 < n) (i : Nat) : (i + 1) % n < n := Nat.mod_lt _ hn

/-- The way of a flow from slot i on, so many slots at most: where it ends, and whether that is its own. -/
def wayGo (l : List Sl) (a p : Int) : Nat → Nat → Int × Bool
 | 0, _ => (-1, false)
 | f + 1, i => if (l.getD i sl0).u = true then (if (l.getD i sl0).a = a ∧ (l.getD i sl0).p = p then ((i : Int), true) else wayGo l a p f ((i + 1) % l.length)) else ((i : Int), false)
def endL (l : List Sl) (a p : Int) : Int × Bool := wayGo l a p l.length (homeN l.length a p)
theorem wayGo_free {l : List Sl} {a p : Int} {f i : Nat} (h : (l.getD i sl0).u = false) : wayGo l a p (f + 1) i = ((i : Int), false) := by simp only [wayGo, h]; simp
theorem wayGo_own {l : List Sl} {a p : Int} {f i : Nat} (h : (l.getD i sl0).u = true) (h1 : (l.getD i sl0).a = a) (h2 : (l.getD i sl0).p = p) : wayGo l a p (f + 1) i = ((i : Int), true) := by simp only [wayGo, h, h1, h2]; simp
theorem wayGo_next {l : List Sl} {a p : Int} {f i : Nat} (h : (l.getD i sl0).u = true) (h1 : ¬ ((l.getD i sl0).a = a ∧ (l.getD i sl0).p = p)) : wayGo l a p (f + 1) i = wayGo l a p f ((i + 1) % l.length) := by simp only [wayGo, h, h1]; simp
/-- Where a way ends: nowhere, at a slot that is free, or at its own. -/
theorem wayGo_cases (l : List Sl) (hn : 0 < l.length) (a p : Int) : ∀ (f i : Nat), i < l.length → wayGo l a p f i = (-1, false) ∨ ∃ k, k < l.length ∧ ((wayGo l a p f i = ((k : Int), false) ∧ (l.getD k sl0).u = false) ∨ (wayGo l a p f i = ((k : Int), true) ∧ (l.getD k sl0).u = true ∧ (l.getD k sl0).a = a ∧ (l.getD k sl0).p = p))
 | 0, i, _ => .inl rfl
 | f + 1, i, hi => by
  cases hu : (l.getD i sl0).u with
  | false => exact .inr ⟨i, hi, .inl ⟨wayGo_free hu, hu⟩⟩
  | true =>
   by_cases h : (l.getD i sl0).a = a ∧ (l.getD i sl0).p = p
   ·exact .inr ⟨i, hi, .inr ⟨wayGo_own hu h.1 h.2, hu, h.1, h.2⟩⟩
   ·rw [wayGo_next hu h]
    exact wayGo_cases l hn a p f _ (next_lt hn i)
theorem endL_cases (l : List Sl) (hn : 0 < l.length) (a p : Int) : endL l a p = (-1, false) ∨ ∃ k, k < l.length ∧ ((endL l a p = ((k : Int), false) ∧ (l.getD k sl0).u = false) ∨ (endL l a p = ((k : Int), true) ∧ (l.getD k sl0).u = true ∧ (l.getD k sl0).a = a ∧ (l.getD k sl0).p = p)) :=
 wayGo_cases l hn a p _ _ (homeN_lt hn a p)

/-- A slot that may be. -/
def slotB (s : Sl) : Bool := if s.u = true then flowOkB s.a s.p && decide (0 ≤ s.v) && decide (s.v ≤ 100000) && decide (0 ≤ s.t) && decide (s.t ≤ 200000) else decide (s.a = 0) && decide (s.p = 0) && decide (s.v = 0) && decide (s.t = 0)
theorem slotB_used {s : Sl} (h : s.u = true) : slotB s = true ↔ flowOkB s.a s.p = true ∧ 0 ≤ s.v ∧ s.v ≤ 100000 ∧ 0 ≤ s.t ∧ s.t ≤ 200000 := by simp [slotB, h, and_assoc]
theorem slotB_free {s : Sl} (h : s.u = false) : slotB s = true ↔ s = sl0 := by
 obtain ⟨u, a, p, v, t⟩ := s
 simp at h; subst h
 simp [slotB, and_assoc]
/-- Whoever stands at i is got there. -/
def wayB (l : List Sl) (i : Nat) : Bool := !(l.getD i sl0).u || (endL l (l.getD i sl0).a (l.getD i sl0).p == ((i : Int), true))
def tabAt (l : List Sl) (i : Nat) : Bool := slotB (l.getD i sl0) && wayB l i
def tableOkB (l : List Sl) : Bool := decide (1 ≤ l.length) && decide (l.length ≤ 16) && (List.range l.length).all (tabAt l)
theorem tableOkB_iff {l : List Sl} : tableOkB l = true ↔ 1 ≤ l.length ∧ l.length ≤ 16 ∧ ∀ i, i < l.length → tabAt l i = true := by simp [tableOkB, and_assoc]
theorem tableOkB_yes {l : List Sl} (h1 : 1 ≤ l.length) (h2 : l.length ≤ 16) (h : ∀ i, i < l.length → tabAt l i = true) : true = tableOkB l := (tableOkB_iff.2 ⟨h1, h2, h⟩).symm
theorem tableOkB_no {l : List Sl} {i : Nat} (hi : i < l.length) (h : tabAt l i = false) : false = tableOkB l := by
 cases hb : tableOkB l with
 | false => rfl
 | true => rw [(tableOkB_iff.1 hb).2.2 i hi] at h; cases h
theorem tableOkB_len {l : List Sl} (h : ¬ (1 ≤ l.length ∧ l.length ≤ 16)) : false = tableOkB l := by
 cases hb : tableOkB l with
 | false => rfl
 | true => exact absurd ⟨(tableOkB_iff.1 hb).1, (tableOkB_iff.1 hb).2.1⟩ h
theorem tabAt_slot {l : List Sl} {i : Nat} (h : slotB (l.getD i sl0) = false) : tabAt l i = false := by unfold tabAt; rw [h]; rfl
theorem tabAt_way {l : List Sl} {i : Nat} (hu : (l.getD i sl0).u = true) (h : endL l (l.getD i sl0).a (l.getD i sl0).p ≠ ((i : Int), true)) : tabAt l i = false := by unfold tabAt wayB; rw [hu, beq_eq_false_iff_ne.2 h]; cases slotB (l.getD i sl0) <;> rfl
theorem tabAt_free {l : List Sl} {i : Nat} (hu : (l.getD i sl0).u = false) (h : slotB (l.getD i sl0) = true) : tabAt l i = true := by unfold tabAt wayB; rw [hu, h]; rfl
theorem tabAt_used {l : List Sl} {i : Nat} (h : slotB (l.getD i sl0) = true) (h' : endL l (l.getD i sl0).a (l.getD i sl0).p = ((i : Int), true)) : tabAt l i = true := by unfold tabAt wayB; rw [h, h']; cases (l.getD i sl0).u <;> simp
/-- All up to k may be, ways and all. -/
def tabTo (l : List Sl) (k : Nat) : Prop := ∀ i, i < k → tabAt l i = true
theorem tabTo_succ {l : List Sl} {k : Nat} (h : tabTo l k) (hk : tabAt l k = true) : tabTo l (k + 1) := fun i hi => by
 rcases Nat.lt_succ_iff_lt_or_eq.1 hi with h1 | h1
 ·exact h i h1
 ·rw [h1]; exact hk
/-- All up to k may be, but for their ways. -/
def slotTo (l : List Sl) (k : Nat) : Prop := ∀ i, i < k → slotB (l.getD i sl0) = true
theorem slotTo_succ {l : List Sl} {k : Nat} (h : slotTo l k) (hk : slotB (l.getD k sl0) = true) : slotTo l (k + 1) := fun i hi => by
 rcases Nat.lt_succ_iff_lt_or_eq.1 hi with h1 | h1
 ·exact h i h1
 ·rw [h1]; exact hk

/-- How far all stand from their homes. -/
def sumTo : Nat → (Nat → Nat) → Nat
 | 0, _ => 0
 | n + 1, f => sumTo n f + f n
theorem sumTo_same : ∀ (n : Nat) {f g : Nat → Nat}, (∀ x, x < n → f x = g x) → sumTo n f = sumTo n g
 | 0, _, _, _ => rfl
 | n + 1, f, g, h => by simp only [sumTo]; rw [sumTo_same n (fun x hx => h x (by omega)), h n (by omega)]
theorem sumTo_upd : ∀ (n : Nat) {f g : Nat → Nat} {j : Nat}, j < n → (∀ x, x ≠ j → f x = g x) → sumTo n f + g j = sumTo n g + f j
 | 0, _, _, _, h, _ => absurd h (Nat.not_lt_zero _)
 | n + 1, f, g, j, h, he => by
  simp only [sumTo]
  by_cases e : j = n
  ·subst e
   rw [sumTo_same j (fun x hx => he x (by omega))]; omega
  ·have := sumTo_upd n (show j < n by omega) he
   rw [he n (fun e' => e e'.symm)]; omega
def wt (n : Nat) (l : List Sl) (j : Nat) : Nat := if (l.getD j sl0).u = true then farN n (homeN n (l.getD j sl0).a (l.getD j sl0).p) j else 0
def phi (l : List Sl) : Nat := sumTo l.length (wt l.length l)
def meas (l : List Sl) (i k : Nat) : Nat := phi l * 17 + farN l.length k i

def moves (n : Nat) (l : List Sl) (i k : Nat) : Bool := decide (farN n i k ≤ farN n (homeN n (l.getD k sl0).a (l.getD k sl0).p) k)
/-- What comes nearer, slot by slot: the hole is at i, k is looked at. -/
def dropGo (n : Nat) : Nat → List Sl → Nat → Nat → List Sl
 | 0, l, _, _ => l
 | f + 1, l, i, k => if (l.getD k sl0).u = true then (if moves n l i k = true then dropGo n f ((l.set i (l.getD k sl0)).set k sl0) k ((k + 1) % n) else dropGo n f l i ((k + 1) % n)) else l
def dropAtL (l : List Sl) (i : Nat) : List Sl := dropGo l.length (meas (l.set i sl0) i ((i + 1) % l.length) + 1) (l.set i sl0) i ((i + 1) % l.length)
theorem dropGo_end {n f i k : Nat} {l : List Sl} (h : (l.getD k sl0).u = false) : dropGo n (f + 1) l i k = l := by simp only [dropGo, h]; simp
theorem dropGo_move {n f i k : Nat} {l : List Sl} (h : (l.getD k sl0).u = true) (hm : moves n l i k = true) : dropGo n (f + 1) l i k = dropGo n f ((l.set i (l.getD k sl0)).set k sl0) k ((k + 1) % n) := by simp only [dropGo, h, hm]; simp
theorem dropGo_stay {n f i k : Nat} {l : List Sl} (h : (l.getD k sl0).u = true) (hm : moves n l i k = false) : dropGo n (f + 1) l i k = dropGo n f l i ((k + 1) % n) := by simp only [dropGo, h, hm]; simp
theorem getD_set_self (l : List Sl) (i : Nat) (s : Sl) (h : i < l.length) : (l.set i s).getD i sl0 = s := by simp [h]
theorem getD_set_ne (l : List Sl) (i j : Nat) (s : Sl) (h : i ≠ j) : (l.set i s).getD j sl0 = l.getD j sl0 := by
 simp [List.getElem?_set, h]
theorem mod_small {a n : Nat} (h : a < n) : a % n = a := Nat.mod_eq_of_lt h
theorem mod_wrap {a n : Nat} (h1 : n ≤ a) (h2 : a < n + n) : a % n = a - n := by rw [Nat.mod_eq_sub_mod h1, Nat.mod_eq_of_lt (by omega)]
theorem farN_eq {n i k : Nat} (hi : i < n) (hk : k < n) : farN n i k = if i ≤ k then k - i else k + n - i := by
 unfold farN
 by_cases h : i ≤ k
 ·rw [if_pos h, mod_wrap (by omega) (by omega)]; omega
 ·rw [if_neg h, mod_small (by omega)]
theorem next_eq {n k : Nat} (hk : k < n) : (k + 1) % n = if k + 1 = n then 0 else k + 1 := by
 by_cases h : k + 1 = n
 ·rw [if_pos h, h, Nat.mod_self]
 ·rw [if_neg h, mod_small (by omega)]
theorem meas_stay {l : List Sl} {i k : Nat} (hi : i < l.length) (hk : k < l.length) (hne : k ≠ i) : meas l i ((k + 1) % l.length) < meas l i k := by
 unfold meas
 have h1 := next_lt (n := l.length) (by omega) k
 rw [farN_eq h1 hi, farN_eq hk hi, next_eq hk]
 split <;> (repeat' split) <;> omega
theorem meas_move {l : List Sl} {i k : Nat} (hl : l.length ≤ 16) (hi : i < l.length) (hk : k < l.length) (hfree : (l.getD i sl0).u = false) (hu : (l.getD k sl0).u = true) (hm : moves l.length l i k = true) :
  meas ((l.set i (l.getD k sl0)).set k sl0) k ((k + 1) % l.length) < meas l i k := by
 have hne : i ≠ k := fun e => by rw [e, hu] at hfree; cases hfree
 unfold meas phi
 rw [show ((l.set i (l.getD k sl0)).set k sl0).length = l.length by simp]
 have e1 := sumTo_upd l.length (f := wt l.length ((l.set i (l.getD k sl0)).set k sl0)) (g := wt l.length (l.set i (l.getD k sl0))) hk (fun x hx => by unfold wt; rw [getD_set_ne _ k x _ (fun e => hx e.symm)])
 have e2 := sumTo_upd l.length (f := wt l.length (l.set i (l.getD k sl0))) (g := wt l.length l) hi (fun x hx => by unfold wt; rw [getD_set_ne _ i x _ (fun e => hx e.symm)])
 have w1 : wt l.length ((l.set i (l.getD k sl0)).set k sl0) k = 0 := by unfold wt; rw [getD_set_self _ _ _ (by simpa using hk)]; rfl
 have w2 : wt l.length (l.set i (l.getD k sl0)) k = farN l.length (homeN l.length (l.getD k sl0).a (l.getD k sl0).p) k := by unfold wt; rw [getD_set_ne _ i k _ hne, hu]; rfl
 have w3 : wt l.length (l.set i (l.getD k sl0)) i = farN l.length (homeN l.length (l.getD k sl0).a (l.getD k sl0).p) i := by unfold wt; rw [getD_set_self _ _ _ hi, hu]; rfl
 have w4 : wt l.length l i = 0 := by unfold wt; rw [hfree]; rfl
 rw [w1, w2] at e1
 rw [w3, w4] at e2
 have hh := homeN_lt (show 0 < l.length by omega) (l.getD k sl0).a (l.getD k sl0).p
 have hmv : farN l.length i k ≤ farN l.length (homeN l.length (l.getD k sl0).a (l.getD k sl0).p) k := by simpa [moves] using hm
 generalize homeN l.length (l.getD k sl0).a (l.getD k sl0).p = h at *
 have h1 := next_lt (n := l.length) (by omega) k
 have hd : farN l.length h i + 1 ≤ farN l.length h k := by
  rw [farN_eq hi hk, farN_eq hh hk] at hmv
  rw [farN_eq hh hi, farN_eq hh hk]
  (repeat' split at hmv) <;> (repeat' split) <;> omega
 have hf : farN l.length ((k + 1) % l.length) k < 16 := by
  have : farN l.length ((k + 1) % l.length) k < l.length := Nat.mod_lt _ (by omega)
  omega
 omega

end Go.Proofs.YtljogkoaaidlcaaDoor

/- The model's side of chapter 5: homes, ways, TableOk. -/
namespace Go.Proofs.YtljogkoaaidlcaaDoor
open Go.ChangeShapes Go.WideShapes Go.ChangeAt Go.RowKit Go.Joins
set_option linter.unusedVariables false
set_option linter.unusedSimpArgs false

abbrev flow (a p : Int) : Value := .agg #[.int .i64 a, .int .i64 p]
set_option maxHeartbeats 400000 in
theorem l5home_any (n : Nat) (a p : Int) (w : World) (hn : 0 < n) (hl : n ≤ 1048576) (hf : flowOkB a p = true) :
  Calls Tryd.prog 53 #[.int .i64 n, flow a p] w fun e w' => e = .returned (.int .i64 (homeN n a p)) ∧ Below w.heap.size w w' := by
 have hB : Below w.heap.size w w := Below.refl _ _
 have hh := homeN_tmod hn hf
 have hlt := homeN_lt hn a p
 have h0 := flowOkB_iff.1 hf
 have hne : ¬ ((n : Int) = 0) := by omega
 have hne' : ((n : Int) == 0) = false := by simpa using hne
 obtain ⟨h1, h2, h3, h4⟩ := h0
 go_enter Tryd.func53, Tryd.ntmps53
 go_wp2
 go_ret
 exact ⟨rfl, by (repeat (first | with_reducible exact hB | with_reducible exact Below.refl _ _ | with_reducible refine Below.drew ?_ | with_reducible refine below_drewN ?_ _ | with_reducible refine Below.alloc ?_ ?_ _ | with_reducible refine Below.setCell ?_ ?_ _ | (focus (simp; done)) | (focus (simp; omega)) | omega))⟩

set_option maxHeartbeats 2000000 in
theorem l5at_any (o : Option Addr) (c : Nat) (l : List Sl) (a p : Int) (w : World) (hR : RdS w.heap.size w o l) (hn : 0 < l.length) (hl : l.length ≤ 1048576) (hf : flowOkB a p = true) :
  Calls Tryd.prog 38 #[tab (.slice o l.length c), flow a p] w fun e w' => e = .returned (.tuple #[.int .i64 (endL l a p).1, .bool (endL l a p).2]) ∧ Below w.heap.size w w' := by
 rcases hR with hR | ⟨b, off, rfl, hbl, hcell⟩
 ·subst hR; simp at hn
 have hB : Below w.heap.size w w := Below.refl _ _
 have HC := hide hcell
 clear hcell
 go_enter Tryd.func38, Tryd.ntmps38
 go_wp2_with fail; go_at_call 53; refine (l5home_any l.length a p _ hn hl hf).mono ?_; rintro e w1a ⟨rfl, hba⟩; obtain ⟨hca, hfa⟩ := bcell hba; have hz0a : w.heap.size < w1a.heap.size := (by have hz := hba.size; (try simp at hz); omega); have hz1a : w.heap.size + 1 < w1a.heap.size := (by have hz := hba.size; (try simp at hz); omega); have hB : Below w.heap.size w w1a := (by refine Below.trans ?_ (hba.mono (by have hs := hB.size; (try simp) <;> omega)); (repeat (first | with_reducible exact hB | with_reducible exact Below.refl _ _ | with_reducible refine Below.drew ?_ | with_reducible refine below_drewN ?_ _ | with_reducible refine Below.alloc ?_ ?_ _ | with_reducible refine Below.setCell ?_ ?_ _ | (focus (simp; done)) | (focus (simp; omega)) | omega)))
 have hc0 : w1a.cell? ⟨w.heap.size, 0, none⟩ = some (.slice (some ⟨b, off, none⟩) l.length c) := by rw [hca _ _ (by (try simp) <;> omega)]; simp [go_sem]
 have hc1 : w1a.cell? ⟨w.heap.size + 1, 0, none⟩ = some (.int .i64 a) := by rw [hca _ _ (by (try simp) <;> omega)]; simp [go_sem]
 have hc2 : w1a.cell? ⟨w.heap.size + 1, 1, none⟩ = some (.int .i64 p) := by rw [hca _ _ (by (try simp) <;> omega)]; simp [go_sem]
 have HB := hide hB
 clear hB hca hfa hba
 have hh := homeN_lt hn a p
 have HE := hide (show wayGo l a p l.length (homeN l.length a p) = endL l a p from rfl)
 generalize homeN l.length a p = h at *
 go_wp2
 go_loopw [7, 8] (fun i k wr => ∃ (i' k' : Nat), k' ≤ l.length ∧ i' < l.length ∧ i = .int .i64 i' ∧ k = .int .i64 k' ∧ Hid (wayGo l a p (l.length - k') i' = endL l a p) ∧ Hid (Below w1a.heap.size w1a wr))
  (fun _ k _ => l.length - (intOf k).toNat)
 case atStart => exact ⟨h, 0, Nat.zero_le _, hh, rfl, rfl, HE, Below.refl _ _⟩
 case round =>
  obtain ⟨i, k, hk, hi, rfl, rfl, hE, HBr⟩ := hrel
  have d0 : wr.cell? ⟨w.heap.size, 0, none⟩ = some (.slice (some ⟨b, off, none⟩) l.length c) := (HBr.out.cell (p := ⟨w.heap.size, 0, none⟩) hz0a).trans hc0
  have d1 : wr.cell? ⟨w.heap.size + 1, 0, none⟩ = some (.int .i64 a) := (HBr.out.cell (p := ⟨w.heap.size + 1, 0, none⟩) hz1a).trans hc1
  have d2 : wr.cell? ⟨w.heap.size + 1, 1, none⟩ = some (.int .i64 p) := (HBr.out.cell (p := ⟨w.heap.size + 1, 1, none⟩) hz1a).trans hc2
  have HB2 := hide (HB.out.trans (HBr.out.mono HB.out.size))
  by_cases hlt : k < l.length
  ·obtain ⟨s, hxy⟩ : ∃ s, l.getD i sl0 = s := ⟨_, rfl⟩
   have hcx := RdL.slot (C := w.heap.size) HC.out i hi
   rw [hxy] at hcx
   have e0 : wr.cell? ⟨b, off + i * 5, none⟩ = some (.bool s.u) := (HB2.out.cell (p := ⟨b, off + i * 5, none⟩) hbl).trans hcx.1
   have e1 : wr.cell? ⟨b, off + i * 5 + 1, none⟩ = some (.int .i64 s.a) := (HB2.out.cell (p := ⟨b, off + i * 5 + 1, none⟩) hbl).trans hcx.2.1
   have e2 : wr.cell? ⟨b, off + i * 5 + 2, none⟩ = some (.int .i64 s.p) := (HB2.out.cell (p := ⟨b, off + i * 5 + 2, none⟩) hbl).trans hcx.2.2.1
   have hi' : (i : Int) < (l.length : Int) := by omega
   have hk' : (k : Int) < (l.length : Int) := by omega
   have hne' : ((l.length : Int) == 0) = false := beq_eq_false_iff_ne.2 (by omega)
   have hm := next_tmod l.length i
   have ek : l.length - k = (l.length - (k + 1)) + 1 := by omega
   rw [ek] at hE
   obtain ⟨su, sa, sp, sv, st⟩ := s
   simp only at e0 e1 e2
   clear hcx hc0 hc1 hc2 HC
   cases su with
   | false =>
    have HF := hide (hE.out.symm.trans (wayGo_free (by rw [hxy])))
    clear hE hxy ek
    go_wp2
    go_ret2
    exact ⟨by rw [HF.out]; rfl, HB2.out⟩
   | true =>
    by_cases hq : sa = a ∧ sp = p
    ·have HF := hide (hE.out.symm.trans (wayGo_own (by rw [hxy]) (by rw [hxy]; exact hq.1) (by rw [hxy]; exact hq.2)))
     obtain ⟨rfl, rfl⟩ := hq
     clear hE hxy ek
     go_wp2
     go_region
     go_wp2
     go_ret2
     exact ⟨by rw [HF.out]; rfl, Below.drew HB2.out⟩
    ·have HF := hide (hE.out.symm.trans (wayGo_next (by rw [hxy]) (by rw [hxy]; exact hq))).symm
     clear hE hxy ek
     have hx : (k + 1 ≤ l.length) := by omega
     by_cases hq1 : sa = a
     ·subst hq1
      have hq2 : ¬ sp = p := fun e => hq ⟨rfl, e⟩
      have hq3 : (sp == p) = false := beq_eq_false_iff_ne.2 hq2
      clear hq
      go_wp2
      go_region
      go_wp2
      go_roundw
      case rel => exact ⟨(i + 1) % l.length, k + 1, hx, next_lt hn i, by go_num, by go_num, HF, Below.drew HBr.out⟩
      case measure => simp [intOf]; omega
     ·have hq3 : (sa == a) = false := beq_eq_false_iff_ne.2 hq1
      clear hq
      go_wp2
      go_region
      go_wp2
      go_roundw
      case rel => exact ⟨(i + 1) % l.length, k + 1, hx, next_lt hn i, by go_num, by go_num, HF, Below.drew HBr.out⟩
      case measure => simp [intOf]; omega
  ·have e : k = l.length := by omega
   subst e
   have HF := hide (show endL l a p = (-1, false) from hE.out.symm.trans (by rw [Nat.sub_self]; rfl))
   clear hE
   go_wp2
   go_ret2
   exact ⟨by rw [HF.out]; rfl, HB2.out⟩

end Go.Proofs.YtljogkoaaidlcaaDoor

/- The model's TableOk. -/
namespace Go.Proofs.YtljogkoaaidlcaaDoor
open Go.ChangeShapes Go.WideShapes Go.ChangeAt Go.RowKit Go.Joins
set_option linter.unusedVariables false
set_option linter.unusedSimpArgs false

set_option maxHeartbeats 4000000 in
theorem specTableOk_any (o : Option Addr) (c : Nat) (l : List Sl) (w : World) (hR : RdS w.heap.size w o l) (hl : l.length ≤ 1048576) :
  Calls Tryd.prog 26 #[tab (.slice o l.length c)] w fun e w' => e = .returned (.bool (tableOkB l)) ∧ Below w.heap.size w w' := by
 have hB : Below w.heap.size w w := Below.refl _ _
 by_cases hlen : 1 ≤ l.length ∧ l.length ≤ 16
 ·obtain ⟨hn, h16⟩ := hlen
  rcases hR with hR | ⟨b, off, rfl, hbl, hcell⟩
  ·subst hR; simp at hn
  have HC := hide hcell
  have i1 : ¬ ((l.length : Int) < 1) := by omega
  have i2 : ¬ (16 < (l.length : Int)) := by omega
  have h0 : Hid (Below w.heap.size w (w.alloc (.cells #[.slice (some ⟨b, off, none⟩) l.length c] 32))) := hB.alloc (Nat.le_refl _) _
  have hb0 : Hid ((w.alloc (.cells #[.slice (some ⟨b, off, none⟩) l.length c] 32)).cell? ⟨w.heap.size, 0, none⟩ = some (.slice (some ⟨b, off, none⟩) l.length c)) := by simp [hide, go_sem, Hid]
  have hz0 : w.heap.size < (w.alloc (.cells #[.slice (some ⟨b, off, none⟩) l.length c] 32)).heap.size := by simp
  clear hcell hB
  go_enter Tryd.func26, Tryd.ntmps26
  go_wp2
  generalize w.alloc (.cells #[.slice (some ⟨b, off, none⟩) l.length c] 32) = w0 at *
  go_loopw [3] (fun i wr => ∃ k : Nat, k ≤ l.length ∧ i = .int .i64 k ∧ Hid (tabTo l k) ∧ Hid (Below w0.heap.size w0 wr))
   (fun i _ => l.length - (intOf i).toNat)
  case atStart => exact ⟨0, Nat.zero_le _, rfl, fun i hi => absurd hi (Nat.not_lt_zero _), Below.refl _ _⟩
  case round =>
   obtain ⟨k, hk, rfl, hT, HBr⟩ := hrel
   have d0 : wr.cell? ⟨w.heap.size, 0, none⟩ = some (.slice (some ⟨b, off, none⟩) l.length c) := (HBr.out.cell (p := ⟨w.heap.size, 0, none⟩) hz0).trans hb0.out
   have HB2 := hide (h0.out.trans (HBr.out.mono h0.out.size))
   have hs1 : w0.heap.size ≤ wr.heap.size := HBr.out.size
   by_cases hlt : k < l.length
   ·obtain ⟨s, hxy⟩ : ∃ s, l.getD k sl0 = s := ⟨_, rfl⟩
    have hcx := RdL.slot (C := w.heap.size) HC.out k hlt
    rw [hxy] at hcx
    have e0 : wr.cell? ⟨b, off + k * 5, none⟩ = some (.bool s.u) := (HB2.out.cell (p := ⟨b, off + k * 5, none⟩) hbl).trans hcx.1
    have e1 : wr.cell? ⟨b, off + k * 5 + 1, none⟩ = some (.int .i64 s.a) := (HB2.out.cell (p := ⟨b, off + k * 5 + 1, none⟩) hbl).trans hcx.2.1
    have e2 : wr.cell? ⟨b, off + k * 5 + 2, none⟩ = some (.int .i64 s.p) := (HB2.out.cell (p := ⟨b, off + k * 5 + 2, none⟩) hbl).trans hcx.2.2.1
    have e3 : wr.cell? ⟨b, off + k * 5 + 3, none⟩ = some (.int .i64 s.v) := (HB2.out.cell (p := ⟨b, off + k * 5 + 3, none⟩) hbl).trans hcx.2.2.2.1
    have e4 : wr.cell? ⟨b, off + k * 5 + 4, none⟩ = some (.int .i64 s.t) := (HB2.out.cell (p := ⟨b, off + k * 5 + 4, none⟩) hbl).trans hcx.2.2.2.2
    have hk' : (k : Int) < (l.length : Int) := by omega
    have HX := hide hxy
    clear hcx hxy
    obtain ⟨su, sa, sp, sv, st⟩ := s
    simp only at e0 e1 e2 e3 e4
    cases su with
    | false =>
     by_cases hz : sa = 0 ∧ sp = 0 ∧ sv = 0 ∧ st = 0
     ·obtain ⟨rfl, rfl, rfl, rfl⟩ := hz
      have HT := hide (tabTo_succ hT.out (tabAt_free (by rw [HX.out]) ((slotB_free (by rw [HX.out])).2 HX.out)))
      clear hT
      go_wp2
      go_roundw
      case rel => exact ⟨k + 1, hlt, by go_num, HT, show Below _ _ _ by have hB := HBr.out; (repeat (first | with_reducible exact hB | with_reducible exact Below.refl _ _ | with_reducible refine Below.drew ?_ | with_reducible refine below_drewN ?_ _ | with_reducible refine Below.alloc ?_ ?_ _ | with_reducible refine Below.setCell ?_ ?_ _ | (focus (simp; done)) | (focus (simp; omega)) | omega))⟩
      case measure => simp [intOf]; omega
     ·have HN := hide (tableOkB_no hlt (tabAt_slot (by rw [HX.out]; simp [slotB]; intro h1 h2 h3 h4; exact hz ⟨h1, h2, h3, h4⟩)))
      clear hT
      go_wp2
      all_goals go_ret
      all_goals exact ⟨ret_bool HN.out, by have hB := HB2.out; (repeat (first | with_reducible exact hB | with_reducible exact Below.refl _ _ | with_reducible refine Below.drew ?_ | with_reducible refine below_drewN ?_ _ | with_reducible refine Below.alloc ?_ ?_ _ | with_reducible refine Below.setCell ?_ ?_ _ | (focus (simp; done)) | (focus (simp; omega)) | omega))⟩
    | true =>
     obtain ⟨W1, hW1⟩ : ∃ W, wr.alloc (.cells #[.bool true, .int .i64 sa, .int .i64 sp, .int .i64 sv, .int .i64 st] 56) = W := ⟨_, rfl⟩
     have hbW : Hid (Below wr.heap.size wr W1) := by rw [← hW1]; exact (Below.refl _ _).alloc (Nat.le_refl _) _
     have hzW : wr.heap.size < W1.heap.size := by rw [← hW1]; simp
     have c0 : W1.cell? ⟨wr.heap.size, 0, none⟩ = some (.bool true) := by rw [← hW1]; simp [go_sem]
     have c1 : W1.cell? ⟨wr.heap.size, 1, none⟩ = some (.int .i64 sa) := by rw [← hW1]; simp [go_sem]
     have c2 : W1.cell? ⟨wr.heap.size, 2, none⟩ = some (.int .i64 sp) := by rw [← hW1]; simp [go_sem]
     have c3 : W1.cell? ⟨wr.heap.size, 3, none⟩ = some (.int .i64 sv) := by rw [← hW1]; simp [go_sem]
     have c4 : W1.cell? ⟨wr.heap.size, 4, none⟩ = some (.int .i64 st) := by rw [← hW1]; simp [go_sem]
     have c5 : W1.cell? ⟨w.heap.size, 0, none⟩ = some (.slice (some ⟨b, off, none⟩) l.length c) := (hbW.out.cell (p := ⟨w.heap.size, 0, none⟩) (show w.heap.size < wr.heap.size by omega)).trans d0
     have hz3 : w.heap.size < W1.heap.size := by omega
     have HBW := hide (HB2.out.trans (hbW.out.mono HB2.out.size))
     have HW := hide (HBr.out.trans (hbW.out.mono HBr.out.size))
     have hfl := specFlowOk_any sa sp W1
     cases hfo : flowOkB sa sp with
     | false =>
      have HN := hide (tableOkB_no hlt (tabAt_slot (by rw [HX.out]; simp [slotB, hfo])))
      rw [hfo] at hfl
      clear hT hfo
      go_wp2_with (go_at_call 37; refine hfl.mono ?_; rintro e w2 ⟨rfl, hb2⟩; have HB3 := hide (HBW.out.trans (hb2.mono HBW.out.size)); have m0 := (hb2.cell (p := ⟨wr.heap.size, 0, none⟩) hzW).trans c0; have m2 := (hb2.cell (p := ⟨wr.heap.size, 3, none⟩) hzW).trans c3; have m3 := (hb2.cell (p := ⟨wr.heap.size, 4, none⟩) hzW).trans c4; clear hb2)
      all_goals go_ret
      all_goals exact ⟨ret_bool HN.out, HB3.out⟩
     | true =>
      rw [hfo] at hfl
      by_cases hv : 0 ≤ sv ∧ sv ≤ 100000 ∧ 0 ≤ st ∧ st ≤ 200000
      ·obtain ⟨v1, v2, v3, v4⟩ := hv
       have g1 : ¬ sv < 0 := by omega
       have g2 : ¬ 100000 < sv := by omega
       have g3 : ¬ st < 0 := by omega
       have g4 : ¬ 200000 < st := by omega
       have HS := hide ((slotB_used (s := l.getD k sl0) (by rw [HX.out])).2 (by rw [HX.out]; exact ⟨hfo, v1, v2, v3, v4⟩))
       have HF := hide hfo
       clear hfo v1 v2 v3 v4
       have hat := fun W hr => l5at_any (some ⟨b, off, none⟩) c l sa sp W hr (by omega) hl HF.out
       by_cases hE : endL l sa sp = ((k : Int), true)
       ·have HT := hide (tabTo_succ hT.out (tabAt_used HS.out (by rw [HX.out]; exact hE)))
        rw [hE] at hat
        clear hT hE
        go_wp2_with (first | (go_at_call 37; refine hfl.mono ?_; rintro e w2 ⟨rfl, hb2⟩; have HB3 := hide (HBW.out.trans (hb2.mono HBW.out.size)); have HB4 := hide (HW.out.trans (hb2.mono HW.out.size)); have m0 := (hb2.cell (p := ⟨wr.heap.size, 0, none⟩) hzW).trans c0; have m1 := (hb2.cell (p := ⟨wr.heap.size, 1, none⟩) hzW).trans c1; have m4 := (hb2.cell (p := ⟨wr.heap.size, 2, none⟩) hzW).trans c2; have m2 := (hb2.cell (p := ⟨wr.heap.size, 3, none⟩) hzW).trans c3; have m3 := (hb2.cell (p := ⟨wr.heap.size, 4, none⟩) hzW).trans c4; have m5 := (hb2.cell (p := ⟨w.heap.size, 0, none⟩) hz3).trans c5; have hz2 := hb2.size; clear hb2) | (go_at_call 38; refine (hat _ (.inr ⟨b, off, rfl, by omega, fun i hi j hj => (HB3.out.cell (p := ⟨b, off + i * layS.k + j, none⟩) hbl).trans (HC.out i hi j hj)⟩)).mono ?_; rintro e w3 ⟨rfl, hb3⟩; have HB5 := hide (HB4.out.trans (hb3.mono HB4.out.size)); clear hb3))
        go_roundw
        case rel => exact ⟨k + 1, hlt, by go_num, HT, HB5⟩
        case measure => simp [intOf]; omega
       ·have HN := hide (tableOkB_no hlt (tabAt_way (by rw [HX.out]) (by rw [HX.out]; exact hE)))
        generalize hEE : endL l sa sp = E at *
        obtain ⟨E1, E2⟩ := E
        have hE' : E2 = true → ¬ E1 = (k : Int) := fun h1 h2 => hE (by rw [h1, h2])
        clear hT hE hEE
        cases E2 with
        | false =>
         go_wp2_with (first | (go_at_call 37; refine hfl.mono ?_; rintro e w2 ⟨rfl, hb2⟩; have HB3 := hide (HBW.out.trans (hb2.mono HBW.out.size)); have HB4 := hide (HW.out.trans (hb2.mono HW.out.size)); have m0 := (hb2.cell (p := ⟨wr.heap.size, 0, none⟩) hzW).trans c0; have m1 := (hb2.cell (p := ⟨wr.heap.size, 1, none⟩) hzW).trans c1; have m4 := (hb2.cell (p := ⟨wr.heap.size, 2, none⟩) hzW).trans c2; have m2 := (hb2.cell (p := ⟨wr.heap.size, 3, none⟩) hzW).trans c3; have m3 := (hb2.cell (p := ⟨wr.heap.size, 4, none⟩) hzW).trans c4; have m5 := (hb2.cell (p := ⟨w.heap.size, 0, none⟩) hz3).trans c5; have hz2 := hb2.size; clear hb2) | (go_at_call 38; refine (hat _ (.inr ⟨b, off, rfl, by omega, fun i hi j hj => (HB3.out.cell (p := ⟨b, off + i * layS.k + j, none⟩) hbl).trans (HC.out i hi j hj)⟩)).mono ?_; rintro e w3 ⟨rfl, hb3⟩; have HB5 := hide (HB3.out.trans (hb3.mono HB3.out.size)); clear hb3))
         go_ret
         exact ⟨ret_bool HN.out, HB5.out⟩
        | true =>
         have hE3 := hE' rfl
         have hE4 : (E1 == (k : Int)) = false := beq_eq_false_iff_ne.2 hE3
         clear hE'
         go_wp2_with (first | (go_at_call 37; refine hfl.mono ?_; rintro e w2 ⟨rfl, hb2⟩; have HB3 := hide (HBW.out.trans (hb2.mono HBW.out.size)); have HB4 := hide (HW.out.trans (hb2.mono HW.out.size)); have m0 := (hb2.cell (p := ⟨wr.heap.size, 0, none⟩) hzW).trans c0; have m1 := (hb2.cell (p := ⟨wr.heap.size, 1, none⟩) hzW).trans c1; have m4 := (hb2.cell (p := ⟨wr.heap.size, 2, none⟩) hzW).trans c2; have m2 := (hb2.cell (p := ⟨wr.heap.size, 3, none⟩) hzW).trans c3; have m3 := (hb2.cell (p := ⟨wr.heap.size, 4, none⟩) hzW).trans c4; have m5 := (hb2.cell (p := ⟨w.heap.size, 0, none⟩) hz3).trans c5; have hz2 := hb2.size; clear hb2) | (go_at_call 38; refine (hat _ (.inr ⟨b, off, rfl, by omega, fun i hi j hj => (HB3.out.cell (p := ⟨b, off + i * layS.k + j, none⟩) hbl).trans (HC.out i hi j hj)⟩)).mono ?_; rintro e w3 ⟨rfl, hb3⟩; have HB5 := hide (HB3.out.trans (hb3.mono HB3.out.size)); clear hb3))
         go_ret
         exact ⟨ret_bool HN.out, HB5.out⟩
      ·have HN := hide (tableOkB_no hlt (tabAt_slot (by rw [HX.out]; simp [slotB, hfo]; intro h1 h2 h3; exact Int.not_le.1 fun h4 => hv ⟨h1, h2, h3, h4⟩)))
       have HV := hide hv
       clear hT hfo hv
       go_wp2_with (go_at_call 37; refine hfl.mono ?_; rintro e w2 ⟨rfl, hb2⟩; have HB3 := hide (HBW.out.trans (hb2.mono HBW.out.size)); have m0 := (hb2.cell (p := ⟨wr.heap.size, 0, none⟩) hzW).trans c0; have m1 := (hb2.cell (p := ⟨wr.heap.size, 1, none⟩) hzW).trans c1; have m4 := (hb2.cell (p := ⟨wr.heap.size, 2, none⟩) hzW).trans c2; have m2 := (hb2.cell (p := ⟨wr.heap.size, 3, none⟩) hzW).trans c3; have m3 := (hb2.cell (p := ⟨wr.heap.size, 4, none⟩) hzW).trans c4; clear hb2)
       all_goals first | (go_ret; exact ⟨ret_bool HN.out, HB3.out⟩) | (exfalso; apply HV.out; omega) | skip
   ·have e : k = l.length := by omega
    subst e
    have HY := hide (tableOkB_yes hn h16 hT.out)
    go_wp2
    go_ret
    exact ⟨ret_bool HY.out, HB2.out⟩
 ·have HN := hide (tableOkB_len hlen)
  by_cases h1 : (l.length : Int) < 1
  ·go_enter Tryd.func26, Tryd.ntmps26
   go_wp2
   go_ret
   exact ⟨ret_bool HN.out, by (repeat (first | with_reducible exact hB | with_reducible exact Below.refl _ _ | with_reducible refine Below.drew ?_ | with_reducible refine below_drewN ?_ _ | with_reducible refine Below.alloc ?_ ?_ _ | with_reducible refine Below.setCell ?_ ?_ _ | (focus (simp; done)) | (focus (simp; omega)) | omega))⟩
  ·have h2 : (16 : Int) < l.length := by omega
   go_enter Tryd.func26, Tryd.ntmps26
   go_wp2
   go_ret
   exact ⟨ret_bool HN.out, by (repeat (first | with_reducible exact hB | with_reducible exact Below.refl _ _ | with_reducible refine Below.drew ?_ | with_reducible refine below_drewN ?_ _ | with_reducible refine Below.alloc ?_ ?_ _ | with_reducible refine Below.setCell ?_ ?_ _ | (focus (simp; done)) | (focus (simp; omega)) | omega))⟩

end Go.Proofs.YtljogkoaaidlcaaDoor

/- The model's Home, CountOf, TableNew. -/
namespace Go.Proofs.YtljogkoaaidlcaaDoor
open Go.ChangeShapes Go.WideShapes Go.ChangeAt Go.RowKit Go.Joins
set_option linter.unusedVariables false
set_option linter.unusedSimpArgs false

/-- How many of the first k are used. -/
def countTo (l : List Sl) (k : Nat) : Nat := ((l.take k).filter (fun s => s.u)).length
theorem countTo_le (l : List Sl) (k : Nat) : countTo l k ≤ k := Nat.le_trans (List.length_filter_le _ _) (by simp; omega)
end Go.Proofs.YtljogkoaaidlcaaDoor

