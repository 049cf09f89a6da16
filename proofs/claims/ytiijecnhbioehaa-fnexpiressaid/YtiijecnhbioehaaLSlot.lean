/- Slots, and rows of them: how they read; the laws' own helpers over them: toSlot, eqSlot, szSlotS, toSlotS, eqSlotS. -/
import Derived.Test.YtiijecnhbioehaaLFlow
import Derived.Test.YtiijecnhbioehaaLists
import Derived.Test.YtiijecnhbioehaaFr
import Derived.Deep.RegionHeld3
namespace Go.Proofs.Ytiijecnhbioehaa
open Go.ChangeShapes Go.WideShapes Go.ChangeAt Go.RowKit Go.Joins
set_option linter.unusedVariables false
set_option linter.unusedSimpArgs false

/-- A slot, as the model has it. -/
structure Sl where
  u : Bool
  a : Int
  p : Int
  v : Int
  t : Int
abbrev sl0 : Sl := ⟨false, 0, 0, 0, 0⟩
def layS : Lay Sl := ⟨5, fun s => [.bool s.u, .int .i64 s.a, .int .i64 s.p, .int .i64 s.v, .int .i64 s.t], sl0, fun _ => rfl⟩
abbrev slot (s : Sl) : Value := .agg #[.bool s.u, .int .i64 s.a, .int .i64 s.p, .int .i64 s.v, .int .i64 s.t]
abbrev RdS := RdL layS
abbrev ownS := ownL layS 35
abbrev InS := InL layS 35

theorem RdL.slot {C : Nat} {w : World} {b off : Nat} {l : List Sl} (h : ∀ i, i < l.length → ∀ j, j < layS.k → w.cell? ⟨b, off + i * layS.k + j, none⟩ = (layS.cs (l.getD i layS.d))[j]?) (i : Nat) (hi : i < l.length) :
    w.cell? ⟨b, off + i * 5, none⟩ = some (.bool (l.getD i sl0).u) ∧ w.cell? ⟨b, off + i * 5 + 1, none⟩ = some (.int .i64 (l.getD i sl0).a) ∧ w.cell? ⟨b, off + i * 5 + 2, none⟩ = some (.int .i64 (l.getD i sl0).p) ∧ w.cell? ⟨b, off + i * 5 + 3, none⟩ = some (.int .i64 (l.getD i sl0).v) ∧ w.cell? ⟨b, off + i * 5 + 4, none⟩ = some (.int .i64 (l.getD i sl0).t) :=
  ⟨h i hi 0 (by decide), h i hi 1 (by decide), h i hi 2 (by decide), h i hi 3 (by decide), h i hi 4 (by decide)⟩
theorem flat_set5 {α : Type} (L : Lay α) (hk : L.k = 5) {v0 v1 v2 v3 v4 : Value} {a : α} (ha : L.cs a = [v0, v1, v2, v3, v4]) : ∀ (l : List α) (i : Nat), (((((l.flatMap L.cs).set (i * 5) v0).set (i * 5 + 1) v1).set (i * 5 + 2) v2).set (i * 5 + 3) v3).set (i * 5 + 4) v4 = (l.set i a).flatMap L.cs
  | [], i => by simp
  | q :: l, 0 => by
    have hq := (L.len q).trans hk
    match hc : L.cs q, hq with
    | [q0, q1, q2, q3, q4], _ => simp [ha, hc]
  | q :: l, i + 1 => by
    have hq := (L.len q).trans hk
    match hc : L.cs q, hq with
    | [q0, q1, q2, q3, q4], _ =>
      rw [show (i + 1) * 5 = i * 5 + 1 + 1 + 1 + 1 + 1 by omega]
      simp only [List.flatMap_cons, hc, List.cons_append, List.nil_append, List.set_cons_succ]
      rw [flat_set5 L hk ha l i]
theorem infoSlot : (Try.prog.info? 35).map (fun i => (i.zero, i.size, i.bytes)) = some (some (.agg #[.bool false, .int .i64 0, .int .i64 0, .int .i64 0, .int .i64 0]), 5, 40) := by kernel_rfl
theorem cellsInt1s : Try.prog.cellsOf 3 = 1 := by kernel_rfl
theorem cellsBool1s : Try.prog.cellsOf 4 = 1 := by kernel_rfl
theorem cellsLawsSlot : Try.prog.cellsOf 128 = 5 := by kernel_rfl
theorem open_slots_cells {H : Type} {enc : TypeId × Value → H} {W : World} {fuel : Nat} {cs : List Value} {x : DataW H × List MemPlace} (h : DataW.trod enc Try.prog W 0 (fun _ => true) true fuel 57 cs = some x) :
    ∃ (o : Option Addr) (cap : Nat) (l : List Sl), cs = [.slice o l.length cap] ∧ l.length ≤ maxLen ∧ RdS W.heap.size W o l := by
  refine open_list layS (by decide) Try.underlying57 cellsLawsSlot ?_ h
  intro n cs y hl hy
  match cs, hl with
  | [c0, c1, c2, c3, c4], _ =>
    obtain ⟨y0, y1, y2, y3, m, _, _, h0, h1, h2, h3⟩ := trod_struct4 Try.underlying128 hy
    simp [cellsInt1s, cellsBool1s, cellsLawsFlow] at h0 h1 h2 h3
    obtain ⟨u, e0, _⟩ := DataW.trod_bool Try.underlying4 h0
    obtain ⟨z0, z1, m', _, _, k0, k1⟩ := trod_struct2 Try.underlying63 h1
    simp [cellsInt1s] at k0 k1
    obtain ⟨a, e1, _, _⟩ := DataW.trod_int Try.underlying3 k0
    obtain ⟨p, e2, _, _⟩ := DataW.trod_int Try.underlying3 k1
    obtain ⟨v, e3, _, _⟩ := DataW.trod_int Try.underlying3 h2
    obtain ⟨t, e4, _, _⟩ := DataW.trod_int Try.underlying3 h3
    simp at e0 e1 e2 e3 e4
    subst e0 e1 e2 e3 e4
    exact ⟨⟨u, a, p, v, t⟩, rfl⟩

set_option maxHeartbeats 800000 in
theorem toSlot_any (s : Sl) (w : World) :
    Calls Try.prog 108 #[slot s] w fun e w' => e = .returned (slot s) ∧ Below w.heap.size w w' := by
  have hB : Below w.heap.size w w := Below.refl _ _
  go_enter Try.func108, Try.ntmps108
  go_wp2_with (first | (go_at_call 44; refine (toFlow_any s.a s.p _).mono ?_; rintro e w1a ⟨rfl, hba⟩; obtain ⟨hca, hfa⟩ := bcell hba; have hz0a : w.heap.size < w1a.heap.size := (by have hz := hba.size; (try simp at hz); omega); have hz1a : w.heap.size + 1 < w1a.heap.size := (by have hz := hba.size; (try simp at hz); omega); have hB : Below w.heap.size w w1a := (by refine Below.trans ?_ (hba.mono (by have hs := hB.size; (try simp) <;> omega)); (repeat (first | with_reducible exact hB | with_reducible exact Below.refl _ _ | with_reducible refine Below.drew ?_ | with_reducible refine below_drewN ?_ _ | with_reducible refine Below.alloc ?_ ?_ _ | with_reducible refine Below.setCell ?_ ?_ _ | (focus (simp; done)) | (focus (simp; omega)) | omega)))))
  refine bodyPost_ret (v := slot s) (by simp [results, Try.results108, go_sem, hca, hz0a, hz1a]) rfl ⟨rfl, ?_⟩
  (repeat (first | with_reducible exact hB | with_reducible exact Below.refl _ _ | with_reducible refine Below.drew ?_ | with_reducible refine below_drewN ?_ _ | with_reducible refine Below.alloc ?_ ?_ _ | with_reducible refine Below.setCell ?_ ?_ _ | (focus (simp; done)) | (focus (simp; omega)) | omega))

set_option maxHeartbeats 800000 in
theorem eqSlot_same (s : Sl) (w : World) :
    Calls Try.prog 46 #[slot s, slot s] w fun e w' => e = .returned (.bool true) ∧ Below w.heap.size w w' := by
  have hB : Below w.heap.size w w := Below.refl _ _
  go_enter Try.func46, Try.ntmps46
  go_wp2_with (first | (go_at_call 86; refine (eqFlow_same s.a s.p _).mono ?_; rintro e w1a ⟨rfl, hba⟩; obtain ⟨hca, hfa⟩ := bcell hba; have hz0a : w.heap.size < w1a.heap.size := (by have hz := hba.size; (try simp at hz); omega); have hz1a : w.heap.size + 1 < w1a.heap.size := (by have hz := hba.size; (try simp at hz); omega); have hB : Below w.heap.size w w1a := (by refine Below.trans ?_ (hba.mono (by have hs := hB.size; (try simp) <;> omega)); (repeat (first | with_reducible exact hB | with_reducible exact Below.refl _ _ | with_reducible refine Below.drew ?_ | with_reducible refine below_drewN ?_ _ | with_reducible refine Below.alloc ?_ ?_ _ | with_reducible refine Below.setCell ?_ ?_ _ | (focus (simp; done)) | (focus (simp; omega)) | omega)))))
  all_goals go_ret
  all_goals exact ⟨rfl, by (repeat (first | with_reducible exact hB | with_reducible exact Below.refl _ _ | with_reducible refine Below.drew ?_ | with_reducible refine below_drewN ?_ _ | with_reducible refine Below.alloc ?_ ?_ _ | with_reducible refine Below.setCell ?_ ?_ _ | (focus (simp; done)) | (focus (simp; omega)) | omega))⟩

set_option maxHeartbeats 400000 in
theorem szSlotS_any (o : Option Addr) (len cap : Nat) (n : Int) (w : World) (hl : len ≤ maxLen) (h0 : 0 ≤ n) (h1 : n ≤ 1048576) :
    Calls Try.prog 82 #[.slice o len cap, .int .i64 n] w fun e w' => e = .returned (.int .i64 (if n - len < 0 then -1 else n - len)) ∧ w = w' := by
  unfold maxLen at hl
  by_cases h : n - len < 0
  · rw [if_pos h]
    go_enter Try.func82, Try.ntmps82
    go_wp2
    go_ret
    exact ⟨rfl, rfl⟩
  · rw [if_neg h]
    go_enter Try.func82, Try.ntmps82
    go_wp2
    go_ret
    exact ⟨rfl, rfl⟩

/-- A whole record stored into a row. -/
theorem stored5 {e : TypeId} {w wr : World} {base B g c n : Nat} {l : List Sl} {k : Nat} (s : Sl) (hg : B ≤ g) (hown : wr.ownsRow base e 5 (.slice (some ⟨g, 0, none⟩) n c) n (l.flatMap layS.cs)) (hB : Below B w wr) :
    (((((wr.setCell ⟨g, k * 5, none⟩ (.bool s.u)).setCell ⟨g, k * 5 + 1, none⟩ (.int .i64 s.a)).setCell ⟨g, k * 5 + 2, none⟩ (.int .i64 s.p)).setCell ⟨g, k * 5 + 3, none⟩ (.int .i64 s.v)).setCell ⟨g, k * 5 + 4, none⟩ (.int .i64 s.t)).ownsRow base e 5 (.slice (some ⟨g, 0, none⟩) n c) n ((l.set k s).flatMap layS.cs) ∧
      Below B w (((((wr.setCell ⟨g, k * 5, none⟩ (.bool s.u)).setCell ⟨g, k * 5 + 1, none⟩ (.int .i64 s.a)).setCell ⟨g, k * 5 + 2, none⟩ (.int .i64 s.p)).setCell ⟨g, k * 5 + 3, none⟩ (.int .i64 s.v)).setCell ⟨g, k * 5 + 4, none⟩ (.int .i64 s.t)) := by
  have h := (((((hown.stored (k * 5) (.bool s.u)).1.stored (k * 5 + 1) (.int .i64 s.a)).1.stored (k * 5 + 2) (.int .i64 s.p)).1.stored (k * 5 + 3) (.int .i64 s.v)).1.stored (k * 5 + 4) (.int .i64 s.t)).1
  rw [flat_set5 layS rfl (a := s) rfl] at h
  exact ⟨h, ((((hB.setCell (p := ⟨g, k * 5, none⟩) hg _).setCell (p := ⟨g, k * 5 + 1, none⟩) hg _).setCell (p := ⟨g, k * 5 + 2, none⟩) hg _).setCell (p := ⟨g, k * 5 + 3, none⟩) hg _).setCell (p := ⟨g, k * 5 + 4, none⟩) hg _⟩

set_option maxHeartbeats 2000000 in
theorem toSlotS_any (o : Option Addr) (cap : Nat) (l : List Sl) (w : World) (hR : RdS w.heap.size w o l) (hlen : l.length ≤ 1048576) :
    Calls Try.prog 83 #[.slice o l.length cap] w fun e w' => ∃ g, e = .returned (.slice (some ⟨g, 0, none⟩) l.length l.length) ∧ ownS w' w.heap.size (.slice (some ⟨g, 0, none⟩) l.length l.length) l ∧ Below w.heap.size w w' := by
  obtain ⟨i0, hi, hz0, hz1, hz2⟩ := info_parts infoSlot
  have hB : Below w.heap.size w w := Below.refl _ _
  go_enter Try.func83, Try.ntmps83
  go_wp2_with (at_make; refine wpList_make_full _ rfl _ _ 23 rfl w.heap.size 35 i0 (slot sl0) 5 Try.underlying23 hi hz0 hz1 _ _ _ _ l.length rfl rfl rfl rfl ?b2 ?b3 ?b4 ?_)
  case b2 => rw [hz2]; omega
  case b3 => unfold maxLen; omega
  case b4 => simp
  intro w1 hown hgrow
  have hB1 : Below w.heap.size w w1 := hB.grown hgrow (Nat.le_refl _) (fun k h => by cases h)
  have hown1 : w1.ownsRow w.heap.size 35 5 (.slice (some ⟨w.heap.size, 0, none⟩) l.length l.length) l.length ((fillL layS l 0).flatMap layS.cs) := by
    rw [fillL_zero, ← made_flat layS (slot sl0) rfl]; exact hown
  clear hown hgrow hB
  go_wp2
  go_loopw [4] (fun i wr => ∃ k : Nat, k ≤ l.length ∧ i = .int .i64 k ∧ wr.ownsRow w.heap.size 35 5 (.slice (some ⟨w.heap.size, 0, none⟩) l.length l.length) l.length ((fillL layS l k).flatMap layS.cs) ∧ Below w.heap.size w wr)
    (fun i _ => l.length - (intOf i).toNat)
  case atStart => exact ⟨0, Nat.zero_le _, rfl, hown1, hB1⟩
  case round =>
    obtain ⟨k, hk, rfl, hown, hBr⟩ := hrel
    by_cases hlt : k < l.length
    · rcases hR with hR | ⟨b, off, rfl, hbl, hcell⟩
      · subst hR; simp at hlt
      obtain ⟨s, hxy⟩ : ∃ s, l.getD k sl0 = s := ⟨_, rfl⟩
      have hcx := RdL.slot (C := w.heap.size) hcell k hlt
      rw [hxy] at hcx
      have hc0 : wr.cell? ⟨b, off + k * 5, none⟩ = some (.bool s.u) := (hBr.cell (p := ⟨b, off + k * 5, none⟩) hbl).trans hcx.1
      have hc1 : wr.cell? ⟨b, off + k * 5 + 1, none⟩ = some (.int .i64 s.a) := (hBr.cell (p := ⟨b, off + k * 5 + 1, none⟩) hbl).trans hcx.2.1
      have hc2 : wr.cell? ⟨b, off + k * 5 + 2, none⟩ = some (.int .i64 s.p) := (hBr.cell (p := ⟨b, off + k * 5 + 2, none⟩) hbl).trans hcx.2.2.1
      have hc3 : wr.cell? ⟨b, off + k * 5 + 3, none⟩ = some (.int .i64 s.v) := (hBr.cell (p := ⟨b, off + k * 5 + 3, none⟩) hbl).trans hcx.2.2.2.1
      have hc4 : wr.cell? ⟨b, off + k * 5 + 4, none⟩ = some (.int .i64 s.t) := (hBr.cell (p := ⟨b, off + k * 5 + 4, none⟩) hbl).trans hcx.2.2.2.2
      have HW := hide (hlt)
      clear hcell hcx
      go_wp2_with fail
      refine (toSlot_any s _).mono ?_
      rintro e w2 ⟨rfl, hb2⟩
      have hB2 : Below w.heap.size w w2 := hBr.trans (hb2.mono hBr.size)
      have hown2 := own_kept hown hb2
      have hln : ((fillL layS l k).flatMap layS.cs).length = l.length * 5 := by rw [flat_length, fillL_length layS l k hk]; rfl
      obtain ⟨u0, hu0⟩ : ∃ u, w2.cell? ⟨w.heap.size, k * 5, none⟩ = some u := ⟨_, (hown2.cellAt (k * 5) (by omega)).trans (List.getElem?_eq_getElem (by omega))⟩
      have hf0 := hown2.frozenAt (k * 5)
      obtain ⟨u1, hu1⟩ : ∃ u, w2.cell? ⟨w.heap.size, k * 5 + 1, none⟩ = some u := ⟨_, (hown2.cellAt (k * 5 + 1) (by omega)).trans (List.getElem?_eq_getElem (by omega))⟩
      have hf1 := hown2.frozenAt (k * 5 + 1)
      obtain ⟨u2, hu2⟩ : ∃ u, w2.cell? ⟨w.heap.size, k * 5 + 2, none⟩ = some u := ⟨_, (hown2.cellAt (k * 5 + 2) (by omega)).trans (List.getElem?_eq_getElem (by omega))⟩
      have hf2 := hown2.frozenAt (k * 5 + 2)
      obtain ⟨u3, hu3⟩ : ∃ u, w2.cell? ⟨w.heap.size, k * 5 + 3, none⟩ = some u := ⟨_, (hown2.cellAt (k * 5 + 3) (by omega)).trans (List.getElem?_eq_getElem (by omega))⟩
      have hf3 := hown2.frozenAt (k * 5 + 3)
      obtain ⟨u4, hu4⟩ : ∃ u, w2.cell? ⟨w.heap.size, k * 5 + 4, none⟩ = some u := ⟨_, (hown2.cellAt (k * 5 + 4) (by omega)).trans (List.getElem?_eq_getElem (by omega))⟩
      have hf4 := hown2.frozenAt (k * 5 + 4)
      have HR := hide (stored5 (k := k) s (Nat.le_refl _) hown2 hB2)
      have HX := hide (show (fillL layS l k).set k s = fillL layS l (k + 1) by rw [← hxy]; exact fillL_set layS l k hlt)
      clear hxy hown hBr hB1 hown1 hown2 hc0 hc1 hc2 hc3 hc4 hb2 hln
      go_wp2
      go_roundw
      case rel => exact ⟨k + 1, by omega, by go_num, (by have := HR.out.1; rw [HX.out] at this; exact this), HR.out.2⟩
      case measure => simp [intOf]; omega
    · have e : k = l.length := by omega
      subst e
      rw [fillL_all] at hown
      go_wp2
      go_ret
      exact ⟨w.heap.size, rfl, hown, hBr⟩

set_option maxHeartbeats 2000000 in
theorem eqSlotS_same (o1 o2 : Option Addr) (c1 c2 : Nat) (l : List Sl) (w : World) (h1 : RdS w.heap.size w o1 l) (h2 : RdS w.heap.size w o2 l) (hl : l.length ≤ 1048576) :
    Calls Try.prog 79 #[.slice o1 l.length c1, .slice o2 l.length c2] w fun e w' => e = .returned (.bool true) ∧ Below w.heap.size w w' := by
  go_enter Try.func79, Try.ntmps79
  go_wp2
  go_loopw [5] (fun i wr => ∃ k : Nat, k ≤ l.length ∧ i = .int .i64 k ∧ Below w.heap.size w wr)
    (fun i _ => l.length - (intOf i).toNat)
  case atStart => exact ⟨0, Nat.zero_le _, rfl, Below.refl _ _⟩
  case round =>
    obtain ⟨k, hk, rfl, hBr⟩ := hrel
    by_cases hlt : k < l.length
    · rcases h1 with h1 | ⟨b1, off1, rfl, hb1, hcell1⟩
      · subst h1; simp at hlt
      rcases h2 with h2 | ⟨b2, off2, rfl, hb2, hcell2⟩
      · subst h2; simp at hlt
      obtain ⟨s, hxy⟩ : ∃ s, l.getD k sl0 = s := ⟨_, rfl⟩
      have hcx1 := RdL.slot (C := w.heap.size) hcell1 k hlt
      have hcx2 := RdL.slot (C := w.heap.size) hcell2 k hlt
      rw [hxy] at hcx1 hcx2
      have p0 : wr.cell? ⟨b1, off1 + k * 5, none⟩ = some (.bool s.u) := (hBr.cell (p := ⟨b1, off1 + k * 5, none⟩) hb1).trans hcx1.1
      have p1 : wr.cell? ⟨b1, off1 + k * 5 + 1, none⟩ = some (.int .i64 s.a) := (hBr.cell (p := ⟨b1, off1 + k * 5 + 1, none⟩) hb1).trans hcx1.2.1
      have p2 : wr.cell? ⟨b1, off1 + k * 5 + 2, none⟩ = some (.int .i64 s.p) := (hBr.cell (p := ⟨b1, off1 + k * 5 + 2, none⟩) hb1).trans hcx1.2.2.1
      have p3 : wr.cell? ⟨b1, off1 + k * 5 + 3, none⟩ = some (.int .i64 s.v) := (hBr.cell (p := ⟨b1, off1 + k * 5 + 3, none⟩) hb1).trans hcx1.2.2.2.1
      have p4 : wr.cell? ⟨b1, off1 + k * 5 + 4, none⟩ = some (.int .i64 s.t) := (hBr.cell (p := ⟨b1, off1 + k * 5 + 4, none⟩) hb1).trans hcx1.2.2.2.2
      have q0 : wr.cell? ⟨b2, off2 + k * 5, none⟩ = some (.bool s.u) := (hBr.cell (p := ⟨b2, off2 + k * 5, none⟩) hb2).trans hcx2.1
      have q1 : wr.cell? ⟨b2, off2 + k * 5 + 1, none⟩ = some (.int .i64 s.a) := (hBr.cell (p := ⟨b2, off2 + k * 5 + 1, none⟩) hb2).trans hcx2.2.1
      have q2 : wr.cell? ⟨b2, off2 + k * 5 + 2, none⟩ = some (.int .i64 s.p) := (hBr.cell (p := ⟨b2, off2 + k * 5 + 2, none⟩) hb2).trans hcx2.2.2.1
      have q3 : wr.cell? ⟨b2, off2 + k * 5 + 3, none⟩ = some (.int .i64 s.v) := (hBr.cell (p := ⟨b2, off2 + k * 5 + 3, none⟩) hb2).trans hcx2.2.2.2.1
      have q4 : wr.cell? ⟨b2, off2 + k * 5 + 4, none⟩ = some (.int .i64 s.t) := (hBr.cell (p := ⟨b2, off2 + k * 5 + 4, none⟩) hb2).trans hcx2.2.2.2.2
      have HB := hide hBr
      have hsr := hide hBr.size
      clear hcell1 hcell2 hBr hcx1 hcx2 hxy
      have i1 : (k : Int) < (l.length : Int) := by omega
      go_wp2
      go_region_held3 (fun w' => w'.cell? ⟨b1, off1 + k * 5, none⟩ = some (.bool s.u) ∧ w'.cell? ⟨b1, off1 + k * 5 + 1, none⟩ = some (.int .i64 s.a) ∧ w'.cell? ⟨b1, off1 + k * 5 + 2, none⟩ = some (.int .i64 s.p) ∧ w'.cell? ⟨b1, off1 + k * 5 + 3, none⟩ = some (.int .i64 s.v) ∧ w'.cell? ⟨b1, off1 + k * 5 + 4, none⟩ = some (.int .i64 s.t) ∧ w'.cell? ⟨b2, off2 + k * 5, none⟩ = some (.bool s.u) ∧ w'.cell? ⟨b2, off2 + k * 5 + 1, none⟩ = some (.int .i64 s.a) ∧ w'.cell? ⟨b2, off2 + k * 5 + 2, none⟩ = some (.int .i64 s.p) ∧ w'.cell? ⟨b2, off2 + k * 5 + 3, none⟩ = some (.int .i64 s.v) ∧ w'.cell? ⟨b2, off2 + k * 5 + 4, none⟩ = some (.int .i64 s.t)) (first | exact ⟨p0, p1, p2, p3, p4, q0, q1, q2, q3, q4⟩) (first | (go_at_call 46; refine (eqSlot_same s _).mono ?_; rintro e w2 ⟨rfl, hb2'⟩; replace hb2' : Below wr.heap.size wr w2 := (Below.drew (Below.refl _ _)).trans hb2'; have p0 := (hb2'.cell (p := ⟨b1, off1 + k * 5, none⟩) (Nat.lt_of_lt_of_le hb1 hsr.out)).trans p0; have p1 := (hb2'.cell (p := ⟨b1, off1 + k * 5 + 1, none⟩) (Nat.lt_of_lt_of_le hb1 hsr.out)).trans p1; have p2 := (hb2'.cell (p := ⟨b1, off1 + k * 5 + 2, none⟩) (Nat.lt_of_lt_of_le hb1 hsr.out)).trans p2; have p3 := (hb2'.cell (p := ⟨b1, off1 + k * 5 + 3, none⟩) (Nat.lt_of_lt_of_le hb1 hsr.out)).trans p3; have p4 := (hb2'.cell (p := ⟨b1, off1 + k * 5 + 4, none⟩) (Nat.lt_of_lt_of_le hb1 hsr.out)).trans p4; have q0 := (hb2'.cell (p := ⟨b2, off2 + k * 5, none⟩) (Nat.lt_of_lt_of_le hb2 hsr.out)).trans q0; have q1 := (hb2'.cell (p := ⟨b2, off2 + k * 5 + 1, none⟩) (Nat.lt_of_lt_of_le hb2 hsr.out)).trans q1; have q2 := (hb2'.cell (p := ⟨b2, off2 + k * 5 + 2, none⟩) (Nat.lt_of_lt_of_le hb2 hsr.out)).trans q2; have q3 := (hb2'.cell (p := ⟨b2, off2 + k * 5 + 3, none⟩) (Nat.lt_of_lt_of_le hb2 hsr.out)).trans q3; have q4 := (hb2'.cell (p := ⟨b2, off2 + k * 5 + 4, none⟩) (Nat.lt_of_lt_of_le hb2 hsr.out)).trans q4))
      go_wp2
      go_roundw
      case rel => exact ⟨k + 1, by omega, by go_num, HB.out.trans (hb2'.mono HB.out.size)⟩
      case measure => simp [intOf]; omega
    · have e : k = l.length := by omega
      subst e
      go_wp2
      go_ret
      exact ⟨rfl, hBr⟩

end Go.Proofs.Ytiijecnhbioehaa
