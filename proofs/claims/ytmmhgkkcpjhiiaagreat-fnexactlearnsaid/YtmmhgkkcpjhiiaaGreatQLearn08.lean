/- Slices of backs: how they read; the laws' own helpers over them: toBack, szBackS, toBackS, eqBack, eqBackS. -/
import Derived.Deep.RegionHeld3
import Derived.Test.YtmmhgkkcpjhiiaaGreatQLearn03
namespace Go.Proofs.YtmmhgkkcpjhiiaaGreat
open Go.ChangeShapes Go.WideShapes Go.ChangeAt Go.RowKit Go.Joins
set_option linter.unusedVariables false
set_option linter.unusedSimpArgs false

abbrev Bk := Int × Int × Bool
def layK : Lay Bk := ⟨3, fun a => [.int .i64 a.1, .int .i64 a.2.1, .bool a.2.2], (0, 0, false), fun _ => rfl⟩
abbrev back (i g : Int) (d : Bool) : Value := .agg #[.int .i64 i, .int .i64 g, .bool d]
abbrev RdK := RdL layK
abbrev ownK := ownL layK 178

theorem RdL.back {C : Nat} {w : World} {b off : Nat} {l : List Bk} (h : ∀ i, i < l.length → ∀ j, j < layK.k → w.cell? ⟨b, off + i * layK.k + j, none⟩ = (layK.cs (l.getD i layK.d))[j]?) (i : Nat) (hi : i < l.length) :
  w.cell? ⟨b, off + i * 3, none⟩ = some (.int .i64 (l.getD i (0, 0, false)).1) ∧ w.cell? ⟨b, off + i * 3 + 1, none⟩ = some (.int .i64 (l.getD i (0, 0, false)).2.1) ∧ w.cell? ⟨b, off + i * 3 + 2, none⟩ = some (.bool (l.getD i (0, 0, false)).2.2) :=
 ⟨h i hi 0 (by decide), h i hi 1 (by decide), h i hi 2 (by decide)⟩

theorem cellsLawsBack : Tryz.prog.cellsOf 409 = 3 := by kernel_rfl
theorem infoBack : (Tryz.prog.info? 178).map (fun i => (i.zero, i.size, i.bytes)) = some (some (.agg #[.int .i64 0, .int .i64 0, .bool false]), 3, 24) := by kernel_rfl

theorem cellsInt1 : Tryz.prog.cellsOf 3 = 1 := by kernel_rfl
theorem cellsBool1 : Tryz.prog.cellsOf 4 = 1 := by kernel_rfl
theorem open_backs_cells {H : Type} {enc : TypeId × Value → H} {W : World} {fuel : Nat} {cs : List Value} {x : DataW H × List MemPlace} (h : DataW.trod enc Tryz.prog W 0 (fun _ => true) true fuel 86 cs = some x) :
  ∃ (o : Option Addr) (cap : Nat) (l : List Bk), cs = [.slice o l.length cap] ∧ l.length ≤ maxLen ∧ RdK W.heap.size W o l := by
 refine open_list layK (by decide) Tryz.underlying86 cellsLawsBack ?_ h
 intro n cs y hl hy
 match cs, hl with
 | [c0, c1, c2], _ =>
  obtain ⟨y0, y1, y2, m, _, _, h0, h1, h2⟩ := Go.Deep.trod_struct3 Tryz.underlying409 hy
  simp [cellsInt1, cellsBool1] at h0 h1 h2
  obtain ⟨a, e0, _, _⟩ := DataW.trod_int Tryz.underlying3 h0
  obtain ⟨b, e1, _, _⟩ := DataW.trod_int Tryz.underlying3 h1
  obtain ⟨c, e2, _⟩ := DataW.trod_bool Tryz.underlying4 h2
  simp at e0 e1 e2
  subst e0 e1 e2
  exact ⟨(a, b, c), rfl⟩
set_option maxHeartbeats 400000 in
theorem toBack_any (i g : Int) (d : Bool) (w : World) :
  Calls Tryz.prog 340 #[back i g d] w fun e w' => e = .returned (back i g d) ∧ Below w.heap.size w w' := by
 have hB : Below w.heap.size w w := Below.refl _ _
 go_enter Tryz.func340, Tryz.ntmps340
 go_wp2
 refine bodyPost_ret (v := .agg #[.int .i64 i, .int .i64 g, .bool d]) (by simp [results, Tryz.results340, go_sem]) rfl ⟨rfl, ?_⟩
 (repeat (first | with_reducible exact hB | with_reducible exact Below.refl _ _ | with_reducible refine Below.drew ?_ | with_reducible refine below_drewN ?_ _ | with_reducible refine Below.alloc ?_ ?_ _ | with_reducible refine Below.setCell ?_ ?_ _ | (focus (simp; done)) | (focus (simp; omega)) | omega))

set_option maxHeartbeats 400000 in
theorem eqBack_same (i g : Int) (d : Bool) (w : World) :
  Calls Tryz.prog 344 #[back i g d, back i g d] w fun e w' => e = .returned (.bool true) ∧ Below w.heap.size w w' := by
 have hB : Below w.heap.size w w := Below.refl _ _
 go_enter Tryz.func344, Tryz.ntmps344
 go_wp2
 all_goals go_ret
 all_goals exact ⟨rfl, by (repeat (first | with_reducible exact hB | with_reducible exact Below.refl _ _ | with_reducible refine Below.drew ?_ | with_reducible refine below_drewN ?_ _ | with_reducible refine Below.alloc ?_ ?_ _ | with_reducible refine Below.setCell ?_ ?_ _ | (focus (simp; done)) | (focus (simp; omega)) | omega))⟩

set_option maxHeartbeats 400000 in
theorem szBackS_any (o : Option Addr) (len cap : Nat) (n : Int) (w : World) (hl : len ≤ maxLen) (h0 : 0 ≤ n) (h1 : n ≤ 1048576) :
  Calls Tryz.prog 246 #[.slice o len cap, .int .i64 n] w fun e w' => e = .returned (.int .i64 (if n - len < 0 then -1 else n - len)) ∧ w = w' := by
 unfold maxLen at hl
 by_cases h : n - len < 0
 ·rw [if_pos h]
  go_enter Tryz.func246, Tryz.ntmps246
  go_wp2
  go_ret
  exact ⟨rfl, rfl⟩
 ·rw [if_neg h]
  go_enter Tryz.func246, Tryz.ntmps246
  go_wp2
  go_ret
  exact ⟨rfl, rfl⟩

theorem fillK_step {w wr : World} {base g c : Nat} {l : List Bk} {k : Nat} {x y : Int} {z : Bool} (hxy : l.getD k (0, 0, false) = (x, y, z)) (hk : k < l.length) (hg : base ≤ g) (hown : wr.ownsRow w.heap.size 178 3 (.slice (some ⟨g, 0, none⟩) l.length c) l.length ((fillL layK l k).flatMap layK.cs))
  (hB : Below base w wr) : (((wr.setCell ⟨g, k * 3, none⟩ (.int .i64 x)).setCell ⟨g, k * 3 + 1, none⟩ (.int .i64 y)).setCell ⟨g, k * 3 + 2, none⟩ (.bool z)).ownsRow w.heap.size 178 3 (.slice (some ⟨g, 0, none⟩) l.length c) l.length ((fillL layK l (k + 1)).flatMap layK.cs) ∧
   Below base w (((wr.setCell ⟨g, k * 3, none⟩ (.int .i64 x)).setCell ⟨g, k * 3 + 1, none⟩ (.int .i64 y)).setCell ⟨g, k * 3 + 2, none⟩ (.bool z)) := by
 have h := (((hown.stored (k * 3) (.int .i64 x)).1.stored (k * 3 + 1) (.int .i64 y)).1.stored (k * 3 + 2) (.bool z)).1
 rw [flat_set3 layK rfl (a := (x, y, z)) rfl, ← hxy, show l.getD k (0, 0, false) = l.getD k layK.d from rfl, fillL_set layK l k hk] at h
 exact ⟨h, ((hB.setCell (p := ⟨g, k * 3, none⟩) hg _).setCell (p := ⟨g, k * 3 + 1, none⟩) hg _).setCell (p := ⟨g, k * 3 + 2, none⟩) hg _⟩

set_option maxHeartbeats 1000000 in
theorem toBackS_any (o : Option Addr) (cap : Nat) (l : List Bk) (w : World) (hR : RdK w.heap.size w o l) (hlen : l.length ≤ 1048576) :
  Calls Tryz.prog 256 #[.slice o l.length cap] w fun e w' => ∃ g, e = .returned (.slice (some ⟨g, 0, none⟩) l.length l.length) ∧ ownK w' w.heap.size (.slice (some ⟨g, 0, none⟩) l.length l.length) l ∧ Below w.heap.size w w' := by
 obtain ⟨i0, hi, hz0, hz1, hz2⟩ := info_parts infoBack
 have hB : Below w.heap.size w w := Below.refl _ _
 go_enter Tryz.func256, Tryz.ntmps256
 go_wp2_with (at_make; refine wpList_make_full _ rfl _ _ 26 rfl w.heap.size 178 i0 (.agg #[.int .i64 0, .int .i64 0, .bool false]) 3 Tryz.underlying26 hi hz0 hz1 _ _ _ _ l.length rfl rfl rfl rfl ?b2 ?b3 ?b4 ?_)
 case b2 => rw [hz2]; omega
 case b3 => unfold maxLen; omega
 case b4 => simp
 intro w1 hown hgrow
 have hB1 : Below w.heap.size w w1 := hB.grown hgrow (Nat.le_refl _) (fun k h => by cases h)
 have hown1 : w1.ownsRow w.heap.size 178 3 (.slice (some ⟨w.heap.size, 0, none⟩) l.length l.length) l.length ((fillL layK l 0).flatMap layK.cs) := by
  rw [fillL_zero, ← made_flat layK (.agg #[.int .i64 0, .int .i64 0, .bool false]) rfl]; exact hown
 clear hown hgrow hB
 go_wp2
 go_loopw [4] (fun i wr => ∃ k : Nat, k ≤ l.length ∧ i = .int .i64 k ∧ wr.ownsRow w.heap.size 178 3 (.slice (some ⟨w.heap.size, 0, none⟩) l.length l.length) l.length ((fillL layK l k).flatMap layK.cs) ∧ Below w.heap.size w wr)
  (fun i _ => l.length - (intOf i).toNat)
 case atStart => exact ⟨0, Nat.zero_le _, rfl, hown1, hB1⟩
 case round =>
  obtain ⟨k, hk, rfl, hown, hBr⟩ := hrel
  by_cases hlt : k < l.length
  ·rcases hR with hR | ⟨b, off, rfl, hbl, hcell⟩
   ·subst hR; simp at hlt
   obtain ⟨x, y, z, hxy⟩ : ∃ x y z, l.getD k (0, 0, false) = (x, y, z) := ⟨_, _, _, rfl⟩
   have hcx := RdL.back (C := w.heap.size) hcell k hlt
   rw [hxy] at hcx
   have hc0 : wr.cell? ⟨b, off + k * 3, none⟩ = some (.int .i64 x) := (hBr.cell (p := ⟨b, off + k * 3, none⟩) hbl).trans hcx.1
   have hc1 : wr.cell? ⟨b, off + k * 3 + 1, none⟩ = some (.int .i64 y) := (hBr.cell (p := ⟨b, off + k * 3 + 1, none⟩) hbl).trans hcx.2.1
   have hc2 : wr.cell? ⟨b, off + k * 3 + 2, none⟩ = some (.bool z) := (hBr.cell (p := ⟨b, off + k * 3 + 2, none⟩) hbl).trans hcx.2.2
   have HW := hide (hlt)
   clear hcell hcx
   go_wp2_with fail
   refine (toBack_any _ _ _ _).mono ?_
   rintro e w2 ⟨rfl, hb2⟩
   have hB2 : Below w.heap.size w w2 := hBr.trans (hb2.mono hBr.size)
   have hown2 := own_kept hown hb2
   have hln : ((fillL layK l k).flatMap layK.cs).length = l.length * 3 := by rw [flat_length, fillL_length layK l k hk]; rfl
   have hcl0 := hown2.cellAt (k * 3) (by omega)
   have hcl1 := hown2.cellAt (k * 3 + 1) (by omega)
   have hcl2 := hown2.cellAt (k * 3 + 2) (by omega)
   have hf0 := hown2.frozenAt (k * 3)
   have hf1 := hown2.frozenAt (k * 3 + 1)
   have hf2 := hown2.frozenAt (k * 3 + 2)
   obtain ⟨u0, hu0⟩ : ∃ u, w2.cell? ⟨w.heap.size, k * 3, none⟩ = some u := ⟨_, hcl0.trans (List.getElem?_eq_getElem (by omega))⟩
   obtain ⟨u1, hu1⟩ : ∃ u, w2.cell? ⟨w.heap.size, k * 3 + 1, none⟩ = some u := ⟨_, hcl1.trans (List.getElem?_eq_getElem (by omega))⟩
   obtain ⟨u2, hu2⟩ : ∃ u, w2.cell? ⟨w.heap.size, k * 3 + 2, none⟩ = some u := ⟨_, hcl2.trans (List.getElem?_eq_getElem (by omega))⟩
   have HR := hide (fillK_step (g := w.heap.size) hxy hlt (Nat.le_refl _) hown2 hB2)
   clear hxy hown hBr hcl0 hcl1 hcl2 hB1 hown1 hown2 hc0 hc1 hc2 hb2 hln
   go_wp2
   go_roundw
   case rel => exact ⟨k + 1, by omega, by go_num, HR.out.1, HR.out.2⟩
   case measure => simp [intOf]; omega
  ·have e : k = l.length := by omega
   subst e
   rw [fillL_all] at hown
   go_wp2
   go_ret
   exact ⟨w.heap.size, rfl, hown, hBr⟩

set_option maxHeartbeats 1000000 in
theorem eqBackS_same (o1 o2 : Option Addr) (c1 c2 : Nat) (l : List Bk) (w : World) (h1 : RdK w.heap.size w o1 l) (h2 : RdK w.heap.size w o2 l) (hl : l.length ≤ 1048576) :
  Calls Tryz.prog 260 #[.slice o1 l.length c1, .slice o2 l.length c2] w fun e w' => e = .returned (.bool true) ∧ Below w.heap.size w w' := by
 go_enter Tryz.func260, Tryz.ntmps260
 go_wp2
 go_loopw [5] (fun i wr => ∃ k : Nat, k ≤ l.length ∧ i = .int .i64 k ∧ Below w.heap.size w wr)
  (fun i _ => l.length - (intOf i).toNat)
 case atStart => exact ⟨0, Nat.zero_le _, rfl, Below.refl _ _⟩
 case round =>
  obtain ⟨k, hk, rfl, hBr⟩ := hrel
  by_cases hlt : k < l.length
  ·rcases h1 with h1 | ⟨b1, off1, rfl, hb1, hcell1⟩
   ·subst h1; simp at hlt
   rcases h2 with h2 | ⟨b2, off2, rfl, hb2, hcell2⟩
   ·subst h2; simp at hlt
   obtain ⟨x, y, z, hxy⟩ : ∃ x y z, l.getD k (0, 0, false) = (x, y, z) := ⟨_, _, _, rfl⟩
   have hcx1 := RdL.back (C := w.heap.size) hcell1 k hlt
   have hcx2 := RdL.back (C := w.heap.size) hcell2 k hlt
   rw [hxy] at hcx1 hcx2
   have p0 : wr.cell? ⟨b1, off1 + k * 3, none⟩ = some (.int .i64 x) := (hBr.cell (p := ⟨b1, off1 + k * 3, none⟩) hb1).trans hcx1.1
   have p1 : wr.cell? ⟨b1, off1 + k * 3 + 1, none⟩ = some (.int .i64 y) := (hBr.cell (p := ⟨b1, off1 + k * 3 + 1, none⟩) hb1).trans hcx1.2.1
   have p2 : wr.cell? ⟨b1, off1 + k * 3 + 2, none⟩ = some (.bool z) := (hBr.cell (p := ⟨b1, off1 + k * 3 + 2, none⟩) hb1).trans hcx1.2.2
   have q0 : wr.cell? ⟨b2, off2 + k * 3, none⟩ = some (.int .i64 x) := (hBr.cell (p := ⟨b2, off2 + k * 3, none⟩) hb2).trans hcx2.1
   have q1 : wr.cell? ⟨b2, off2 + k * 3 + 1, none⟩ = some (.int .i64 y) := (hBr.cell (p := ⟨b2, off2 + k * 3 + 1, none⟩) hb2).trans hcx2.2.1
   have q2 : wr.cell? ⟨b2, off2 + k * 3 + 2, none⟩ = some (.bool z) := (hBr.cell (p := ⟨b2, off2 + k * 3 + 2, none⟩) hb2).trans hcx2.2.2
   have HB := hide hBr
   have hsr := hide hBr.size
   clear hcell1 hcell2 hBr hcx1 hcx2 hxy
   have i1 : (k : Int) < (l.length : Int) := by omega
   go_wp2
   go_region_held3 (fun w' => w'.cell? ⟨b1, off1 + k * 3, none⟩ = some (.int .i64 x) ∧ w'.cell? ⟨b1, off1 + k * 3 + 1, none⟩ = some (.int .i64 y) ∧ w'.cell? ⟨b1, off1 + k * 3 + 2, none⟩ = some (.bool z) ∧ w'.cell? ⟨b2, off2 + k * 3, none⟩ = some (.int .i64 x) ∧ w'.cell? ⟨b2, off2 + k * 3 + 1, none⟩ = some (.int .i64 y) ∧ w'.cell? ⟨b2, off2 + k * 3 + 2, none⟩ = some (.bool z)) (first | exact ⟨p0, p1, p2, q0, q1, q2⟩) (first | (go_at_call 344; refine (eqBack_same _ _ _ _).mono ?_; rintro e w2 ⟨rfl, hb2'⟩; replace hb2' : Below wr.heap.size wr w2 := (Below.drew (Below.refl _ _)).trans hb2'; have p0 := (hb2'.cell (p := ⟨b1, off1 + k * 3, none⟩) (Nat.lt_of_lt_of_le hb1 hsr.out)).trans p0; have p1 := (hb2'.cell (p := ⟨b1, off1 + k * 3 + 1, none⟩) (Nat.lt_of_lt_of_le hb1 hsr.out)).trans p1; have p2 := (hb2'.cell (p := ⟨b1, off1 + k * 3 + 2, none⟩) (Nat.lt_of_lt_of_le hb1 hsr.out)).trans p2; have q0 := (hb2'.cell (p := ⟨b2, off2 + k * 3, none⟩) (Nat.lt_of_lt_of_le hb2 hsr.out)).trans q0; have q1 := (hb2'.cell (p := ⟨b2, off2 + k * 3 + 1, none⟩) (Nat.lt_of_lt_of_le hb2 hsr.out)).trans q1; have q2 := (hb2'.cell (p := ⟨b2, off2 + k * 3 + 2, none⟩) (Nat.lt_of_lt_of_le hb2 hsr.out)).trans q2))
   go_wp2
   go_roundw
   case rel => exact ⟨k + 1, by omega, by go_num, HB.out.trans (hb2'.mono HB.out.size)⟩
   case measure => simp [intOf]; omega
  ·have e : k = l.length := by omega
   subst e
   go_wp2
   go_ret
   exact ⟨rfl, hBr⟩

end Go.Proofs.YtmmhgkkcpjhiiaaGreat

