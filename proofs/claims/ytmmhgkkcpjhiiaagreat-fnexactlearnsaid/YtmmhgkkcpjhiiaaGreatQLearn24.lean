/- Several texts in one: LCmds, SPlace, JMath, DoMath, STab2. -/
import Derived.Deep.RegionHeld3
import Derived.Test.YtmmhgkkcpjhiiaaGreatQLearn23
import Derived.Test.YtmmhgkkcpjhiiaaGreatQLearn22
import Derived.Test.YtmmhgkkcpjhiiaaGreatQLearn20
namespace Go.Proofs.YtmmhgkkcpjhiiaaGreat
open Go.ChangeShapes Go.WideShapes Go.ChangeAt Go.RowKit Go.Joins
set_option linter.unusedVariables false
set_option linter.unusedSimpArgs false

abbrev Cd := Int × Int × Int
def layC : Lay Cd := ⟨3, fun a => [.int .i64 a.1, .int .i64 a.2.1, .int .i64 a.2.2], (0, 0, 0), fun _ => rfl⟩
abbrev RdC := RdL layC
abbrev ownC := ownL layC 77

theorem RdL.cmd {C : Nat} {w : World} {b off : Nat} {l : List Cd} (h : ∀ i, i < l.length → ∀ j, j < layC.k → w.cell? ⟨b, off + i * layC.k + j, none⟩ = (layC.cs (l.getD i layC.d))[j]?) (i : Nat) (hi : i < l.length) :
  w.cell? ⟨b, off + i * 3, none⟩ = some (.int .i64 (l.getD i (0, 0, 0)).1) ∧ w.cell? ⟨b, off + i * 3 + 1, none⟩ = some (.int .i64 (l.getD i (0, 0, 0)).2.1) ∧ w.cell? ⟨b, off + i * 3 + 2, none⟩ = some (.int .i64 (l.getD i (0, 0, 0)).2.2) :=
 ⟨h i hi 0 (by decide), h i hi 1 (by decide), h i hi 2 (by decide)⟩
theorem infoCmd : (Tryz.prog.info? 77).map (fun i => (i.zero, i.size, i.bytes)) = some (some (.agg #[.int .i64 0, .int .i64 0, .int .i64 0]), 3, 24) := by kernel_rfl
theorem cellsInt1c : Tryz.prog.cellsOf 3 = 1 := by kernel_rfl
theorem open_cmds_cells {H : Type} {enc : TypeId × Value → H} {W : World} {fuel : Nat} {cs : List Value} {x : DataW H × List MemPlace} (h : DataW.trod enc Tryz.prog W 0 (fun _ => true) true fuel 83 cs = some x) :
  ∃ (o : Option Addr) (cap : Nat) (l : List Cd), cs = [.slice o l.length cap] ∧ l.length ≤ maxLen ∧ RdC W.heap.size W o l := by
 refine open_list layC (by decide) Tryz.underlying83 cellsLawsCmd ?_ h
 intro n cs y hl hy
 match cs, hl with
 | [c0, c1, c2], _ =>
  obtain ⟨y0, y1, y2, m, _, _, h0, h1, h2⟩ := Go.Deep.trod_struct3 Tryz.underlying136 hy
  simp [cellsInt1c] at h0 h1 h2
  obtain ⟨a, e0, _, _⟩ := DataW.trod_int Tryz.underlying3 h0
  obtain ⟨b, e1, _, _⟩ := DataW.trod_int Tryz.underlying3 h1
  obtain ⟨c, e2, _, _⟩ := DataW.trod_int Tryz.underlying3 h2
  simp at e0 e1 e2
  subst e0 e1 e2
  exact ⟨(a, b, c), rfl⟩

set_option maxHeartbeats 400000 in
theorem eqPoolCmd_same (i g d : Int) (w : World) :
  Calls Tryz.prog 343 #[cmd i g d, cmd i g d] w fun e w' => e = .returned (.bool true) ∧ Below w.heap.size w w' := by
 have hB : Below w.heap.size w w := Below.refl _ _
 go_enter Tryz.func343, Tryz.ntmps343
 go_wp2
 all_goals go_ret
 all_goals exact ⟨rfl, by (repeat (first | with_reducible exact hB | with_reducible exact Below.refl _ _ | with_reducible refine Below.drew ?_ | with_reducible refine below_drewN ?_ _ | with_reducible refine Below.alloc ?_ ?_ _ | with_reducible refine Below.setCell ?_ ?_ _ | (focus (simp; done)) | (focus (simp; omega)) | omega))⟩

set_option maxHeartbeats 400000 in
theorem szPoolCmdS_any (o : Option Addr) (len cap : Nat) (n : Int) (w : World) (hl : len ≤ maxLen) (h0 : 0 ≤ n) (h1 : n ≤ 1048576) :
  Calls Tryz.prog 245 #[.slice o len cap, .int .i64 n] w fun e w' => e = .returned (.int .i64 (if n - len < 0 then -1 else n - len)) ∧ w = w' := by
 unfold maxLen at hl
 by_cases h : n - len < 0
 ·rw [if_pos h]
  go_enter Tryz.func245, Tryz.ntmps245
  go_wp2
  go_ret
  exact ⟨rfl, rfl⟩
 ·rw [if_neg h]
  go_enter Tryz.func245, Tryz.ntmps245
  go_wp2
  go_ret
  exact ⟨rfl, rfl⟩

theorem fillC_step {w wr : World} {base g c : Nat} {l : List Cd} {k : Nat} {x y z : Int} (hxy : l.getD k (0, 0, 0) = (x, y, z)) (hk : k < l.length) (hg : base ≤ g) (hown : wr.ownsRow w.heap.size 77 3 (.slice (some ⟨g, 0, none⟩) l.length c) l.length ((fillL layC l k).flatMap layC.cs))
  (hB : Below base w wr) : (((wr.setCell ⟨g, k * 3, none⟩ (.int .i64 x)).setCell ⟨g, k * 3 + 1, none⟩ (.int .i64 y)).setCell ⟨g, k * 3 + 2, none⟩ (.int .i64 z)).ownsRow w.heap.size 77 3 (.slice (some ⟨g, 0, none⟩) l.length c) l.length ((fillL layC l (k + 1)).flatMap layC.cs) ∧
   Below base w (((wr.setCell ⟨g, k * 3, none⟩ (.int .i64 x)).setCell ⟨g, k * 3 + 1, none⟩ (.int .i64 y)).setCell ⟨g, k * 3 + 2, none⟩ (.int .i64 z)) := by
 have h := (((hown.stored (k * 3) (.int .i64 x)).1.stored (k * 3 + 1) (.int .i64 y)).1.stored (k * 3 + 2) (.int .i64 z)).1
 rw [flat_set3 layC rfl (a := (x, y, z)) rfl, ← hxy, show l.getD k (0, 0, 0) = l.getD k layC.d from rfl, fillL_set layC l k hk] at h
 exact ⟨h, ((hB.setCell (p := ⟨g, k * 3, none⟩) hg _).setCell (p := ⟨g, k * 3 + 1, none⟩) hg _).setCell (p := ⟨g, k * 3 + 2, none⟩) hg _⟩

set_option maxHeartbeats 1000000 in
theorem toPoolCmdS_any (o : Option Addr) (cap : Nat) (l : List Cd) (w : World) (hR : RdC w.heap.size w o l) (hlen : l.length ≤ 1048576) :
  Calls Tryz.prog 255 #[.slice o l.length cap] w fun e w' => ∃ g, e = .returned (.slice (some ⟨g, 0, none⟩) l.length l.length) ∧ ownC w' w.heap.size (.slice (some ⟨g, 0, none⟩) l.length l.length) l ∧ Below w.heap.size w w' := by
 obtain ⟨i0, hi, hz0, hz1, hz2⟩ := info_parts infoCmd
 have hB : Below w.heap.size w w := Below.refl _ _
 go_enter Tryz.func255, Tryz.ntmps255
 go_wp2_with (at_make; refine wpList_make_full _ rfl _ _ 23 rfl w.heap.size 77 i0 (.agg #[.int .i64 0, .int .i64 0, .int .i64 0]) 3 Tryz.underlying23 hi hz0 hz1 _ _ _ _ l.length rfl rfl rfl rfl ?b2 ?b3 ?b4 ?_)
 case b2 => rw [hz2]; omega
 case b3 => unfold maxLen; omega
 case b4 => simp
 intro w1 hown hgrow
 have hB1 : Below w.heap.size w w1 := hB.grown hgrow (Nat.le_refl _) (fun k h => by cases h)
 have hown1 : w1.ownsRow w.heap.size 77 3 (.slice (some ⟨w.heap.size, 0, none⟩) l.length l.length) l.length ((fillL layC l 0).flatMap layC.cs) := by
  rw [fillL_zero, ← made_flat layC (.agg #[.int .i64 0, .int .i64 0, .int .i64 0]) rfl]; exact hown
 clear hown hgrow hB
 go_wp2
 go_loopw [4] (fun i wr => ∃ k : Nat, k ≤ l.length ∧ i = .int .i64 k ∧ wr.ownsRow w.heap.size 77 3 (.slice (some ⟨w.heap.size, 0, none⟩) l.length l.length) l.length ((fillL layC l k).flatMap layC.cs) ∧ Below w.heap.size w wr)
  (fun i _ => l.length - (intOf i).toNat)
 case atStart => exact ⟨0, Nat.zero_le _, rfl, hown1, hB1⟩
 case round =>
  obtain ⟨k, hk, rfl, hown, hBr⟩ := hrel
  by_cases hlt : k < l.length
  ·rcases hR with hR | ⟨b, off, rfl, hbl, hcell⟩
   ·subst hR; simp at hlt
   obtain ⟨x, y, z, hxy⟩ : ∃ x y z, l.getD k (0, 0, 0) = (x, y, z) := ⟨_, _, _, rfl⟩
   have hcx := RdL.cmd (C := w.heap.size) hcell k hlt
   rw [hxy] at hcx
   have hc0 : wr.cell? ⟨b, off + k * 3, none⟩ = some (.int .i64 x) := (hBr.cell (p := ⟨b, off + k * 3, none⟩) hbl).trans hcx.1
   have hc1 : wr.cell? ⟨b, off + k * 3 + 1, none⟩ = some (.int .i64 y) := (hBr.cell (p := ⟨b, off + k * 3 + 1, none⟩) hbl).trans hcx.2.1
   have hc2 : wr.cell? ⟨b, off + k * 3 + 2, none⟩ = some (.int .i64 z) := (hBr.cell (p := ⟨b, off + k * 3 + 2, none⟩) hbl).trans hcx.2.2
   have HW := hide (hlt)
   clear hcell hcx
   go_wp2_with fail
   refine (toPoolCmd_any _ _ _ _).mono ?_
   rintro e w2 ⟨rfl, hb2⟩
   have hB2 : Below w.heap.size w w2 := hBr.trans (hb2.mono hBr.size)
   have hown2 := own_kept hown hb2
   have hln : ((fillL layC l k).flatMap layC.cs).length = l.length * 3 := by rw [flat_length, fillL_length layC l k hk]; rfl
   have hcl0 := hown2.cellAt (k * 3) (by omega)
   have hcl1 := hown2.cellAt (k * 3 + 1) (by omega)
   have hcl2 := hown2.cellAt (k * 3 + 2) (by omega)
   have hf0 := hown2.frozenAt (k * 3)
   have hf1 := hown2.frozenAt (k * 3 + 1)
   have hf2 := hown2.frozenAt (k * 3 + 2)
   obtain ⟨u0, hu0⟩ : ∃ u, w2.cell? ⟨w.heap.size, k * 3, none⟩ = some u := ⟨_, hcl0.trans (List.getElem?_eq_getElem (by omega))⟩
   obtain ⟨u1, hu1⟩ : ∃ u, w2.cell? ⟨w.heap.size, k * 3 + 1, none⟩ = some u := ⟨_, hcl1.trans (List.getElem?_eq_getElem (by omega))⟩
   obtain ⟨u2, hu2⟩ : ∃ u, w2.cell? ⟨w.heap.size, k * 3 + 2, none⟩ = some u := ⟨_, hcl2.trans (List.getElem?_eq_getElem (by omega))⟩
   have HR := hide (fillC_step (g := w.heap.size) hxy hlt (Nat.le_refl _) hown2 hB2)
   clear hxy hown hBr hcl0 hcl1 hcl2 hB1 hown1 hown2 hc0 hc1 hc2 hb2 hln
   go_wp2
   go_roundw
   case rel => exact ⟨k + 1, by omega, by go_num, HR.out.1, HR.out.2⟩
   case measure => simp [intOf]; omega
  ·have e : k = l.length := by omega
   subst e
   rw [fillL_all] at hown
   go_wp2
   go_ret
   exact ⟨w.heap.size, rfl, hown, hBr⟩

set_option maxHeartbeats 1000000 in
theorem eqPoolCmdS_same (o1 o2 : Option Addr) (c1 c2 : Nat) (l : List Cd) (w : World) (h1 : RdC w.heap.size w o1 l) (h2 : RdC w.heap.size w o2 l) (hl : l.length ≤ 1048576) :
  Calls Tryz.prog 259 #[.slice o1 l.length c1, .slice o2 l.length c2] w fun e w' => e = .returned (.bool true) ∧ Below w.heap.size w w' := by
 go_enter Tryz.func259, Tryz.ntmps259
 go_wp2
 go_loopw [5] (fun i wr => ∃ k : Nat, k ≤ l.length ∧ i = .int .i64 k ∧ Below w.heap.size w wr)
  (fun i _ => l.length - (intOf i).toNat)
 case atStart => exact ⟨0, Nat.zero_le _, rfl, Below.refl _ _⟩
 case round =>
  obtain ⟨k, hk, rfl, hBr⟩ := hrel
  by_cases hlt : k < l.length
  ·rcases h1 with h1 | ⟨b1, off1, rfl, hb1, hcell1⟩
   ·subst h1; simp at hlt
   rcases h2 with h2 | ⟨b2, off2, rfl, hb2, hcell2⟩
   ·subst h2; simp at hlt
   obtain ⟨x, y, z, hxy⟩ : ∃ x y z, l.getD k (0, 0, 0) = (x, y, z) := ⟨_, _, _, rfl⟩
   have hcx1 := RdL.cmd (C := w.heap.size) hcell1 k hlt
   have hcx2 := RdL.cmd (C := w.heap.size) hcell2 k hlt
   rw [hxy] at hcx1 hcx2
   have p0 : wr.cell? ⟨b1, off1 + k * 3, none⟩ = some (.int .i64 x) := (hBr.cell (p := ⟨b1, off1 + k * 3, none⟩) hb1).trans hcx1.1
   have p1 : wr.cell? ⟨b1, off1 + k * 3 + 1, none⟩ = some (.int .i64 y) := (hBr.cell (p := ⟨b1, off1 + k * 3 + 1, none⟩) hb1).trans hcx1.2.1
   have p2 : wr.cell? ⟨b1, off1 + k * 3 + 2, none⟩ = some (.int .i64 z) := (hBr.cell (p := ⟨b1, off1 + k * 3 + 2, none⟩) hb1).trans hcx1.2.2
   have q0 : wr.cell? ⟨b2, off2 + k * 3, none⟩ = some (.int .i64 x) := (hBr.cell (p := ⟨b2, off2 + k * 3, none⟩) hb2).trans hcx2.1
   have q1 : wr.cell? ⟨b2, off2 + k * 3 + 1, none⟩ = some (.int .i64 y) := (hBr.cell (p := ⟨b2, off2 + k * 3 + 1, none⟩) hb2).trans hcx2.2.1
   have q2 : wr.cell? ⟨b2, off2 + k * 3 + 2, none⟩ = some (.int .i64 z) := (hBr.cell (p := ⟨b2, off2 + k * 3 + 2, none⟩) hb2).trans hcx2.2.2
   have HB := hide hBr
   have hsr := hide hBr.size
   clear hcell1 hcell2 hBr hcx1 hcx2 hxy
   have i1 : (k : Int) < (l.length : Int) := by omega
   go_wp2
   go_region_held3 (fun w' => w'.cell? ⟨b1, off1 + k * 3, none⟩ = some (.int .i64 x) ∧ w'.cell? ⟨b1, off1 + k * 3 + 1, none⟩ = some (.int .i64 y) ∧ w'.cell? ⟨b1, off1 + k * 3 + 2, none⟩ = some (.int .i64 z) ∧ w'.cell? ⟨b2, off2 + k * 3, none⟩ = some (.int .i64 x) ∧ w'.cell? ⟨b2, off2 + k * 3 + 1, none⟩ = some (.int .i64 y) ∧ w'.cell? ⟨b2, off2 + k * 3 + 2, none⟩ = some (.int .i64 z)) (first | exact ⟨p0, p1, p2, q0, q1, q2⟩) (first | (go_at_call 343; refine (eqPoolCmd_same _ _ _ _).mono ?_; rintro e w2 ⟨rfl, hb2'⟩; replace hb2' : Below wr.heap.size wr w2 := (Below.drew (Below.refl _ _)).trans hb2'; have p0 := (hb2'.cell (p := ⟨b1, off1 + k * 3, none⟩) (Nat.lt_of_lt_of_le hb1 hsr.out)).trans p0; have p1 := (hb2'.cell (p := ⟨b1, off1 + k * 3 + 1, none⟩) (Nat.lt_of_lt_of_le hb1 hsr.out)).trans p1; have p2 := (hb2'.cell (p := ⟨b1, off1 + k * 3 + 2, none⟩) (Nat.lt_of_lt_of_le hb1 hsr.out)).trans p2; have q0 := (hb2'.cell (p := ⟨b2, off2 + k * 3, none⟩) (Nat.lt_of_lt_of_le hb2 hsr.out)).trans q0; have q1 := (hb2'.cell (p := ⟨b2, off2 + k * 3 + 1, none⟩) (Nat.lt_of_lt_of_le hb2 hsr.out)).trans q1; have q2 := (hb2'.cell (p := ⟨b2, off2 + k * 3 + 2, none⟩) (Nat.lt_of_lt_of_le hb2 hsr.out)).trans q2))
   go_wp2
   go_roundw
   case rel => exact ⟨k + 1, by omega, by go_num, HB.out.trans (hb2'.mono HB.out.size)⟩
   case measure => simp [intOf]; omega
  ·have e : k = l.length := by omega
   subst e
   go_wp2
   go_ret
   exact ⟨rfl, hBr⟩

end Go.Proofs.YtmmhgkkcpjhiiaaGreat

namespace Go.Proofs.YtmmhgkkcpjhiiaaGreat
open Go.ChangeShapes Go.WideShapes Go.ChangeAt Go.RowKit Go.Joins
set_option linter.unusedVariables false
set_option linter.unusedSimpArgs false

theorem appK0 : AppOk layK 26 178 := ⟨Tryz.underlying26, ⟨_, _, infoBack, rfl, by decide⟩, by decide, fun a u hu => by
 simp [layK] at hu; rcases hu with rfl | rfl | rfl <;> rfl⟩
theorem appC0 : AppOk layC 23 77 := ⟨Tryz.underlying23, ⟨_, _, infoCmd, rfl, by decide⟩, by decide, fun a u hu => by
 simp [layC] at hu; rcases hu with rfl | rfl | rfl <;> rfl⟩
set_option maxHeartbeats 400000 in
theorem cloneBacks_any (o : Option Addr) (cap : Nat) (l : List Bk) (w : World) (hR : RdK w.heap.size w o l) (hn : o = none → cap = 0) (hl : l.length ≤ 1048576) :
  Calls Tryz.prog 237 #[.slice o l.length cap] w fun e w' => ∃ v, e = .returned v ∧ ownK w' w.heap.size v l ∧ Below w.heap.size w w' := by
 go_enter Tryz.func237, Tryz.ntmps237
 go_wp2_with (at_builtin; refine wpList_append_lay appK0 rfl _ _ rfl w.heap.size (.slice none 0 0) [] rfl (World.ownsRow_nil _ _ _ _) o cap w.heap.size l l.length rfl rfl hn hR ?c1 (Nat.le_refl _) ?_)
 case c1 => simp; omega
 intro v w1 hv hg _
 have HR := hide (show ownK w1 w.heap.size v l ∧ Below w.heap.size w w1 from ⟨hv, (Below.refl _ _).grown hg (Nat.le_refl _) (fun k h => by cases h)⟩)
 clear hv hg
 go_wp2
 go_ret
 exact ⟨_, rfl, HR.out.1, HR.out.2⟩
set_option maxHeartbeats 400000 in
theorem cloneCmds_any (o : Option Addr) (cap : Nat) (l : List Cd) (w : World) (hR : RdC w.heap.size w o l) (hn : o = none → cap = 0) (hl : l.length ≤ 1048576) :
  Calls Tryz.prog 124 #[.slice o l.length cap] w fun e w' => ∃ v, e = .returned v ∧ ownC w' w.heap.size v l ∧ Below w.heap.size w w' := by
 go_enter Tryz.func124, Tryz.ntmps124
 go_wp2_with (at_builtin; refine wpList_append_lay appC0 rfl _ _ rfl w.heap.size (.slice none 0 0) [] rfl (World.ownsRow_nil _ _ _ _) o cap w.heap.size l l.length rfl rfl hn hR ?c1 (Nat.le_refl _) ?_)
 case c1 => simp; omega
 intro v w1 hv hg _
 have HR := hide (show ownC w1 w.heap.size v l ∧ Below w.heap.size w w1 from ⟨hv, (Below.refl _ _).grown hg (Nat.le_refl _) (fun k h => by cases h)⟩)
 clear hv hg
 go_wp2
 go_ret
 exact ⟨_, rfl, HR.out.1, HR.out.2⟩

theorem there_at {l : List Bk} (h : backsOkB l = true) {id : Int} {k : Nat} (hk : k < l.length) (e : (l.getD k (0, 0, false)).1 = id) : placeN l id = k ∧ thereB l id = true := by
 have hp : placeN l id = k := placeN_eq (Nat.le_of_lt hk) (fun j hj => by rw [← e]; exact backs_lt h k hk j hj) (.inr (by rw [e]; exact Int.lt_irrefl _))
 exact ⟨hp, by unfold thereB; rw [hp, e]; simp [hk]⟩
theorem there_no {l : List Bk} {id : Int} (h : ∀ k, k < l.length → (l.getD k (0, 0, false)).1 ≠ id) : thereB l id = false := by
 unfold thereB
 by_cases hp : placeN l id < l.length
 ·have := h _ hp
  rw [show ((l.getD (placeN l id) (0, 0, false)).1 == id) = false from beq_eq_false_iff_ne.2 this, Bool.and_false]
 ·simp [hp]
def findI (l : List Bk) (id : Int) : Int := if thereB l id then (placeN l id : Int) else -1

set_option maxHeartbeats 1000000 in
theorem l4find_any (o : Option Addr) (cap : Nat) (l : List Bk) (id : Int) (w : World) (hR : RdK w.heap.size w o l) (hl : l.length ≤ 1048576) (hok : backsOkB l = true) :
  Calls Tryz.prog 320 #[.slice o l.length cap, .int .i64 id] w fun e w' => e = .returned (.int .i64 (findI l id)) ∧ w = w' := by
 go_enter Tryz.func320, Tryz.ntmps320
 go_wp2
 go_loop [5] (fun av => ∃ k : Nat, k ≤ l.length ∧ av = .int .i64 k ∧ Hid (∀ j, j < k → (l.getD j (0, 0, false)).1 ≠ id))
  (fun av => l.length - (intOf av).toNat)
 case atStart => exact ⟨0, Nat.zero_le _, rfl, fun j hj => absurd hj (Nat.not_lt_zero _)⟩
 case round =>
  obtain ⟨k, hk, rfl, HJ⟩ := hrel
  by_cases hlt : k < l.length
  ·rcases hR with hR | ⟨b, off, rfl, hbl, hcell⟩
   ·subst hR; simp at hlt
   obtain ⟨x, y, z, hxy⟩ : ∃ x y z, l.getD k (0, 0, false) = (x, y, z) := ⟨_, _, _, rfl⟩
   have hcx := (RdL.back (C := w.heap.size) hcell k hlt).1
   rw [hxy] at hcx
   dsimp only at hcx
   have z1 : (k : Int) < (l.length : Int) := by omega
   by_cases hx : x = id
   ·have ht := there_at (id := id) hok hlt ((congrArg (fun q => q.1) hxy).trans hx)
    have HF := hide (show findI l id = (k : Int) by unfold findI; rw [ht.2, ht.1]; rfl)
    have hx' : (x == id) = true := by simpa using hx
    clear hxy hcell ht HJ hx
    go_wp2
    go_ret
    exact ⟨by rw [HF.out]; rfl, rfl⟩
   ·have HJ2 : Hid (∀ j, j < k + 1 → (l.getD j (0, 0, false)).1 ≠ id) := fun j hj => by
     rcases Nat.lt_succ_iff_lt_or_eq.1 hj with h | h
     ·exact HJ.out j h
     ·rw [h, hxy]; exact hx
    have hx' : (x == id) = false := by simpa using hx
    clear hxy hcell hx
    go_wp2
    go_round
    case rel => exact ⟨k + 1, by omega, by go_num, HJ2⟩
    case measure => simp [intOf]; omega
  ·have e : k = l.length := by omega
   have HF := hide (show findI l id = -1 by unfold findI; rw [there_no (e ▸ HJ.out)]; rfl)
   subst e
   clear HJ
   go_wp2
   go_ret
   exact ⟨by rw [HF.out]; rfl, rfl⟩

end Go.Proofs.YtmmhgkkcpjhiiaaGreat

namespace Go.Proofs.YtmmhgkkcpjhiiaaGreat
open Go.ChangeShapes Go.WideShapes Go.ChangeAt Go.RowKit Go.Joins
set_option linter.unusedVariables false
set_option linter.unusedSimpArgs false

theorem getD_mem {α : Type} {l : List α} {d b : α} (h : b ∈ l) : ∃ k, k < l.length ∧ l.getD k d = b := by
 obtain ⟨k, hk, e⟩ := List.getElem_of_mem h
 exact ⟨k, hk, by simp [hk, e]⟩
theorem backsOk_pw {l : List Bk} : backsOkB l = true ↔ l.Pairwise (fun a b => a.1 < b.1) ∧ ∀ b ∈ l, backB b.1 b.2.1 = true := by
 constructor
 ·intro h
  refine ⟨List.pairwise_iff_getElem.2 fun i j hi hj hij => ?_, fun b hb => ?_⟩
  ·have := backs_lt h j hj i hij
   simpa [hi, hj] using this
  ·obtain ⟨k, hk, e⟩ := getD_mem (d := (0, 0, false)) hb
   have := backsOkB_iff.1 h k hk
   unfold okAt at this
   rw [← e]
   simp only [Bool.and_eq_true] at this
   exact this.1
 ·rintro ⟨h1, h2⟩
  refine backsOkB_iff.2 fun k hk => ?_
  unfold okAt
  simp only [Bool.and_eq_true]
  refine ⟨h2 _ (by simp [hk]), ?_⟩
  rcases Nat.eq_zero_or_pos k with e | e
  ·subst e; simp
  ·have := List.pairwise_iff_getElem.1 h1 (k - 1) k (by omega) hk (by omega)
   have hk1 : k - 1 < l.length := by omega
   simp only [List.getD_eq_getElem?_getD, List.getElem?_eq_getElem hk, List.getElem?_eq_getElem hk1, Option.getD_some]
   simp [this]
theorem placeN_cons (b : Bk) (l : List Bk) (id : Int) : placeN (b :: l) id = if b.1 < id then placeN l id + 1 else 0 := by
 unfold placeN
 rw [List.takeWhile_cons]
 by_cases h : b.1 < id <;> simp [h]
theorem take_below : ∀ (l : List Bk) (id : Int), ∀ a ∈ l.take (placeN l id), a.1 < id
 | [], id, a, h => by simp at h
 | b :: l, id, a, h => by
  rw [placeN_cons] at h
  by_cases hb : b.1 < id
  ·rw [if_pos hb, List.take_succ_cons] at h
   rcases List.mem_cons.1 h with e | e
   ·rw [e]; exact hb
   ·exact take_below l id a e
  ·rw [if_neg hb] at h; simp at h
theorem drop_above {l : List Bk} {id : Int} (h : l.Pairwise (fun a b => a.1 < b.1)) (hn : thereB l id = false) : ∀ b ∈ l.drop (placeN l id), id < b.1 := by
 intro b hb
 have hp := placeN_le l id
 rcases Nat.lt_or_ge (placeN l id) l.length with hlt | hge
 ·have h1 := placeN_at l id hlt
  unfold thereB at hn
  simp only [hlt, decide_true, Bool.true_and, beq_eq_false_iff_ne] at hn
  have h2 : id < (l.getD (placeN l id) (0, 0, false)).1 := by omega
  rw [List.drop_eq_getElem_cons hlt] at hb
  have e : l.getD (placeN l id) (0, 0, false) = l[placeN l id] := by simp [hlt]
  rw [e] at h2
  rcases List.mem_cons.1 hb with e1 | e1
  ·rw [e1]; exact h2
  ·have h3 : (l.drop (placeN l id)).Pairwise (fun a b => a.1 < b.1) := h.sublist (List.drop_sublist _ _)
   rw [List.drop_eq_getElem_cons hlt] at h3
   have := (List.pairwise_cons.1 h3).1 b e1
   omega
 ·rw [List.drop_eq_nil_of_le hge] at hb; simp at hb
theorem ok_insert {l : List Bk} {id g : Int} (h : backsOkB l = true) (hn : thereB l id = false) (hb : backB id g = true) : backsOkB (l.take (placeN l id) ++ (id, g, false) :: l.drop (placeN l id)) = true := by
 obtain ⟨h1, h2⟩ := backsOk_pw.1 h
 have hd := drop_above h1 hn
 refine backsOk_pw.2 ⟨?_, ?_⟩
 ·have e : l.take (placeN l id) ++ l.drop (placeN l id) = l := List.take_append_drop _ _
  rw [← e] at h1
  obtain ⟨p1, p2, p3⟩ := List.pairwise_append.1 h1
  refine List.pairwise_append.2 ⟨by simpa using p1, List.pairwise_cons.2 ⟨by simpa using hd, by simpa using p2⟩, ?_⟩
  intro a ha b hb
  rcases List.mem_cons.1 hb with e1 | e1
  ·rw [e1]; exact take_below l id a ha
  ·have := take_below l id a ha; have := hd b e1; omega
 ·intro b hb'
  rcases List.mem_append.1 hb' with e | e
  ·exact h2 b (List.mem_of_mem_take e)
  ·rcases List.mem_cons.1 e with e | e
   ·rw [e]; exact hb
   ·exact h2 b (List.mem_of_mem_drop e)
theorem ok_remove {l : List Bk} (n : Nat) (h : backsOkB l = true) : backsOkB (l.take n ++ l.drop (n + 1)) = true := by
 obtain ⟨h1, h2⟩ := backsOk_pw.1 h
 have hs : (l.take n ++ l.drop (n + 1)).Sublist l := by
  have := List.Sublist.append (List.Sublist.refl (l.take n)) (List.drop_sublist 1 (l.drop n))
  rw [List.drop_drop, List.take_append_drop] at this
  exact this
 exact backsOk_pw.2 ⟨h1.sublist hs, fun b hb => h2 b (hs.subset hb)⟩
theorem ok_set {l : List Bk} {n : Nat} {a : Bk} (h : backsOkB l = true) (hn : n < l.length) (e : (l.getD n (0, 0, false)).1 = a.1) (ha : backB a.1 a.2.1 = true) : backsOkB (l.set n a) = true := by
 obtain ⟨h1, h2⟩ := backsOk_pw.1 h
 refine backsOk_pw.2 ⟨?_, ?_⟩
 ·have h3 : (l.map (·.1)).Pairwise (fun a b => a < b) := List.pairwise_map.2 h1
  have e2 : (l.set n a).map (·.1) = l.map (·.1) := by
   apply List.ext_getElem
   ·simp
   ·intro i h4 h5
    simp only [List.getElem_map, List.getElem_set]
    split
    ·next hi => subst hi; rw [← e]; simp [hn]
    ·rfl
  have h6 := e2 ▸ h3
  exact List.pairwise_map.1 h6
 ·intro b hb
  rcases List.mem_or_eq_of_mem_set hb with hb | hb
  ·exact h2 b hb
  ·rw [hb]; exact ha
theorem doL_some {l m : List Bk} {k i g : Int} (h : doL l k i g = some m) : (thereB l i = false ∧ k = 0 ∧ m = l.take (placeN l i) ++ (i, g, false) :: l.drop (placeN l i)) ∨ (thereB l i = true ∧ k = 1 ∧ m = l.set (placeN l i) (i, g, (l.getD (placeN l i) (0, 0, false)).2.2)) ∨ (thereB l i = true ∧ k = 2 ∧ m = l.set (placeN l i) (i, (l.getD (placeN l i) (0, 0, false)).2.1, true)) ∨ (thereB l i = true ∧ k ≠ 0 ∧ k ≠ 1 ∧ k ≠ 2 ∧ m = l.take (placeN l i) ++ l.drop (placeN l i + 1)) := by
 unfold doL at h
 split at h
 ·cases h
 ·next hne =>
  injection h with h
  by_cases h0 : k = 0
  ·subst h0
   simp only [beq_self_eq_true, Bool.not_eq_true] at hne
   left; exact ⟨hne, rfl, by rw [← h]; simp⟩
  ·have hk : (k == 0) = false := beq_eq_false_iff_ne.2 h0
   rw [hk] at hne
   have ht : thereB l i = true := by cases h : thereB l i <;> simp_all
   right
   by_cases h1 : k = 1
   ·left; exact ⟨ht, h1, by rw [← h, if_neg h0, if_pos h1]⟩
   ·right
    by_cases h2 : k = 2
    ·left; exact ⟨ht, h2, by rw [← h, if_neg h0, if_neg h1, if_pos h2]⟩
    ·right; exact ⟨ht, h0, h1, h2, by rw [← h, if_neg h0, if_neg h1, if_neg h2]⟩
theorem doL_len {l m : List Bk} {k i g : Int} (h : doL l k i g = some m) : m.length ≤ l.length + 1 := by
 have hp := placeN_le l i
 rcases doL_some h with ⟨_, _, rfl⟩ | ⟨_, _, rfl⟩ | ⟨_, _, rfl⟩ | ⟨_, _, _, _, rfl⟩ <;> simp <;> omega
theorem there_lt0 {l : List Bk} {id : Int} (h : thereB l id = true) : placeN l id < l.length := by
 unfold thereB at h; simp at h; exact h.1
theorem there_is0 {l : List Bk} {id : Int} (h : thereB l id = true) : (l.getD (placeN l id) (0, 0, false)).1 = id := by
 unfold thereB at h; simp only [Bool.and_eq_true, beq_iff_eq] at h; exact h.2
theorem cmdOkB_back {k i g : Int} (h : cmdOkB k i g = true) : k = 0 ∨ k = 1 → backB i g = true := by
 intro hk
 unfold cmdOkB at h
 unfold backB
 simp at h ⊢
 omega
theorem doL_ok {l m : List Bk} {k i g : Int} (hl : backsOkB l = true) (hc : cmdOkB k i g = true) (h : doL l k i g = some m) : backsOkB m = true := by
 have hcb := cmdOkB_back hc
 rcases doL_some h with ⟨ht, hk, rfl⟩ | ⟨ht, hk, rfl⟩ | ⟨ht, hk, rfl⟩ | ⟨ht, hk, _, _, rfl⟩
 ·exact ok_insert hl ht (hcb (.inl hk))
 ·exact ok_set hl (there_lt0 ht) (there_is0 ht) (hcb (.inr hk))
 ·refine ok_set hl (there_lt0 ht) (there_is0 ht) ?_
  obtain ⟨h1, h2⟩ := backsOk_pw.1 hl
  have hlt := there_lt0 ht
  have := h2 (l.getD (placeN l i) (0, 0, false)) (by simp [hlt])
  rw [there_is0 ht] at this
  exact this
 ·exact ok_remove _ hl

def stepO (s : Option (List Bk)) (c : Cd) : Option (List Bk) := s.bind fun l => if cmdOkB c.1 c.2.1 c.2.2 = true then doL l c.1 c.2.1 c.2.2 else none
def runTo (cs : List Cd) (q : Nat) : Option (List Bk) := (cs.take q).foldl stepO (some [])
theorem runTo_zero (cs : List Cd) : runTo cs 0 = some [] := rfl
theorem runTo_succ {cs : List Cd} {q : Nat} (h : q < cs.length) : runTo cs (q + 1) = stepO (runTo cs q) (cs.getD q (0, 0, 0)) := by
 unfold runTo
 rw [takeL_succ layC cs q h, List.foldl_append]
 rfl
theorem foldO_none (cs : List Cd) : cs.foldl stepO none = none := by
 induction cs with
 | nil => rfl
 | cons c cs ih => exact ih
theorem runTo_none {cs : List Cd} {q r : Nat} (h : runTo cs q = none) (hr : q ≤ r) : runTo cs r = none := by
 unfold runTo at h ⊢
 have e : cs.take r = cs.take q ++ (cs.take r).drop q := by
  have := (List.take_append_drop q (cs.take r)).symm
  rwa [List.take_take, Nat.min_eq_left hr] at this
 rw [e, List.foldl_append, h, foldO_none]
theorem runTo_ok {cs : List Cd} : ∀ (q : Nat) (l : List Bk), q ≤ cs.length → runTo cs q = some l → backsOkB l = true ∧ l.length ≤ q
 | 0, l, hq, h => by rw [runTo_zero] at h; injection h with h; subst h; exact ⟨rfl, Nat.le_refl _⟩
 | q + 1, l, hq, h => by
  rw [runTo_succ (by omega)] at h
  cases hp : runTo cs q with
  | none => rw [hp] at h; cases h
  | some l0 =>
   rw [hp] at h
   obtain ⟨i1, i2⟩ := runTo_ok q l0 (by omega) hp
   simp only [stepO, Option.bind_some] at h
   split at h
   ·next hc =>
    have := doL_len h
    exact ⟨doL_ok i1 hc h, by omega⟩
   ·cases h
def journalB (key : Int) (cs : List Cd) (safe : Int) : Bool := keyB key && decide (cs.length ≤ 100) && decide (0 ≤ safe) && decide (safe ≤ (cs.length : Int)) && (runTo cs cs.length).isSome

end Go.Proofs.YtmmhgkkcpjhiiaaGreat

namespace Go.Proofs.YtmmhgkkcpjhiiaaGreat
open Go.ChangeShapes Go.WideShapes Go.ChangeAt Go.RowKit Go.Joins
set_option linter.unusedVariables false
set_option linter.unusedSimpArgs false

def stepM (k i g fi : Int) (s : List Bk × Bool) (t : Nat) (b : Bk) : List Bk × Bool :=
 if (t : Int) = fi then (if k = 3 then (if s.2 = false ∧ i < b.1 then (s.1 ++ [(i, g, false)], true) else s) else if k = 1 then ((if s.2 = false ∧ i < b.1 then (s.1 ++ [(i, g, false)], true) else s).1 ++ [(b.1, g, b.2.2)], (if s.2 = false ∧ i < b.1 then (s.1 ++ [(i, g, false)], true) else s).2) else ((if s.2 = false ∧ i < b.1 then (s.1 ++ [(i, g, false)], true) else s).1 ++ [(b.1, b.2.1, true)], (if s.2 = false ∧ i < b.1 then (s.1 ++ [(i, g, false)], true) else s).2))
 else ((if s.2 = false ∧ i < b.1 then (s.1 ++ [(i, g, false)], true) else s).1 ++ [b], (if s.2 = false ∧ i < b.1 then (s.1 ++ [(i, g, false)], true) else s).2)
def runM (l : List Bk) (k i g fi : Int) : Nat → List Bk × Bool
 | 0 => ([], !(k == 0))
 | t + 1 => stepM k i g fi (runM l k i g fi t) t (l.getD t (0, 0, false))
def endM (s : List Bk × Bool) (i g : Int) : List Bk := if s.2 = true then s.1 else s.1 ++ [(i, g, false)]
theorem take_snoc {l : List Bk} {t : Nat} (h : t < l.length) : l.take (t + 1) = l.take t ++ [l.getD t (0, 0, false)] := takeL_succ layK l t h
theorem takeDrop_snoc {l : List Bk} {t n : Nat} (h : t < l.length) (hn : n ≤ t) : (l.take (t + 1)).drop n = (l.take t).drop n ++ [l.getD t (0, 0, false)] := by
 rw [take_snoc h, List.drop_append_of_le_length (by simp; omega)]
theorem run_add {l : List Bk} {i g : Int} (hl : backsOkB l = true) (hn : thereB l i = false) : ∀ t, t ≤ l.length → runM l 0 i g (-1) t = if t ≤ placeN l i then (l.take t, false) else (l.take (placeN l i) ++ (i, g, false) :: (l.take t).drop (placeN l i), true)
 | 0, _ => by simp [runM]
 | t + 1, ht => by
  have ih := run_add (g := g) hl hn t (by omega)
  have hlt : t < l.length := by omega
  have hneg : ¬ ((t : Int) = -1) := by omega
  have hda := drop_above (backsOk_pw.1 hl).1 hn
  unfold runM
  rw [ih]
  unfold stepM
  rw [if_neg hneg]
  rcases Nat.lt_trichotomy t (placeN l i) with h | h | h
  ·have hb := placeN_lt l i t h
   have hA : t ≤ placeN l i := by omega
   have hB : t + 1 ≤ placeN l i := by omega
   have hC : ¬ i < (l.getD t (0, 0, false)).1 := by omega
   simp only [if_pos hA, if_pos hB, hC, and_false, if_false]
   rw [take_snoc hlt]
  ·have hm : l.getD t (0, 0, false) ∈ l.drop (placeN l i) := by
    have e : l.getD t (0, 0, false) = l[t] := by simp [hlt]
    rw [← h, List.drop_eq_getElem_cons hlt, e]
    exact List.mem_cons_self
   have hb := hda _ hm
   have hA : t ≤ placeN l i := by omega
   have hB : ¬ t + 1 ≤ placeN l i := by omega
   simp only [if_pos hA, if_neg hB, hb, and_self, if_true]
   rw [takeDrop_snoc hlt (by omega), ← h]
   simp
  ·have hA : ¬ t ≤ placeN l i := by omega
   have hB : ¬ t + 1 ≤ placeN l i := by omega
   simp only [if_neg hA, if_neg hB, Bool.true_eq_false, false_and, if_false]
   rw [takeDrop_snoc hlt (by omega)]
   simp
theorem run_set {l : List Bk} {k i g : Int} {pl : Nat} {a : Bk} (h0 : (k == 0) = false) (h3 : k ≠ 3) (ha : ∀ b : Bk, b = l.getD pl (0, 0, false) → (if k = 1 then (b.1, g, b.2.2) else (b.1, b.2.1, true)) = a) : ∀ t, t ≤ l.length → runM l k i g (pl : Int) t = ((l.set pl a).take t, true)
 | 0, _ => by simp [runM, h0]
 | t + 1, ht => by
  have ih := run_set (g := g) (i := i) h0 h3 ha t (by omega)
  have hlt : t < l.length := by omega
  unfold runM
  rw [ih]
  unfold stepM
  have hno : ¬ ((true = false) ∧ i < (l.getD t (0, 0, false)).1) := by rintro ⟨h, _⟩; cases h
  rw [take_snoc (l := l.set pl a) (by simpa using hlt)]
  by_cases h : t = pl
  ·subst h
   have e := ha _ rfl
   rw [if_pos rfl, if_neg h3]
   simp only [hno, if_false]
   have e2 : (l.set t a).getD t (0, 0, false) = a := by simp [hlt]
   rw [e2, ← e]
   by_cases h1 : k = 1
   ·rw [if_pos h1, if_pos h1]
   ·rw [if_neg h1, if_neg h1]
  ·have hC : ¬ ((t : Int) = (pl : Int)) := by omega
   rw [if_neg hC]
   simp only [hno, if_false]
   have e2 : (l.set pl a).getD t (0, 0, false) = l.getD t (0, 0, false) := by
    simp only [List.getD_eq_getElem?_getD]; rw [List.getElem?_set_ne (fun e => h e.symm)]
   rw [e2]
theorem run_rem {l : List Bk} {i g : Int} {pl : Nat} : ∀ t, t ≤ l.length → runM l 3 i g (pl : Int) t = (if t ≤ pl then l.take t else l.take pl ++ (l.take t).drop (pl + 1), true)
 | 0, _ => by simp [runM]
 | t + 1, ht => by
  have ih := run_rem (l := l) (g := g) (i := i) (pl := pl) t (by omega)
  have hlt : t < l.length := by omega
  unfold runM
  rw [ih]
  unfold stepM
  have hno : ¬ ((true = false) ∧ i < (l.getD t (0, 0, false)).1) := by rintro ⟨h, _⟩; cases h
  simp only [hno, if_false, if_true]
  rcases Nat.lt_trichotomy t pl with h | h | h
  ·have hA : t ≤ pl := by omega
   have hB : t + 1 ≤ pl := by omega
   have hC : ¬ ((t : Int) = (pl : Int)) := by omega
   simp only [if_pos hA, if_pos hB, if_neg hC]
   rw [take_snoc hlt]
  ·have hA : t ≤ pl := by omega
   have hB : ¬ t + 1 ≤ pl := by omega
   have hC : (t : Int) = (pl : Int) := by omega
   simp only [if_pos hA, if_neg hB, if_pos hC]
   rw [h]
   simp
  ·have hA : ¬ t ≤ pl := by omega
   have hB : ¬ t + 1 ≤ pl := by omega
   have hC : ¬ ((t : Int) = (pl : Int)) := by omega
   simp only [if_neg hA, if_neg hB, if_neg hC]
   rw [takeDrop_snoc hlt (by omega)]
   simp
theorem run_end {l m : List Bk} {k i g : Int} (hl : backsOkB l = true) (hc : cmdOkB k i g = true) (h : doL l k i g = some m) : endM (runM l k i g (findI l i) l.length) i g = m := by
 have hpl := placeN_le l i
 unfold findI
 rcases doL_some h with ⟨ht, hk, hm⟩ | ⟨ht, hk, hm⟩ | ⟨ht, hk, hm⟩ | ⟨ht, hk, hk1, hk2, hm⟩
 ·subst hk
  rw [ht]
  simp only [Bool.false_eq_true, if_false]
  rw [run_add hl ht l.length (Nat.le_refl _), hm]
  unfold endM
  by_cases hle : l.length ≤ placeN l i
  ·rw [if_pos hle]
   have e : placeN l i = l.length := by omega
   simp [e]
  ·rw [if_neg hle]
   simp
 ·subst hk
  rw [ht, if_pos rfl, run_set (pl := placeN l i) (a := (i, g, (l.getD (placeN l i) (0, 0, false)).2.2)) rfl (by decide) (fun b hb => by rw [hb, if_pos rfl, there_is0 ht]) l.length (Nat.le_refl _), hm]
  unfold endM; rw [if_pos rfl]; exact List.take_of_length_le (by simp)
 ·subst hk
  rw [ht, if_pos rfl, run_set (pl := placeN l i) (a := (i, (l.getD (placeN l i) (0, 0, false)).2.1, true)) rfl (by decide) (fun b hb => by rw [hb, if_neg (by decide), there_is0 ht]) l.length (Nat.le_refl _), hm]
  unfold endM; rw [if_pos rfl]; exact List.take_of_length_le (by simp)
 ·have h3 : k = 3 := by have := cmdOkB_iff.1 hc; unfold CmdOk at this; omega
  subst h3
  rw [ht, if_pos rfl, run_rem l.length (Nat.le_refl _), hm]
  have hlt := there_lt0 ht
  rw [if_neg (by omega)]
  simp [endM]
theorem runM_len (l : List Bk) (k i g fi : Int) : ∀ t, (runM l k i g fi t).1.length ≤ 2 * t
 | 0 => by simp [runM]
 | t + 1 => by
  have ih := runM_len l k i g fi t
  unfold runM stepM
  split
  ·split
   ·split <;> simp <;> omega
   ·split
    ·split <;> simp <;> omega
    ·split <;> simp <;> omega
  ·split <;> simp <;> omega
theorem stepM_put {k i g fi : Int} {s : List Bk × Bool} {t : Nat} {b : Bk} (h : (stepM k i g fi s t b).2 = false) : s.2 = false := by
 cases hs : s.2 with
 | false => rfl
 | true =>
  exfalso
  unfold stepM at h
  simp only [hs, Bool.true_eq_false, false_and, if_false] at h
  split at h
  ·split at h
   ·rw [hs] at h; cases h
   ·split at h <;> cases h
  ·cases h
theorem runM_put {l : List Bk} {k i g fi : Int} : ∀ t, (runM l k i g fi t).2 = false → (k == 0) = true
 | 0, h => by simpa [runM] using h
 | t + 1, h => runM_put (l := l) (i := i) (g := g) (fi := fi) t (stepM_put h)

end Go.Proofs.YtmmhgkkcpjhiiaaGreat

namespace Go.Proofs.YtmmhgkkcpjhiiaaGreat
open Go.ChangeShapes Go.WideShapes Go.ChangeAt Go.RowKit Go.Joins
set_option linter.unusedVariables false
set_option linter.unusedSimpArgs false

def tabN (key : Int) (l : List Bk) : Nat := if keyB key = true ∧ backsOkB l = true then 8 else 0
theorem fillT_step {wr : World} {base g : Nat} {hs : List Hd} {k n : Nat} {o : Option Addr} {m c : Nat} (hk : k < n) (hl : hs.length = k) (h : wr.ownsRow base 47 1 (.slice (some ⟨g, 0, none⟩) n n) n ((hs ++ List.replicate (n - k) layH.d).flatMap layH.cs)) :
  (wr.setCell ⟨g, k, none⟩ (.slice o m c)).ownsRow base 47 1 (.slice (some ⟨g, 0, none⟩) n n) n (((hs ++ [(o, m, c)]) ++ List.replicate (n - (k + 1)) layH.d).flatMap layH.cs) := by
 have h1 := (h.stored k (.slice o m c)).1
 rw [flat_set1 layH rfl (a := (o, m, c)) rfl] at h1
 have e1 : n - k = (n - (k + 1)) + 1 := by omega
 rw [e1, List.replicate_succ, List.set_append_right _ _ (by omega), hl, Nat.sub_self, List.set_cons_zero] at h1
 rw [List.append_assoc]
 exact h1

set_option maxHeartbeats 1000000 in
theorem implTableOf_any (key : Int) (o : Option Addr) (cap : Nat) (l : List Bk) (w : World) (hR : RdK w.heap.size w o l) (hlen : l.length ≤ 1048576) :
  Calls Tryz.prog 337 #[.int .i64 key, .slice o l.length cap] w fun e w' => ∃ v, e = .returned v ∧ OwnT w' w.heap.size v (tabN key l) (fun b => pairI key b l) ∧ Below w.heap.size w w' := by
 have hkey := fun w => isKey_any key w
 have hbo := implBacksOk_any o cap l w hR hlen
 by_cases hk : keyB key = true
 ·rw [hk] at hkey
  by_cases hl : backsOkB l = true
  ·rw [hl] at hbo
   have HE := hide (show tabN key l = 8 by rw [tabN, if_pos ⟨hk, hl⟩])
   have HP := hide (fun (b : Nat) W h => implPairOf_any key b o cap l W h hlen)
   obtain ⟨i0, hi, hz0, hz1, hz2⟩ := info_parts infoIntS
   go_enter Tryz.func337, Tryz.ntmps337
   go_wp2_with (first | (go_at_call 233; refine (hkey _).mono ?_; rintro e w1 ⟨rfl, rfl⟩) | (go_at_call 370; refine hbo.mono ?_; rintro e w2 ⟨rfl, hb2⟩) | (at_make; refine wpList_make_full _ rfl _ _ 51 rfl w2.heap.size 47 i0 (.slice none 0 0) 1 Tryz.underlying51 hi hz0 hz1 _ _ _ _ 8 rfl rfl rfl rfl ?b2 ?b3 ?b4 ?_))
   case b2 => rw [hz2]; omega
   case b3 => unfold maxLen; omega
   case b4 => simp
   intro w3 hown hgrow
   have hb3 : Below w2.heap.size w2 w3 := (Below.refl _ _).grown hgrow (Nat.le_refl _) (fun k h => by cases h)
   have hB3 : Below w.heap.size w w3 := hb2.trans (hb3.mono hb2.size)
   have hs2 : w.heap.size ≤ w2.heap.size := hb2.size
   have ho3 : w3.ownsRow w.heap.size 47 1 (.slice (some ⟨w2.heap.size, 0, none⟩) 8 8) 8 ((([] : List Hd) ++ List.replicate (8 - 0) layH.d).flatMap layH.cs) := by
    rw [List.nil_append, Nat.sub_zero, ← made_flat layH (.slice none 0 0) rfl, show layH.k = 1 from rfl, Nat.mul_one]; exact own_mono hown hs2
   clear hown hgrow hb3 hbo hb2
   go_wp2
   go_loopw [18] (fun iv wr => ∃ (k : Nat) (hs : List Hd), k ≤ 8 ∧ iv = .int .i64 k ∧ wr.ownsRow w.heap.size 47 1 (.slice (some ⟨w2.heap.size, 0, none⟩) 8 8) 8 ((hs ++ List.replicate (8 - k) layH.d).flatMap layH.cs) ∧ Tab (fun b => pairI key b l) k wr w.heap.size hs ∧ Below w.heap.size w wr)
    (fun iv _ => 8 - (intOf iv).toNat)
   case atStart => exact ⟨0, [], Nat.zero_le _, rfl, ho3, Tab.nil _ _ _, hB3⟩
   case round =>
    obtain ⟨k, hs, hk8, rfl, hor, htr, hBr⟩ := hrel
    by_cases hlt : k < 8
    ·have hp := HP.out k wr ((hR.kept hBr (Nat.le_refl _)).le hBr.size)
     have HO := hide hor
     have HT := hide htr
     have HB := hide hBr
     have z1 : (k : Int) < 8 := by omega
     have HR := hide hR
     clear hor htr hBr ho3 hB3 hR
     go_wp2_with fail
     refine hp.mono ?_
     rintro e w4 ⟨v4, rfl, hv4, hb4⟩
     obtain ⟨o4, c4, e4, _⟩ := hv4.open
     rw [e4] at hv4 ⊢
     have HO4 := hide (own_kept HO.out hb4)
     have hln : ((hs ++ List.replicate (8 - k) layH.d).flatMap layH.cs).length = 8 := by rw [flat_length, List.length_append, List.length_replicate, HT.out.len, show layH.k = 1 from rfl]; omega
     have hcl := HO4.out.cellAt k (by omega)
     have hfr := HO4.out.frozenAt k
     obtain ⟨u, hu⟩ : ∃ u, w4.cell? ⟨w2.heap.size, k, none⟩ = some u := ⟨_, hcl.trans (List.getElem?_eq_getElem (by omega))⟩
     have HO5 := hide (fillT_step (o := o4) (m := (pairI key k l).length) (c := c4) hlt HT.out.len HO4.out)
     have HT4 := (HT.out.kept hb4).snoc HT.out.lt HB.out.size hv4
     have HT5 := hide (HT4.other HO4.out intNe (HO4.out.stored k (.slice o4 (pairI key k l).length c4)).2)
     have HB5 := hide ((HB.out.trans (hb4.mono HB.out.size)).setCell (p := ⟨w2.heap.size, k, none⟩) hs2 (.slice o4 (pairI key k l).length c4))
     clear hv4 hb4 hcl HT4 e4 hp hln
     generalize (pairI key k l).length = q at *
     go_wp2
     go_roundw
     case rel => exact ⟨k + 1, _, by omega, by go_num, HO5.out, HT5.out, HB5.out⟩
     case measure => simp [intOf]; omega
    ·have e : k = 8 := by omega
     subst e
     have HO := hide hor
     have HT := hide htr
     have HB := hide hBr
     clear hor htr hBr ho3 hB3
     go_wp2
     go_ret
     refine ⟨_, rfl, .inr ⟨w2.heap.size, hs, by rw [HE.out]; rfl, ?_, by rw [HE.out]; exact HT.out⟩, HB.out⟩
     have h1 := HO.out
     rw [Nat.sub_self, List.replicate_zero, List.append_nil] at h1
     unfold ownL
     rw [HT.out.len]
     exact h1
  ·rw [Bool.eq_false_iff.2 hl] at hbo
   have HE := hide (show tabN key l = 0 by rw [tabN, if_neg (fun q => hl q.2)])
   go_enter Tryz.func337, Tryz.ntmps337
   go_wp2_with (first | (go_at_call 233; refine (hkey _).mono ?_; rintro e w1 ⟨rfl, rfl⟩) | (go_at_call 370; refine hbo.mono ?_; rintro e w2 ⟨rfl, hb2⟩))
   go_ret
   exact ⟨_, rfl, .inl ⟨rfl, HE.out⟩, hb2⟩
 ·rw [Bool.eq_false_iff.2 hk] at hkey
  have HE := hide (show tabN key l = 0 by rw [tabN, if_neg (fun q => hk q.1)])
  go_enter Tryz.func337, Tryz.ntmps337
  go_wp2_with (first | (go_at_call 233; refine (hkey _).mono ?_; rintro e w1 ⟨rfl, rfl⟩))
  go_ret
  exact ⟨_, rfl, .inl ⟨rfl, HE.out⟩, Below.refl _ _⟩

end Go.Proofs.YtmmhgkkcpjhiiaaGreat

