/- Several texts in one: Grow, SBacks2, SBFrom, IntsA, Ints. -/
import Derived.BigQuiet
import Derived.Deep.Quiet
import Derived.Test.YtmmhgkkcpjhiiaaGreatQLearn01
import Derived.Test.YtmmhgkkcpjhiiaaGreatQLearn09
import Derived.Test.YtmmhgkkcpjhiiaaGreatQLearn07
import Derived.Test.YtmmhgkkcpjhiiaaGreatQLearn03
namespace Go.Proofs.YtmmhgkkcpjhiiaaGreat
open Go.ChangeShapes Go.WideShapes Go.ChangeAt Go.RowKit Go.Joins
set_option linter.unusedVariables false
set_option linter.unusedSimpArgs false

structure Grown (w : World) where
 v : World
 b : Below w.heap.size w v

theorem wp_region_grown {P : Program} {id : Nat} {Q : Exit → Act → World → Prop} {a : Act} {w : World} {l : List Oper} (hm : P.follows .mixedOrders = true) (hB : Region.lexB .any l.toArray = true)
  (h : Nonempty (Grown w) → wpQuiet P l.toArray (fun w' => ∃ p : Grown w, w' = p.v) (fun a' => ∀ w', (∃ p : Grown w, w' = p.v) → Q .normal a' w') l a) : (Code.region id l.toArray true).wp P Q a w :=
 wp_region_quiet (C := fun w' => ∃ p : Grown w, w' = p.v) hm hB ⟨⟨w.drew, Below.drew (Below.refl _ _)⟩, rfl⟩ (by simpa using h ⟨⟨w, Below.refl _ _⟩⟩)

theorem grown_of {P : Program} {f : FuncId} {args : Array Value} {w : World} {v : Value} (p : Grown w)
  (h : Calls P f args p.v fun e w' => e = .returned v ∧ Below p.v.heap.size p.v w') : Calls P f args p.v fun e w'' => e = .returned v ∧ ∃ q : Grown w, w'' = q.v :=
 h.mono fun _ w' ⟨he, hb⟩ => ⟨he, ⟨w', p.b.trans (hb.mono p.b.size)⟩, rfl⟩
theorem Grown.cell {w : World} {b off : Nat} {u : Value} (h : w.cell? ⟨b, off, none⟩ = some u) (hb : b < w.heap.size) : ∀ p : Grown w, p.v.cell? ⟨b, off, none⟩ = some u :=
 fun p => (p.b.cell (p := ⟨b, off, none⟩) hb).trans h

end Go.Proofs.YtmmhgkkcpjhiiaaGreat

namespace Go.Proofs.YtmmhgkkcpjhiiaaGreat
open Go.ChangeShapes Go.WideShapes Go.ChangeAt Go.RowKit Go.Joins
set_option linter.unusedVariables false
set_option linter.unusedSimpArgs false

theorem backB_lt (i g : Int) : backB i g = ((decide (0 ≤ i) && decide (i < 6)) && (decide (1 ≤ g) && decide (g ≤ 100))) := by simp [backB, Bool.and_assoc]
set_option maxHeartbeats 400000 in
theorem isBack_any (n : Int) (w : World) : Calls Tryz.prog 114 #[.int .i64 n] w fun e w' => e = .returned (.bool (decide (0 ≤ n) && decide (n < 6))) ∧ w = w' := by
 go_enter Tryz.func114, Tryz.ntmps114
 go_wp2
 all_goals go_ret
 all_goals refine ⟨?_, rfl⟩
 all_goals first | (simp [*]; done) | (simp; omega)
set_option maxHeartbeats 400000 in
theorem isWeight_any (n : Int) (w : World) : Calls Tryz.prog 240 #[.int .i64 n] w fun e w' => e = .returned (.bool (decide (1 ≤ n) && decide (n ≤ 100))) ∧ w = w' := by
 go_enter Tryz.func240, Tryz.ntmps240
 go_wp2
 all_goals go_ret
 all_goals refine ⟨?_, rfl⟩
 all_goals first | (simp [*]; done) | (simp; omega)
set_option maxHeartbeats 400000 in
theorem backOk_any (i g : Int) (d : Bool) (w : World) : Calls Tryz.prog 392 #[back i g d] w fun e w' => e = .returned (.bool (backB i g)) ∧ Below w.heap.size w w' := by
 have hB : Below w.heap.size w w := Below.refl _ _
 rw [backB_lt]
 cases hi : (decide (0 ≤ i) && decide (i < 6)) with
 | false =>
  go_enter Tryz.func392, Tryz.ntmps392
  go_wp2_with (first | (go_at_call 114; refine (isBack_any i _).mono ?_; rw [hi]; rintro e w1 ⟨rfl, rfl⟩))
  go_ret
  exact ⟨rfl, by (repeat (first | with_reducible exact hB | with_reducible exact Below.refl _ _ | with_reducible refine Below.drew ?_ | with_reducible refine below_drewN ?_ _ | with_reducible refine Below.alloc ?_ ?_ _ | with_reducible refine Below.setCell ?_ ?_ _ | (focus (simp; done)) | (focus (simp; omega)) | omega))⟩
 | true =>
  generalize hg : (decide (1 ≤ g) && decide (g ≤ 100)) = r
  go_enter Tryz.func392, Tryz.ntmps392
  go_wp2_with (first | (go_at_call 114; refine (isBack_any i _).mono ?_; rw [hi]; rintro e w1 ⟨rfl, rfl⟩) | (go_at_call 240; refine (isWeight_any g _).mono ?_; rw [hg]; rintro e w1 ⟨rfl, rfl⟩))
  go_ret
  exact ⟨rfl, by (repeat (first | with_reducible exact hB | with_reducible exact Below.refl _ _ | with_reducible refine Below.drew ?_ | with_reducible refine below_drewN ?_ _ | with_reducible refine Below.alloc ?_ ?_ _ | with_reducible refine Below.setCell ?_ ?_ _ | (focus (simp; done)) | (focus (simp; omega)) | omega))⟩

theorem box3 (w : World) (x y z : Value) (t : TypeId) : (w.alloc (.cells #[x, y, z] t)).cell? ⟨w.heap.size, 0, none⟩ = some x ∧ (w.alloc (.cells #[x, y, z] t)).cell? ⟨w.heap.size, 1, none⟩ = some y ∧ (w.alloc (.cells #[x, y, z] t)).cell? ⟨w.heap.size, 2, none⟩ = some z := by simp
theorem alloc_old (w : World) (o : Obj) {b off : Nat} {u : Value} (h : w.cell? ⟨b, off, none⟩ = some u) (hb : b < w.heap.size) : (w.alloc o).cell? ⟨b, off, none⟩ = some u :=
 ((Below.alloc (Below.refl _ _) (Nat.le_refl _) o).cell (p := ⟨b, off, none⟩) hb).trans h

set_option maxHeartbeats 1000000 in
theorem implBacksOk_any (o : Option Addr) (cap : Nat) (l : List Bk) (w : World) (hR : RdK w.heap.size w o l) (hlen : l.length ≤ 1048576) :
  Calls Tryz.prog 370 #[.slice o l.length cap] w fun e w' => e = .returned (.bool (backsOkB l)) ∧ Below w.heap.size w w' := by
 go_enter Tryz.func370, Tryz.ntmps370
 go_wp2
 go_loopw [2, 7] (fun rv i wr => ∃ k : Nat, k ≤ l.length ∧ i = .int .i64 k ∧ rv = .bool false ∧ okTo l k ∧ Below w.heap.size w wr)
  (fun _ i _ => l.length - (intOf i).toNat)
 case atStart => exact ⟨0, Nat.zero_le _, rfl, rfl, fun i hi => absurd hi (Nat.not_lt_zero _), Below.refl _ _⟩
 case round =>
  obtain ⟨k, hk, rfl, rfl, hok, hBr⟩ := hrel
  by_cases hlt : k < l.length
  ·rcases hR with hR | ⟨b, off, rfl, hbl, hcell⟩
   ·subst hR; simp at hlt
   obtain ⟨x, y, z, hxy⟩ : ∃ x y z, l.getD k (0, 0, false) = (x, y, z) := ⟨_, _, _, rfl⟩
   have hcx := RdL.back (C := w.heap.size) hcell k hlt
   rw [hxy] at hcx
   have hc0 : wr.cell? ⟨b, off + k * 3, none⟩ = some (.int .i64 x) := (hBr.cell (p := ⟨b, off + k * 3, none⟩) hbl).trans hcx.1
   have hc1 : wr.cell? ⟨b, off + k * 3 + 1, none⟩ = some (.int .i64 y) := (hBr.cell (p := ⟨b, off + k * 3 + 1, none⟩) hbl).trans hcx.2.1
   have hc2 : wr.cell? ⟨b, off + k * 3 + 2, none⟩ = some (.bool z) := (hBr.cell (p := ⟨b, off + k * 3 + 2, none⟩) hbl).trans hcx.2.2
   have hlr := Nat.lt_of_lt_of_le hbl hBr.size
   have HB := hide hBr
   have HO := hide hok
   have i1 : (k : Int) < (l.length : Int) := by omega
   clear hBr hok hcx
   obtain ⟨p0, p1, p2⟩ := box3 wr (.int .i64 x) (.int .i64 y) (.bool z) 178
   have HA : Hid (Below w.heap.size w (wr.alloc (Obj.cells #[Value.int IntKind.i64 x, Value.int IntKind.i64 y, Value.bool z] 178))) := HB.out.alloc HB.out.size _
   have hs : wr.heap.size < (wr.alloc (Obj.cells #[Value.int IntKind.i64 x, Value.int IntKind.i64 y, Value.bool z] 178)).heap.size := by simp
   rcases k with _ | j
   ·have HZ := hide (okAt_zero hxy)
    clear hcell hxy
    simp only [Nat.zero_mul, Nat.add_zero] at hc0 hc1 hc2
    go_wp2
    generalize wr.alloc (Obj.cells #[Value.int IntKind.i64 x, Value.int IntKind.i64 y, Value.bool z] 178) = w0 at *
    have g0 := Grown.cell p0 hs
    have g1 := Grown.cell p1 hs
    have g2 := Grown.cell p2 hs
    clear hc0 hc1 hc2 p0 p1 p2
    cases hbk : backB x y with
    | false =>
     have HN := hide (backsOkB_no hlt (HZ.out.trans hbk))
     clear HZ HO
     (refine wp_region_grown (by kernel_rfl) (by kernel_rfl) ?_; intro hne9; (repeat (go_big_quiet_step ((go_at_call 392; exact grown_of _ (hbk ▸ backOk_any x y z _))))); (with_reducible refine wpQuiet_nil ?_); intro _ hw9; obtain ⟨pq, hw8⟩ := hw9; subst hw8)
     go_wp2
     go_ret
     exact ⟨ret_bool HN.out, HA.out.trans (pq.b.mono HA.out.size)⟩
    | true =>
     have HY := hide (okTo_succ HO.out (HZ.out.trans hbk))
     clear HZ HO
     (refine wp_region_grown (by kernel_rfl) (by kernel_rfl) ?_; intro hne9; (repeat (go_big_quiet_step ((go_at_call 392; exact grown_of _ (hbk ▸ backOk_any x y z _))))); (with_reducible refine wpQuiet_nil ?_); intro _ hw9; obtain ⟨pq, hw8⟩ := hw9; subst hw8)
     go_wp2
     go_roundw
     case rel => exact ⟨1, by omega, by go_num, rfl, HY.out, HA.out.trans (pq.b.mono HA.out.size)⟩
     case measure => simp [intOf]; omega
   ·obtain ⟨x', y', z', hxy'⟩ : ∃ x y z, l.getD j (0, 0, false) = (x, y, z) := ⟨_, _, _, rfl⟩
    have hcx := RdL.back (C := w.heap.size) hcell j (by omega)
    rw [hxy'] at hcx
    have hc3 : wr.cell? ⟨b, off + j * 3, none⟩ = some (.int .i64 x') := (HB.out.cell (p := ⟨b, off + j * 3, none⟩) hbl).trans hcx.1
    have p3 := alloc_old wr (Obj.cells #[Value.int IntKind.i64 x, Value.int IntKind.i64 y, Value.bool z] 178) hc3 hlr
    have HZ := hide (okAt_succ hxy hxy')
    have i2 : (j : Int) < (l.length : Int) := by omega
    have i3 : 0 < (j : Int) + 1 := by omega
    clear hcell hxy hxy' hcx hc3
    have hls : b < (wr.alloc (Obj.cells #[Value.int IntKind.i64 x, Value.int IntKind.i64 y, Value.bool z] 178)).heap.size := Nat.lt_trans hlr hs
    go_wp2
    generalize wr.alloc (Obj.cells #[Value.int IntKind.i64 x, Value.int IntKind.i64 y, Value.bool z] 178) = w0 at *
    have g0 := Grown.cell p0 hs
    have g1 := Grown.cell p1 hs
    have g2 := Grown.cell p2 hs
    have g3 := Grown.cell p3 hls
    clear hc0 hc1 hc2 p0 p1 p2 p3
    cases hbk : backB x y with
    | false =>
     have HN := hide (backsOkB_no hlt (HZ.out.trans (by rw [hbk]; rfl)))
     clear HZ HO
     (refine wp_region_grown (by kernel_rfl) (by kernel_rfl) ?_; intro hne9; (repeat (go_big_quiet_step ((go_at_call 392; exact grown_of _ (hbk ▸ backOk_any x y z _))))); (with_reducible refine wpQuiet_nil ?_); intro _ hw9; obtain ⟨pq, hw8⟩ := hw9; subst hw8)
     go_wp2
     go_ret
     exact ⟨ret_bool HN.out, HA.out.trans (pq.b.mono HA.out.size)⟩
    | true =>
     by_cases h5 : x ≤ x'
     ·have HN := hide (backsOkB_no hlt (HZ.out.trans (by simp [hbk]; omega)))
      clear HZ HO
      (refine wp_region_grown (by kernel_rfl) (by kernel_rfl) ?_; intro hne9; (repeat (go_big_quiet_step ((go_at_call 392; exact grown_of _ (hbk ▸ backOk_any x y z _))))); (with_reducible refine wpQuiet_nil ?_); intro _ hw9; obtain ⟨pq, hw8⟩ := hw9; subst hw8)
      go_wp2
      go_ret
      exact ⟨ret_bool HN.out, HA.out.trans (pq.b.mono HA.out.size)⟩
     ·have d5 : decide (x ≤ x') = false := decide_eq_false h5
      have HY := hide (okTo_succ HO.out (HZ.out.trans (by simp [hbk]; omega)))
      clear HZ HO
      (refine wp_region_grown (by kernel_rfl) (by kernel_rfl) ?_; intro hne9; (repeat (go_big_quiet_step ((go_at_call 392; exact grown_of _ (hbk ▸ backOk_any x y z _))))); (with_reducible refine wpQuiet_nil ?_); intro _ hw9; obtain ⟨pq, hw8⟩ := hw9; subst hw8)
      go_wp2
      go_roundw
      case rel => exact ⟨j + 1 + 1, by omega, by go_num, rfl, HY.out, HA.out.trans (pq.b.mono HA.out.size)⟩
      case measure => simp [intOf]; omega
  ·have e : k = l.length := by omega
   subst e
   have HE := hide (backsOkB_iff.2 hok).symm
   go_wp2
   go_ret
   exact ⟨ret_bool HE.out, hBr⟩

end Go.Proofs.YtmmhgkkcpjhiiaaGreat

namespace Go.Proofs.YtmmhgkkcpjhiiaaGreat
open Go.ChangeShapes Go.WideShapes Go.ChangeAt Go.RowKit Go.Joins
set_option linter.unusedVariables false
set_option linter.unusedSimpArgs false


def isV (s : Sl) : Bool := decide (0 ≤ s.v) && decide (s.v < 6)
def hintB (l : List Sl) : Bool := tableOkB l && l.all isV
theorem take_allV (l : List Sl) (k : Nat) (h : k < l.length) : (l.take (k + 1)).all isV = ((l.take k).all isV && isV (l.getD k sl0)) := by
 rw [List.take_succ_eq_append_getElem h, List.all_append]
 simp [h]

set_option maxRecDepth 100000 in
set_option maxHeartbeats 8000000 in
theorem hintsFrom_any (o : Option Addr) (n c : Nat) (l : List Sl) (w : World) (hn : n = l.length) (hR : RdS w.heap.size w o l) (hl : l.length ≤ 1048576) :
  Calls Tryz.prog 204 #[tab (.slice o n c)] w fun e w' => ∃ o' n' c', e = .returned (.tuple #[tab (.slice o' n' c'), .bool (hintB l)]) ∧ (tableOkB l = true → ∃ g, o' = some ⟨g, 0, none⟩ ∧ n' = l.length ∧ c' = l.length ∧ ownL layS CellT w' w.heap.size (.slice (some ⟨g, 0, none⟩) l.length l.length) l) ∧ Below w.heap.size w w' := by
 have HTF := hide (fun W (hb : Below w.heap.size w W) => tableFrom_all o c l W ((hR.kept hb (Nat.le_refl _)).le hb.size) hl)
 have HHB := hide (show hintB l = (tableOkB l && l.all isV) from rfl)
 rw [← hn] at HTF
 have HN := hide hn
 clear hR hn
 obtain ⟨W0, hW0⟩ : ∃ W, ((w.alloc (.cells #[.slice o n c] 32)).alloc (.cells #[.slice none 0 0] 150)) = W := ⟨_, rfl⟩
 have hb_W0 : Below w.heap.size w W0 := by rw [← hW0]; exact (((Below.refl _ _).alloc (Nat.le_refl _) _).alloc (by simp <;> omega) _)
 have HB := hide hb_W0
 clear hb_W0
 have zz : w.heap.size < W0.heap.size := by rw [← hW0]; simp <;> omega
 have z0 : W0.cell? ⟨w.heap.size, 0, none⟩ = some (.slice o n c) := by rw [← hW0]; simp [go_sem]
 have zr : w.heap.size + 1 < W0.heap.size := by rw [← hW0]; simp
 have r0 : W0.cell? ⟨w.heap.size + 1, 0, none⟩ = some (.slice none 0 0) := by rw [← hW0]; simp [go_sem]
 have fr0 : W0.frozen? ⟨w.heap.size + 1, 0, none⟩ = false := by rw [← hW0]; simp [go_sem]
 have hzr := zr
 go_enter Tryz.func204, Tryz.ntmps204
 go_wp2_with fail
 refine (HTF.out W0 HB.out).mono ?_
 rintro e v1 ⟨o1, n1, c1, rfl, hway, hb⟩
 have HWY := hide hway
 clear hway
 have hs1 := hb.size
 replace z0 : v1.cell? ⟨w.heap.size, 0, none⟩ = some (.slice o n c) := (hb.cell (p := ⟨w.heap.size, 0, none⟩) zz).trans z0
 replace zz : w.heap.size < v1.heap.size := Nat.lt_of_lt_of_le zz hb.size
 replace r0 : v1.cell? ⟨w.heap.size + 1, 0, none⟩ = some (.slice none 0 0) := (hb.cell (p := ⟨w.heap.size + 1, 0, none⟩) zr).trans r0
 replace fr0 : v1.frozen? ⟨w.heap.size + 1, 0, none⟩ = false := (hb.frozen (p := ⟨w.heap.size + 1, 0, none⟩) zr).trans fr0
 replace zr : w.heap.size + 1 < v1.heap.size := Nat.lt_of_lt_of_le zr hb.size
 replace HB := hide (HB.out.trans (hb.mono HB.out.size))
 clear hb
 obtain ⟨W2, hW2⟩ : ∃ W, (v1.alloc (.cells #[.slice o1 n1 c1] 148)) = W := ⟨_, rfl⟩
 have hb_W2 : Below v1.heap.size v1 W2 := by rw [← hW2]; exact ((Below.refl _ _).alloc (Nat.le_refl _) _)
 replace z0 : W2.cell? ⟨w.heap.size, 0, none⟩ = some (.slice o n c) := (hb_W2.cell (p := ⟨w.heap.size, 0, none⟩) zz).trans z0
 replace zz : w.heap.size < W2.heap.size := Nat.lt_of_lt_of_le zz hb_W2.size
 replace r0 : W2.cell? ⟨w.heap.size + 1, 0, none⟩ = some (.slice none 0 0) := (hb_W2.cell (p := ⟨w.heap.size + 1, 0, none⟩) zr).trans r0
 replace fr0 : W2.frozen? ⟨w.heap.size + 1, 0, none⟩ = false := (hb_W2.frozen (p := ⟨w.heap.size + 1, 0, none⟩) zr).trans fr0
 replace zr : w.heap.size + 1 < W2.heap.size := Nat.lt_of_lt_of_le zr hb_W2.size
 replace HB := hide (HB.out.trans (hb_W2.mono HB.out.size))
 clear hb_W2
 have zf : v1.heap.size < W2.heap.size := by rw [← hW2]; simp
 have f0 : W2.cell? ⟨v1.heap.size, 0, none⟩ = some (.slice o1 n1 c1) := by rw [← hW2]; simp [go_sem]
 have hs2 : v1.heap.size < W2.heap.size := by rw [← hW2]; simp
 have hbv : Below v1.heap.size v1 W2 := by rw [← hW2]; exact (Below.refl _ _).alloc (Nat.le_refl _) _
 obtain ⟨tk, htk⟩ : ∃ b, tableOkB l = b := ⟨_, rfl⟩
 rw [htk] at HWY HHB ⊢
 have HTK := hide htk
 clear htk
 have HEN : Hid ((tk && (l.take n1).all isV) = hintB l ∧ n1 ≤ l.length) := by
  rcases HWY.out with ⟨h0, h1⟩ | ⟨g, hg, hn1, hc1, how⟩
  ·rw [HHB.out, h0, h1]; exact ⟨rfl, Nat.zero_le _⟩
  ·rw [HHB.out, hn1, HN.out, List.take_length]; exact ⟨rfl, Nat.le_refl _⟩
 have HCE : Hid (∀ k, k < n1 → ∃ g, o1 = some ⟨g, 0, none⟩ ∧ g < v1.heap.size ∧ v1.cell? ⟨g, k * 5, none⟩ = some (.bool (l.getD k sl0).u) ∧ v1.cell? ⟨g, k * 5 + 1, none⟩ = some (.int .i64 (l.getD k sl0).a) ∧ v1.cell? ⟨g, k * 5 + 2, none⟩ = some (.int .i64 (l.getD k sl0).p) ∧ v1.cell? ⟨g, k * 5 + 3, none⟩ = some (.int .i64 (l.getD k sl0).v) ∧ v1.cell? ⟨g, k * 5 + 4, none⟩ = some (.int .i64 (l.getD k sl0).t)) := by
  intro k hk
  rcases HWY.out with ⟨h0, h1⟩ | ⟨g, hg, hn1, hc1, how⟩
  ·omega
  ·refine ⟨g, hg, (how.lt g rfl).2, ?_⟩
   rcases ownL.rd (L := layS) how with h | ⟨b, off, e, hb, r⟩
   ·rw [hn1, HN.out, h] at hk; exact absurd hk (Nat.not_lt_zero _)
   ·injection e with e
    injection e with e1 e2 _
    subst e1 e2
    have hk' : k < l.length := by rw [← HN.out, ← hn1]; exact hk
    have q0 := r k hk' 0 (by decide)
    have q1 := r k hk' 1 (by decide)
    have q2 := r k hk' 2 (by decide)
    have q3 := r k hk' 3 (by decide)
    have q4 := r k hk' 4 (by decide)
    rw [Nat.zero_add] at q0 q1 q2 q3 q4
    exact ⟨q0, q1, q2, q3, q4⟩
 have hl1 : n1 ≤ 1048576 := by have := HEN.out.2; omega
 go_wp2
 go_loopw [5, 16] (fun okv iv wr => ∃ k : Nat, k ≤ n1 ∧ iv = .int .i64 (k : Int) ∧ okv = .bool (tk && (l.take k).all isV) ∧ Hid (Below W2.heap.size W2 wr))
  (fun _ iv _ => n1 - (intOf iv).toNat)
 case atStart => exact ⟨0, Nat.zero_le _, rfl, by simp, Below.refl _ _⟩
 case round =>
  rename World => wr
  obtain ⟨k, hk', rfl, rfl, HBr⟩ := hrel
  by_cases hlt : k < n1
  ·have hlt' : (k : Int) < (n1 : Int) := by omega
   obtain ⟨g, rfl, hg, a0, a1, a2, a3, a4⟩ := HCE.out k hlt
   have hBv := hide (hbv.trans (HBr.out.mono (Nat.le_of_lt hs2)))
   replace a0 := (hBv.out.cell (p := ⟨g, k * 5, none⟩) hg).trans a0
   replace a1 := (hBv.out.cell (p := ⟨g, k * 5 + 1, none⟩) hg).trans a1
   replace a2 := (hBv.out.cell (p := ⟨g, k * 5 + 2, none⟩) hg).trans a2
   replace a3 := (hBv.out.cell (p := ⟨g, k * 5 + 3, none⟩) hg).trans a3
   replace a4 := (hBv.out.cell (p := ⟨g, k * 5 + 4, none⟩) hg).trans a4
   have HTA := hide (take_allV l k (by have := HEN.out.2; omega))
   generalize l.getD k sl0 = s at *
   obtain ⟨su, sa, sp, sv, st⟩ := s
   dsimp only at a0 a1 a2 a3 a4
   obtain ⟨okk, hokk⟩ : ∃ b, (tk && (l.take k).all isV) = b := ⟨_, rfl⟩
   have HNX : Hid ((tk && (l.take (k + 1)).all isV) = (okk && isV ⟨su, sa, sp, sv, st⟩)) := by unfold Hid; rw [HTA.out, ← hokk, Bool.and_assoc]
   rw [hokk]
   clear hokk HTA
   obtain ⟨W5, hW5⟩ : ∃ W, wr.alloc (.cells #[.bool su, .int .i64 sa, .int .i64 sp, .int .i64 sv, .int .i64 st] 288) = W := ⟨_, rfl⟩
   have hb5 : Below wr.heap.size wr W5 := by rw [← hW5]; exact (Below.refl _ _).alloc (Nat.le_refl _) _
   have y3 : W5.cell? ⟨wr.heap.size, 3, none⟩ = some (.int .i64 sv) := by rw [← hW5]; simp [go_sem]
   have HB9 := hide (HBr.out.trans (hb5.mono HBr.out.size))
   clear hb5
   cases okk with
   | false =>
    go_wp2
    go_roundw
    case rel => exact ⟨k + 1, by omega, by go_num, by rw [HNX.out]; rfl, HB9.out⟩
    case measure => simp [intOf]; omega
   | true =>
    have HIB := hide (isBack_any sv W5)
    have HIV := hide (show isV ⟨su, sa, sp, sv, st⟩ = (decide (0 ≤ sv) && decide (sv < 6)) from rfl)
    generalize (decide (0 ≤ sv) && decide (sv < 6)) = ib at *
    go_wp2_with fail
    refine HIB.out.mono ?_
    rintro e _ ⟨rfl, rfl⟩
    go_wp2
    go_roundw
    case rel => exact ⟨k + 1, by omega, by go_num, by rw [HNX.out, HIV.out]; rfl, HB9.out⟩
    case measure => simp [intOf]; omega
  ·have e : k = n1 := by omega
   subst e
   have HB9 := hide (HB.out.trans (HBr.out.mono HB.out.size))
   have y0 := (HBr.out.cell (p := ⟨v1.heap.size, 0, none⟩) zf).trans f0
   have hr := (HBr.out.cell (p := ⟨w.heap.size + 1, 0, none⟩) zr).trans r0
   have hfr := (HBr.out.frozen (p := ⟨w.heap.size + 1, 0, none⟩) zr).trans fr0
   have HOF : Hid (tableOkB l = true → ∃ g, o1 = some ⟨g, 0, none⟩ ∧ k = l.length ∧ c1 = l.length ∧ ownL layS CellT (wr.setCell ⟨w.heap.size + 1, 0, none⟩ (.slice o1 k c1)) w.heap.size (.slice (some ⟨g, 0, none⟩) l.length l.length) l) := by
    intro ht
    rcases HWY.out with ⟨h0, h1⟩ | ⟨g, hg, hn1, hc1, how⟩
    ·rw [← HTK.out, ht] at h1; cases h1
    ·rw [HN.out] at hn1 hc1 how; exact ⟨g, hg, hn1, hc1, own_mono (ownsRow_setCell_below (own_kept (own_kept how hbv) HBr.out) (show w.heap.size + 1 < W0.heap.size from hzr) _) (Nat.le_of_lt (Nat.lt_of_succ_lt hzr))⟩
   rw [HEN.out.1]
   go_wp2
   refine bodyPost_ret (v := .tuple #[tab (.slice o1 k c1), .bool (hintB l)]) (by simp [results, Tryz.results204, go_sem, hr]) rfl ⟨o1, k, c1, rfl, HOF.out, HB9.out.setCell (p := ⟨w.heap.size + 1, 0, none⟩) (Nat.le_succ _) _⟩

end Go.Proofs.YtmmhgkkcpjhiiaaGreat

namespace Go.Proofs.YtmmhgkkcpjhiiaaGreat
open Go.ChangeShapes Go.WideShapes Go.ChangeAt Go.RowKit Go.Joins
set_option linter.unusedVariables false
set_option linter.unusedSimpArgs false

def layI : Lay Int := ⟨1, fun a => [.int .i64 a], 0, fun _ => rfl⟩
abbrev RdI := RdL layI
abbrev ownI := ownL layI 3

theorem RdL.int {w : World} {b off : Nat} {l : List Int} (h : ∀ i, i < l.length → ∀ j, j < layI.k → w.cell? ⟨b, off + i * layI.k + j, none⟩ = (layI.cs (l.getD i layI.d))[j]?) (i : Nat) (hi : i < l.length) :
  w.cell? ⟨b, off + i, none⟩ = some (.int .i64 (l.getD i 0)) := by
 have := h i hi 0 (by decide)
 rw [show layI.k = 1 from rfl, Nat.mul_one, Nat.add_zero] at this
 exact this

theorem infoInt : (Tryz.prog.info? 3).map (fun i => (i.zero, i.size, i.bytes)) = some (some (.int .i64 0), 1, 8) := by kernel_rfl
set_option maxHeartbeats 1000000 in
theorem eqIntS_same (o1 o2 : Option Addr) (c1 c2 : Nat) (l : List Int) (w : World) (h1 : RdI w.heap.size w o1 l) (h2 : RdI w.heap.size w o2 l) (hl : l.length ≤ 1048576) :
  Calls Tryz.prog 62 #[.slice o1 l.length c1, .slice o2 l.length c2] w fun e w' => e = .returned (.bool true) ∧ Below w.heap.size w w' := by
 go_enter Tryz.func62, Tryz.ntmps62
 go_wp2
 go_loopw [5] (fun i wr => ∃ k : Nat, k ≤ l.length ∧ i = .int .i64 k ∧ Below w.heap.size w wr)
  (fun i _ => l.length - (intOf i).toNat)
 case atStart => exact ⟨0, Nat.zero_le _, rfl, Below.refl _ _⟩
 case round =>
  obtain ⟨k, hk, rfl, hBr⟩ := hrel
  by_cases hlt : k < l.length
  ·rcases h1 with h1 | ⟨b1, off1, rfl, hb1, hcell1⟩
   ·subst h1; simp at hlt
   rcases h2 with h2 | ⟨b2, off2, rfl, hb2, hcell2⟩
   ·subst h2; simp at hlt
   have hc1 : wr.cell? ⟨b1, off1 + k, none⟩ = some (.int .i64 (l.getD k 0)) := (hBr.cell (p := ⟨b1, off1 + k, none⟩) hb1).trans (RdL.int hcell1 k hlt)
   have hc2 : wr.cell? ⟨b2, off2 + k, none⟩ = some (.int .i64 (l.getD k 0)) := (hBr.cell (p := ⟨b2, off2 + k, none⟩) hb2).trans (RdL.int hcell2 k hlt)
   have HB := hide hBr
   clear hcell1 hcell2 hBr
   have i1 : (k : Int) < (l.length : Int) := by omega
   generalize l.getD k 0 = x at *
   go_wp2
   go_quiet (fail)
   go_wp2
   go_roundw
   case rel => exact ⟨k + 1, by omega, by go_num, below_drewN HB.out _⟩
   case measure => simp [intOf]; omega
  ·have e : k = l.length := by omega
   subst e
   go_wp2
   go_ret
   exact ⟨rfl, hBr⟩

def markI (k : Int) (n : Nat) : List Int := (List.range n).map (fun (i : Nat) => k + (i : Int))
theorem markI_length (k : Int) (n : Nat) : (markI k n).length = n := by simp [markI]
theorem markI_get (k : Int) (n i : Nat) (h : i < n) : (markI k n).getD i 0 = k + (i : Int) := by simp [markI, h]
def markITo (l : List Int) (k : Int) (i : Nat) : List Int := markI k i ++ l.drop i
theorem markITo_zero (l : List Int) (k : Int) : markITo l k 0 = l := by simp [markITo, markI]
theorem markITo_all (l : List Int) (k : Int) : markITo l k l.length = markI k l.length := by simp [markITo]
theorem markITo_length (l : List Int) (k : Int) (i : Nat) (h : i ≤ l.length) : (markITo l k i).length = l.length := by simp [markITo, markI]; omega
theorem markITo_set (l : List Int) (k : Int) (i : Nat) (h : i < l.length) : ((markITo l k i).flatMap layI.cs).set i (.int .i64 (k + (i : Int))) = (markITo l k (i + 1)).flatMap layI.cs := by
 rw [flat_set1 layI rfl (a := k + (i : Int)) rfl]
 congr 1
 have e2 : (markI k i).length = i := markI_length k i
 unfold markITo
 rw [List.drop_eq_getElem_cons h, List.set_append_right _ _ (by omega), e2, Nat.sub_self, List.set_cons_zero]
 have e3 : markI k (i + 1) = markI k i ++ [k + (i : Int)] := by simp [markI, List.range_succ]
 rw [e3, List.append_assoc]
 rfl
theorem markI_step {w wr : World} {base g cap : Nat} {l : List Int} {k : Int} {i : Nat} (hi : i < l.length) (hown : wr.ownsRow base 3 1 (.slice (some ⟨g, 0, none⟩) l.length cap) l.length ((markITo l k i).flatMap layI.cs))
  (hg : w.grownBy wr (some g)) : (wr.setCell ⟨g, i, none⟩ (.int .i64 (k + (i : Int)))).ownsRow base 3 1 (.slice (some ⟨g, 0, none⟩) l.length cap) l.length ((markITo l k (i + 1)).flatMap layI.cs) ∧
   w.grownBy (wr.setCell ⟨g, i, none⟩ (.int .i64 (k + (i : Int)))) (some g) := by
 have h := hown.stored i (.int .i64 (k + (i : Int)))
 rw [markITo_set l k i hi] at h
 exact ⟨h.1, ⟨hg.os, hg.tape, hg.output, by have := h.2.size; have := hg.size; omega, fun j hj hne => (h.2.block j (Nat.lt_of_lt_of_le hj hg.size) hne).trans (hg.block j hj hne)⟩⟩

set_option maxHeartbeats 1000000 in
theorem markIntS_any (base : Nat) (v : Value) (l : List Int) (k : Int) (w : World) (hv : ownI w base v l) (h0 : 0 ≤ k) (h1 : k ≤ 1073741824) (hlen : l.length ≤ 1048576) :
  Calls Tryz.prog 63 #[v, .int .i64 k] w fun e w' => e = .returned (.int .i64 (k + l.length)) ∧ ownI w' base v (markI k l.length) ∧ w.grownBy w' v.ownBlock := by
 rcases hv.2 with ⟨rfl, h2⟩ | ⟨g, cap, cur, rfl, hg, _⟩
 ·have e : l = [] := List.eq_nil_of_length_eq_zero h2
  subst e
  go_enter Tryz.func63, Tryz.ntmps63
  go_wp2
  refine wp_loop_rounds 1 ?_
  rw [rounds_succ]
  go_wp2
  go_ret
  exact ⟨by simp, by simpa [markI] using hv, World.grownBy.refl _ _⟩
 ·go_enter Tryz.func63, Tryz.ntmps63
  go_wp2
  have hv0 : w.ownsRow base 3 1 (.slice (some ⟨g, 0, none⟩) l.length cap) l.length ((markITo l k 0).flatMap layI.cs) := by rw [markITo_zero]; exact hv
  go_loopw [1, 5] (fun m j wr => ∃ i : Nat, i ≤ l.length ∧ j = .int .i64 i ∧ m = .int .i64 (k + (i : Int)) ∧ wr.ownsRow base 3 1 (.slice (some ⟨g, 0, none⟩) l.length cap) l.length ((markITo l k i).flatMap layI.cs) ∧ w.grownBy wr (some g))
   (fun _ j _ => l.length - (intOf j).toNat)
  case atStart => exact ⟨0, Nat.zero_le _, rfl, by simp, hv0, World.grownBy.refl _ _⟩
  case round =>
   obtain ⟨i, hi, rfl, rfl, hown, hgr⟩ := hrel
   by_cases hlt : i < l.length
   ·have hcl := hown.cellAt i (by omega)
    have hfr := hown.frozenAt i
    have hln : ((markITo l k i).flatMap layI.cs).length = l.length := by rw [flat_length, markITo_length l k i hi]; exact Nat.mul_one _
    obtain ⟨u, hu⟩ : ∃ u, wr.cell? ⟨g, i, none⟩ = some u := ⟨_, hcl.trans (List.getElem?_eq_getElem (by omega))⟩
    have R := hide (markI_step hlt hown hgr)
    clear hcl hown hgr hv hv0 hln
    go_wp2
    go_roundw
    case rel => exact ⟨i + 1, by omega, by go_num, by go_num, R.out.1, R.out.2⟩
    case measure => simp [intOf]; omega
   ·have e : i = l.length := by omega
    subst e
    rw [markITo_all] at hown
    have HO := hide hown
    clear hown
    go_wp2
    go_ret
    exact ⟨rfl, (by have := HO.out; unfold ownI ownL; rw [markI_length]; exact this), hgr⟩

set_option maxHeartbeats 1000000 in
theorem heldIntS_any (o : Option Addr) (cap n C : Nat) (k : Int) (w : World) (hR : RdI C w o (markI k n)) (h0 : 0 ≤ k) (h1 : k ≤ 1073741824) (hlen : n ≤ 1048576) :
  Calls Tryz.prog 381 #[.slice o n cap, .int .i64 k] w fun e w' => e = .returned (.int .i64 (k + n)) ∧ w = w' := by
 go_enter Tryz.func381, Tryz.ntmps381
 go_wp2
 go_loop [1, 5] (fun m j => ∃ i : Nat, i ≤ n ∧ j = .int .i64 i ∧ m = .int .i64 (k + (i : Int)))
  (fun _ j => n - (intOf j).toNat)
 case atStart => exact ⟨0, Nat.zero_le _, rfl, by simp⟩
 case round =>
  obtain ⟨i, hi, rfl, rfl⟩ := hrel
  by_cases hlt : i < n
  ·rcases hR with hR | ⟨b, off, rfl, hbl, hcell⟩
   ·have := markI_length k n; rw [hR] at this; simp at this; omega
   have hc := RdL.int hcell i (by rw [markI_length]; exact hlt)
   rw [markI_get k n i hlt] at hc
   clear hcell
   go_wp2
   go_round
   case rel => exact ⟨i + 1, by omega, by go_num, by go_num⟩
   case measure => simp [intOf]; omega
  ·have e : i = n := by omega
   subst e
   go_wp2
   go_ret
   exact ⟨rfl, rfl⟩

end Go.Proofs.YtmmhgkkcpjhiiaaGreat

namespace Go.Proofs.YtmmhgkkcpjhiiaaGreat
open Go.ChangeShapes Go.WideShapes Go.ChangeAt Go.RowKit Go.Joins
set_option linter.unusedVariables false
set_option linter.unusedSimpArgs false

abbrev Hd := Option Addr × Nat × Nat
def layH : Lay Hd := ⟨1, fun a => [.slice a.1 a.2.1 a.2.2], (none, 0, 0), fun _ => rfl⟩

theorem RdL.head {w : World} {b off : Nat} {l : List Hd} (h : ∀ i, i < l.length → ∀ j, j < layH.k → w.cell? ⟨b, off + i * layH.k + j, none⟩ = (layH.cs (l.getD i layH.d))[j]?) (i : Nat) (hi : i < l.length) :
  w.cell? ⟨b, off + i, none⟩ = some (.slice (l.getD i (none, 0, 0)).1 (l.getD i (none, 0, 0)).2.1 (l.getD i (none, 0, 0)).2.2) := by
 have := h i hi 0 (by decide)
 rw [show layH.k = 1 from rfl, Nat.mul_one, Nat.add_zero] at this
 exact this

def RdLo {α : Type} (L : Lay α) (lo C : Nat) (w : World) (o : Option Addr) (l : List α) : Prop :=
 l = [] ∨ ∃ b off, o = some ⟨b, off, none⟩ ∧ lo ≤ b ∧ b < C ∧ ∀ i, i < l.length → ∀ j, j < L.k → w.cell? ⟨b, off + i * L.k + j, none⟩ = (L.cs (l.getD i L.d))[j]?
theorem RdLo.rd {α : Type} {L : Lay α} {lo C : Nat} {w : World} {o : Option Addr} {l : List α} (h : RdLo L lo C w o l) : RdL L C w o l := by
 rcases h with h | ⟨b, off, ho, _, hb, r⟩
 ·exact .inl h
 ·exact .inr ⟨b, off, ho, hb, r⟩
theorem RdLo.kept {α : Type} {L : Lay α} {lo C D : Nat} {w w' : World} {o : Option Addr} {l : List α} (h : RdLo L lo C w o l) (hb : Below D w w') (hc : C ≤ D) : RdLo L lo C w' o l := by
 rcases h with h | ⟨b, off, ho, h0, hlt, r⟩
 ·exact .inl h
 ·exact .inr ⟨b, off, ho, h0, hlt, fun i hi j hj => (hb.cell (p := ⟨b, off + i * L.k + j, none⟩) (Nat.lt_of_lt_of_le hlt hc)).trans (r i hi j hj)⟩
theorem RdLo.le {α : Type} {L : Lay α} {lo C D : Nat} {w : World} {o : Option Addr} {l : List α} (h : RdLo L lo C w o l) (hc : C ≤ D) : RdLo L lo D w o l := by
 rcases h with h | ⟨b, off, ho, h0, hlt, r⟩
 ·exact .inl h
 ·exact .inr ⟨b, off, ho, h0, Nat.lt_of_lt_of_le hlt hc, r⟩
theorem RdLo.put {α : Type} {L : Lay α} {lo C g j : Nat} {w : World} {o : Option Addr} {l : List α} {u : Value} (h : RdLo L lo C w o l) (hg : g < lo) : RdLo L lo C (w.setCell ⟨g, j, none⟩ u) o l := by
 rcases h with h | ⟨b, off, ho, h0, hlt, r⟩
 ·exact .inl h
 ·exact .inr ⟨b, off, ho, h0, hlt, fun i hi j' hj => (World.cell?_setCell_other w _ _ _ (by simp <;> omega)).trans (r i hi j' hj)⟩
def RdLL (C : Nat) (w : World) (o : Option Addr) (ll : List (List Int)) : Prop :=
 ∃ hs : List Hd, hs.length = ll.length ∧ RdL layH C w o hs ∧ ∀ i, i < ll.length → (hs.getD i (none, 0, 0)).2.1 = (ll.getD i []).length ∧ RdI C w (hs.getD i (none, 0, 0)).1 (ll.getD i [])
theorem RdLL.kept {C D : Nat} {w w' : World} {o : Option Addr} {ll : List (List Int)} (h : RdLL C w o ll) (hb : Below D w w') (hc : C ≤ D) : RdLL C w' o ll := by
 obtain ⟨hs, hl, hr, hx⟩ := h
 exact ⟨hs, hl, hr.kept hb hc, fun i hi => ⟨(hx i hi).1, (hx i hi).2.kept hb hc⟩⟩
theorem RdLL.le {C D : Nat} {w : World} {o : Option Addr} {ll : List (List Int)} (h : RdLL C w o ll) (hc : C ≤ D) : RdLL D w o ll := by
 obtain ⟨hs, hl, hr, hx⟩ := h
 exact ⟨hs, hl, hr.le hc, fun i hi => ⟨(hx i hi).1, (hx i hi).2.le hc⟩⟩
theorem RdLL.at {C : Nat} {w : World} {o : Option Addr} {ll : List (List Int)} (h : RdLL C w o ll) (hC : C ≤ w.heap.size) (i : Nat) (hi : i < ll.length) :
  ∃ b off o' c', o = some ⟨b, off, none⟩ ∧ b < w.heap.size ∧ w.cell? ⟨b, off + i, none⟩ = some (.slice o' (ll.getD i []).length c') ∧ RdI w.heap.size w o' (ll.getD i []) := by
 obtain ⟨hs, hl, hr, hx⟩ := h
 rcases hr with hr | ⟨b, off, ho, hb, r⟩
 ·subst hr; simp at hl; omega
 ·have := RdL.head r i (by omega)
  rw [(hx i hi).1] at this
  exact ⟨b, off, _, _, ho, Nat.lt_of_lt_of_le hb hC, this, (hx i hi).2.le hC⟩

theorem infoIntS : (Tryz.prog.info? 47).map (fun i => (i.zero, i.size, i.bytes)) = some (some (.slice none 0 0), 1, 24) := by kernel_rfl
theorem cellsInt2 : Tryz.prog.cellsOf 3 = 1 := by kernel_rfl
theorem cellsIntS : Tryz.prog.cellsOf 47 = 1 := by kernel_rfl

theorem open_ints_cells {H : Type} {enc : TypeId × Value → H} {W : World} {fuel : Nat} {cs : List Value} {x : DataW H × List MemPlace} (h : DataW.trod enc Tryz.prog W 0 (fun _ => true) true fuel 47 cs = some x) :
  ∃ (o : Option Addr) (cap : Nat) (l : List Int), cs = [.slice o l.length cap] ∧ l.length ≤ maxLen ∧ RdI W.heap.size W o l := by
 refine open_list layI (by decide) Tryz.underlying47 cellsInt2 ?_ h
 intro n cs y hl hy
 obtain ⟨a, e0, _, _⟩ := DataW.trod_int Tryz.underlying3 hy
 exact ⟨a, e0⟩
theorem open_rows_cells {H : Type} {enc : TypeId × Value → H} {W : World} {fuel : Nat} {cs : List Value} {x : DataW H × List MemPlace} (h : DataW.trod enc Tryz.prog W 0 (fun _ => true) true fuel 51 cs = some x) :
  ∃ (o : Option Addr) (cap : Nat) (ll : List (List Int)), cs = [.slice o ll.length cap] ∧ ll.length ≤ maxLen ∧ RdLL W.heap.size W o ll ∧ ∀ i, i < ll.length → (ll.getD i []).length ≤ maxLen := by
 rcases Go.Deep.open_slice1 Tryz.underlying51 cellsIntS h with ⟨hcs, _⟩ | ⟨a, len, cap, m, n, V, D, Pl, hcs, _, hl, hm, hmm, _, hx⟩
 ·exact ⟨none, 0, [], hcs, Nat.zero_le _, ⟨[], rfl, .inl rfl, fun i hi => by cases hi⟩, fun i hi => by cases hi⟩
 ·have hlm : len ≤ m := by rw [hmm]; split <;> omega
  have ex : ∀ i, i < len → ∃ y : Hd × List Int, V i = .slice y.1.1 y.1.2.1 y.1.2.2 ∧ y.1.2.1 = y.2.length ∧ y.2.length ≤ maxLen ∧ RdI W.heap.size W y.1.1 y.2 := fun i hi => by
   obtain ⟨o', c', l', e, hl', hr⟩ := open_ints_cells (hx i (by omega)).2
   simp at e
   exact ⟨((o', l'.length, c'), l'), e, rfl, hl', hr⟩
  have hne : Inhabited (Hd × List Int) := ⟨((none, 0, 0), [])⟩
  obtain ⟨f, hf⟩ := Go.Deep.choose_lt ex
  have gd : ∀ i, i < len → ((List.range len).map (fun i => (f i).2)).getD i [] = (f i).2 := fun i hi => by simp [hi]
  have gh : ∀ i, i < len → ((List.range len).map (fun i => (f i).1)).getD i (none, 0, 0) = (f i).1 := fun i hi => by simp [hi]
  refine ⟨some a, cap, (List.range len).map (fun i => (f i).2), by simpa using hcs, by simp; omega, ⟨(List.range len).map (fun i => (f i).1), by simp, ?_, fun i hi => ?_⟩, fun i hi => ?_⟩
  ·by_cases h0 : len = 0
   ·left; simp [h0]
   ·right
    obtain ⟨b, off, spot⟩ := a
    have hc := (hx 0 (by omega)).1
    have hspot : spot = none := by simpa [Addr.add] using World.cell?_spot hc
    subst hspot
    have e2 : ∀ j, (⟨b, off, none⟩ : Addr).add j = ⟨b, off + j, none⟩ := fun j => by by_cases h : j = 0 <;> simp [Addr.add, h]
    refine ⟨b, off, rfl, ?_, fun i hi j hj => ?_⟩
    ·rw [e2] at hc
     rcases Nat.lt_or_ge b W.heap.size with h | h
     ·exact h
     ·simp [World.cell?, Array.getElem?_eq_none h] at hc
    ·have hi' : i < len := by simpa using hi
     have hj' : j = 0 := by have : j < 1 := hj; omega
     subst hj'
     have h1 := (hx i (by omega)).1
     rw [e2] at h1
     rw [show layH.d = (none, 0, 0) from rfl, gh i hi', show layH.k = 1 from rfl, Nat.mul_one, Nat.add_zero, h1, (hf i hi').1]
     rfl
  ·have hi' : i < len := by simpa using hi
   rw [gd i hi', gh i hi']
   exact ⟨(hf i hi').2.1, (hf i hi').2.2.2⟩
  ·have hi' : i < len := by simpa using hi
   rw [gd i hi']
   exact (hf i hi').2.2.1
end Go.Proofs.YtmmhgkkcpjhiiaaGreat

