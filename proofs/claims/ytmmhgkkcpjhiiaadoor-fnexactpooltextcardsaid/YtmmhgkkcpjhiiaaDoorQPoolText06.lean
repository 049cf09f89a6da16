/- Several texts in one: Grow, SBacks2. -/
import Derived.BigQuiet
import Derived.Deep.Quiet
import Derived.Test.YtmmhgkkcpjhiiaaDoorQPoolText01
import Derived.Test.YtmmhgkkcpjhiiaaDoorQPoolText05
/- A region that draws its order, whose operations only read what lay there and whose callees only lay new blocks: walked once, in the order of the text. -/
namespace Go.Proofs.YtmmhgkkcpjhiiaaDoor
open Go.ChangeShapes Go.WideShapes Go.ChangeAt Go.RowKit Go.Joins
set_option linter.unusedVariables false
set_option linter.unusedSimpArgs false

/-- A world in which all that lay in w lies as it did. -/
structure Grown (w : World) where
 v : World
 b : Below w.heap.size w v

theorem wp_region_grown {P : Program} {id : Nat} {Q : Exit → Act → World → Prop} {a : Act} {w : World} {l : List Oper} (hm : P.follows .mixedOrders = true) (hB : Region.lexB .any l.toArray = true)
  (h : Nonempty (Grown w) → wpQuiet P l.toArray (fun w' => ∃ p : Grown w, w' = p.v) (fun a' => ∀ w', (∃ p : Grown w, w' = p.v) → Q .normal a' w') l a) : (Code.region id l.toArray true).wp P Q a w :=
 wp_region_quiet (C := fun w' => ∃ p : Grown w, w' = p.v) hm hB ⟨⟨w.drew, Below.drew (Below.refl _ _)⟩, rfl⟩ (by simpa using h ⟨⟨w, Below.refl _ _⟩⟩)

theorem grown_of {P : Program} {f : FuncId} {args : Array Value} {w : World} {v : Value} (p : Grown w)
  (h : Calls P f args p.v fun e w' => e = .returned v ∧ Below p.v.heap.size p.v w') : Calls P f args p.v fun e w'' => e = .returned v ∧ ∃ q : Grown w, w'' = q.v :=
 h.mono fun _ w' ⟨he, hb⟩ => ⟨he, ⟨w', p.b.trans (hb.mono p.b.size)⟩, rfl⟩
theorem grown_same {P : Program} {f : FuncId} {args : Array Value} {w : World} {v : Value} (p : Grown w)
  (h : Calls P f args p.v fun e w' => e = .returned v ∧ p.v = w') : Calls P f args p.v fun e w'' => e = .returned v ∧ ∃ q : Grown w, w'' = q.v :=
 h.mono fun _ w' ⟨he, hb⟩ => ⟨he, p, hb.symm⟩
theorem Grown.cell {w : World} {b off : Nat} {u : Value} (h : w.cell? ⟨b, off, none⟩ = some u) (hb : b < w.heap.size) : ∀ p : Grown w, p.v.cell? ⟨b, off, none⟩ = some u :=
 fun p => (p.b.cell (p := ⟨b, off, none⟩) hb).trans h

end Go.Proofs.YtmmhgkkcpjhiiaaDoor

/- The program's BacksOk. -/
namespace Go.Proofs.YtmmhgkkcpjhiiaaDoor
open Go.ChangeShapes Go.WideShapes Go.ChangeAt Go.RowKit Go.Joins
set_option linter.unusedVariables false
set_option linter.unusedSimpArgs false

theorem backB_lt (i g : Int) : backB i g = ((decide (0 ≤ i) && decide (i < 6)) && (decide (1 ≤ g) && decide (g ≤ 100))) := by simp [backB, Bool.and_assoc]
set_option maxHeartbeats 400000 in
theorem isBack_any (n : Int) (w : World) : Calls Tryd.prog 72 #[.int .i64 n] w fun e w' => e = .returned (.bool (decide (0 ≤ n) && decide (n < 6))) ∧ w = w' := by
 go_enter Tryd.func72, Tryd.ntmps72
 go_wp2
 all_goals go_ret
 all_goals refine ⟨?_, rfl⟩
 all_goals first | (simp [*]; done) | (simp; omega)
set_option maxHeartbeats 400000 in
theorem isWeight_any (n : Int) (w : World) : Calls Tryd.prog 126 #[.int .i64 n] w fun e w' => e = .returned (.bool (decide (1 ≤ n) && decide (n ≤ 100))) ∧ w = w' := by
 go_enter Tryd.func126, Tryd.ntmps126
 go_wp2
 all_goals go_ret
 all_goals refine ⟨?_, rfl⟩
 all_goals first | (simp [*]; done) | (simp; omega)
set_option maxHeartbeats 400000 in
theorem backOk_any (i g : Int) (d : Bool) (w : World) : Calls Tryd.prog 112 #[back i g d] w fun e w' => e = .returned (.bool (backB i g)) ∧ Below w.heap.size w w' := by
 have hB : Below w.heap.size w w := Below.refl _ _
 rw [backB_lt]
 cases hi : (decide (0 ≤ i) && decide (i < 6)) with
 | false =>
  go_enter Tryd.func112, Tryd.ntmps112
  go_wp2_with (first | (go_at_call 72; refine (isBack_any i _).mono ?_; rw [hi]; rintro e w1 ⟨rfl, rfl⟩))
  go_ret
  exact ⟨rfl, by (repeat (first | with_reducible exact hB | with_reducible exact Below.refl _ _ | with_reducible refine Below.drew ?_ | with_reducible refine below_drewN ?_ _ | with_reducible refine Below.alloc ?_ ?_ _ | with_reducible refine Below.setCell ?_ ?_ _ | (focus (simp; done)) | (focus (simp; omega)) | omega))⟩
 | true =>
  generalize hg : (decide (1 ≤ g) && decide (g ≤ 100)) = r
  go_enter Tryd.func112, Tryd.ntmps112
  go_wp2_with (first | (go_at_call 72; refine (isBack_any i _).mono ?_; rw [hi]; rintro e w1 ⟨rfl, rfl⟩) | (go_at_call 126; refine (isWeight_any g _).mono ?_; rw [hg]; rintro e w1 ⟨rfl, rfl⟩))
  go_ret
  exact ⟨rfl, by (repeat (first | with_reducible exact hB | with_reducible exact Below.refl _ _ | with_reducible refine Below.drew ?_ | with_reducible refine below_drewN ?_ _ | with_reducible refine Below.alloc ?_ ?_ _ | with_reducible refine Below.setCell ?_ ?_ _ | (focus (simp; done)) | (focus (simp; omega)) | omega))⟩

theorem box3 (w : World) (x y z : Value) (t : TypeId) : (w.alloc (.cells #[x, y, z] t)).cell? ⟨w.heap.size, 0, none⟩ = some x ∧ (w.alloc (.cells #[x, y, z] t)).cell? ⟨w.heap.size, 1, none⟩ = some y ∧ (w.alloc (.cells #[x, y, z] t)).cell? ⟨w.heap.size, 2, none⟩ = some z := by simp
theorem alloc_old (w : World) (o : Obj) {b off : Nat} {u : Value} (h : w.cell? ⟨b, off, none⟩ = some u) (hb : b < w.heap.size) : (w.alloc o).cell? ⟨b, off, none⟩ = some u :=
 ((Below.alloc (Below.refl _ _) (Nat.le_refl _) o).cell (p := ⟨b, off, none⟩) hb).trans h

set_option maxHeartbeats 1000000 in
theorem implBacksOk_any (o : Option Addr) (cap : Nat) (l : List Bk) (w : World) (hR : RdK w.heap.size w o l) (hlen : l.length ≤ 1048576) :
  Calls Tryd.prog 88 #[.slice o l.length cap] w fun e w' => e = .returned (.bool (backsOkB l)) ∧ Below w.heap.size w w' := by
 go_enter Tryd.func88, Tryd.ntmps88
 go_wp2
 go_loopw [2, 7] (fun rv i wr => ∃ k : Nat, k ≤ l.length ∧ i = .int .i64 k ∧ rv = .bool false ∧ okTo l k ∧ Below w.heap.size w wr)
  (fun _ i _ => l.length - (intOf i).toNat)
 case atStart => exact ⟨0, Nat.zero_le _, rfl, rfl, fun i hi => absurd hi (Nat.not_lt_zero _), Below.refl _ _⟩
 case round =>
  obtain ⟨k, hk, rfl, rfl, hok, hBr⟩ := hrel
  by_cases hlt : k < l.length
  ·rcases hR with hR | ⟨b, off, rfl, hbl, hcell⟩
   ·subst hR; simp at hlt
   obtain ⟨x, y, z, hxy⟩ : ∃ x y z, l.getD k (0, 0, false) = (x, y, z) := ⟨_, _, _, rfl⟩
   have hcx := RdL.back (C := w.heap.size) hcell k hlt
   rw [hxy] at hcx
   have hc0 : wr.cell? ⟨b, off + k * 3, none⟩ = some (.int .i64 x) := (hBr.cell (p := ⟨b, off + k * 3, none⟩) hbl).trans hcx.1
   have hc1 : wr.cell? ⟨b, off + k * 3 + 1, none⟩ = some (.int .i64 y) := (hBr.cell (p := ⟨b, off + k * 3 + 1, none⟩) hbl).trans hcx.2.1
   have hc2 : wr.cell? ⟨b, off + k * 3 + 2, none⟩ = some (.bool z) := (hBr.cell (p := ⟨b, off + k * 3 + 2, none⟩) hbl).trans hcx.2.2
   have hlr := Nat.lt_of_lt_of_le hbl hBr.size
   have HB := hide hBr
   have HO := hide hok
   have i1 : (k : Int) < (l.length : Int) := by omega
   clear hBr hok hcx
   obtain ⟨p0, p1, p2⟩ := box3 wr (.int .i64 x) (.int .i64 y) (.bool z) 70
   have HA : Hid (Below w.heap.size w (wr.alloc (Obj.cells #[Value.int IntKind.i64 x, Value.int IntKind.i64 y, Value.bool z] 70))) := HB.out.alloc HB.out.size _
   have hs : wr.heap.size < (wr.alloc (Obj.cells #[Value.int IntKind.i64 x, Value.int IntKind.i64 y, Value.bool z] 70)).heap.size := by simp
   rcases k with _ | j
   ·have HZ := hide (okAt_zero hxy)
    clear hcell hxy
    simp only [Nat.zero_mul, Nat.add_zero] at hc0 hc1 hc2
    go_wp2
    generalize wr.alloc (Obj.cells #[Value.int IntKind.i64 x, Value.int IntKind.i64 y, Value.bool z] 70) = w0 at *
    have g0 := Grown.cell p0 hs
    have g1 := Grown.cell p1 hs
    have g2 := Grown.cell p2 hs
    clear hc0 hc1 hc2 p0 p1 p2
    cases hbk : backB x y with
    | false =>
     have HN := hide (backsOkB_no hlt (HZ.out.trans hbk))
     clear HZ HO
     (refine wp_region_grown (by kernel_rfl) (by kernel_rfl) ?_; intro hne9; (repeat (go_big_quiet_step ((go_at_call 112; exact grown_of _ (hbk ▸ backOk_any x y z _))))); (with_reducible refine wpQuiet_nil ?_); intro _ hw9; obtain ⟨pq, hw8⟩ := hw9; subst hw8)
     go_wp2
     go_ret
     exact ⟨ret_bool HN.out, HA.out.trans (pq.b.mono HA.out.size)⟩
    | true =>
     have HY := hide (okTo_succ HO.out (HZ.out.trans hbk))
     clear HZ HO
     (refine wp_region_grown (by kernel_rfl) (by kernel_rfl) ?_; intro hne9; (repeat (go_big_quiet_step ((go_at_call 112; exact grown_of _ (hbk ▸ backOk_any x y z _))))); (with_reducible refine wpQuiet_nil ?_); intro _ hw9; obtain ⟨pq, hw8⟩ := hw9; subst hw8)
     go_wp2
     go_roundw
     case rel => exact ⟨1, by omega, by go_num, rfl, HY.out, HA.out.trans (pq.b.mono HA.out.size)⟩
     case measure => simp [intOf]; omega
   ·obtain ⟨x', y', z', hxy'⟩ : ∃ x y z, l.getD j (0, 0, false) = (x, y, z) := ⟨_, _, _, rfl⟩
    have hcx := RdL.back (C := w.heap.size) hcell j (by omega)
    rw [hxy'] at hcx
    have hc3 : wr.cell? ⟨b, off + j * 3, none⟩ = some (.int .i64 x') := (HB.out.cell (p := ⟨b, off + j * 3, none⟩) hbl).trans hcx.1
    have p3 := alloc_old wr (Obj.cells #[Value.int IntKind.i64 x, Value.int IntKind.i64 y, Value.bool z] 70) hc3 hlr
    have HZ := hide (okAt_succ hxy hxy')
    have i2 : (j : Int) < (l.length : Int) := by omega
    have i3 : 0 < (j : Int) + 1 := by omega
    clear hcell hxy hxy' hcx hc3
    have hls : b < (wr.alloc (Obj.cells #[Value.int IntKind.i64 x, Value.int IntKind.i64 y, Value.bool z] 70)).heap.size := Nat.lt_trans hlr hs
    go_wp2
    generalize wr.alloc (Obj.cells #[Value.int IntKind.i64 x, Value.int IntKind.i64 y, Value.bool z] 70) = w0 at *
    have g0 := Grown.cell p0 hs
    have g1 := Grown.cell p1 hs
    have g2 := Grown.cell p2 hs
    have g3 := Grown.cell p3 hls
    clear hc0 hc1 hc2 p0 p1 p2 p3
    cases hbk : backB x y with
    | false =>
     have HN := hide (backsOkB_no hlt (HZ.out.trans (by rw [hbk]; rfl)))
     clear HZ HO
     (refine wp_region_grown (by kernel_rfl) (by kernel_rfl) ?_; intro hne9; (repeat (go_big_quiet_step ((go_at_call 112; exact grown_of _ (hbk ▸ backOk_any x y z _))))); (with_reducible refine wpQuiet_nil ?_); intro _ hw9; obtain ⟨pq, hw8⟩ := hw9; subst hw8)
     go_wp2
     go_ret
     exact ⟨ret_bool HN.out, HA.out.trans (pq.b.mono HA.out.size)⟩
    | true =>
     by_cases h5 : x ≤ x'
     ·have HN := hide (backsOkB_no hlt (HZ.out.trans (by simp [hbk]; omega)))
      clear HZ HO
      (refine wp_region_grown (by kernel_rfl) (by kernel_rfl) ?_; intro hne9; (repeat (go_big_quiet_step ((go_at_call 112; exact grown_of _ (hbk ▸ backOk_any x y z _))))); (with_reducible refine wpQuiet_nil ?_); intro _ hw9; obtain ⟨pq, hw8⟩ := hw9; subst hw8)
      go_wp2
      go_ret
      exact ⟨ret_bool HN.out, HA.out.trans (pq.b.mono HA.out.size)⟩
     ·have d5 : decide (x ≤ x') = false := decide_eq_false h5
      have HY := hide (okTo_succ HO.out (HZ.out.trans (by simp [hbk]; omega)))
      clear HZ HO
      (refine wp_region_grown (by kernel_rfl) (by kernel_rfl) ?_; intro hne9; (repeat (go_big_quiet_step ((go_at_call 112; exact grown_of _ (hbk ▸ backOk_any x y z _))))); (with_reducible refine wpQuiet_nil ?_); intro _ hw9; obtain ⟨pq, hw8⟩ := hw9; subst hw8)
      go_wp2
      go_roundw
      case rel => exact ⟨j + 1 + 1, by omega, by go_num, rfl, HY.out, HA.out.trans (pq.b.mono HA.out.size)⟩
      case measure => simp [intOf]; omega
  ·have e : k = l.length := by omega
   subst e
   have HE := hide (backsOkB_iff.2 hok).symm
   go_wp2
   go_ret
   exact ⟨ret_bool HE.out, hBr⟩

end Go.Proofs.YtmmhgkkcpjhiiaaDoor

