/- Several texts in one: Grow, SBacks2, PlaceMath. -/
import Derived.BigQuiet
import Derived.Deep.Quiet
import Derived.Test.YtajfkcpifnpkeaaGreatQSend01
import Derived.Test.YtajfkcpifnpkeaaGreatQSend05
/- A region that draws its order, whose operations only read what lay there and whose callees only lay new blocks: walked once, in the order of the text. -/
namespace Go.Proofs.YtajfkcpifnpkeaaGreat
open Go.ChangeShapes Go.WideShapes Go.ChangeAt Go.RowKit Go.Joins
set_option linter.unusedVariables false
set_option linter.unusedSimpArgs false

/-- A world in which all that lay in w lies as it did. -/
structure Grown (w : World) where
 v : World
 b : Below w.heap.size w v

theorem wp_region_grown {P : Program} {id : Nat} {Q : Exit → Act → World → Prop} {a : Act} {w : World} {l : List Oper} (hm : P.follows .mixedOrders = true) (hB : Region.lexB .any l.toArray = true)
  (h : Nonempty (Grown w) → wpQuiet P l.toArray (fun w' => ∃ p : Grown w, w' = p.v) (fun a' => ∀ w', (∃ p : Grown w, w' = p.v) → Q .normal a' w') l a) : (Code.region id l.toArray true).wp P Q a w :=
 wp_region_quiet (C := fun w' => ∃ p : Grown w, w' = p.v) hm hB ⟨⟨w.drew, Below.drew (Below.refl _ _)⟩, rfl⟩ (by simpa using h ⟨⟨w, Below.refl _ _⟩⟩)

theorem grown_of {P : Program} {f : FuncId} {args : Array Value} {w : World} {v : Value} (p : Grown w)
  (h : Calls P f args p.v fun e w' => e = .returned v ∧ Below p.v.heap.size p.v w') : Calls P f args p.v fun e w'' => e = .returned v ∧ ∃ q : Grown w, w'' = q.v :=
 h.mono fun _ w' ⟨he, hb⟩ => ⟨he, ⟨w', p.b.trans (hb.mono p.b.size)⟩, rfl⟩
theorem Grown.cell {w : World} {b off : Nat} {u : Value} (h : w.cell? ⟨b, off, none⟩ = some u) (hb : b < w.heap.size) : ∀ p : Grown w, p.v.cell? ⟨b, off, none⟩ = some u :=
 fun p => (p.b.cell (p := ⟨b, off, none⟩) hb).trans h

end Go.Proofs.YtajfkcpifnpkeaaGreat

/- The program's BacksOk. -/
namespace Go.Proofs.YtajfkcpifnpkeaaGreat
open Go.ChangeShapes Go.WideShapes Go.ChangeAt Go.RowKit Go.Joins
set_option linter.unusedVariables false
set_option linter.unusedSimpArgs false

theorem backB_lt (i g : Int) : backB i g = ((decide (0 ≤ i) && decide (i < 6)) && (decide (1 ≤ g) && decide (g ≤ 100))) := by simp [backB, Bool.and_assoc]
set_option maxHeartbeats 400000 in
theorem isBack_any (n : Int) (w : World) : Calls Tryz.prog 89 #[.int .i64 n] w fun e w' => e = .returned (.bool (decide (0 ≤ n) && decide (n < 6))) ∧ w = w' := by
 go_enter Tryz.func89, Tryz.ntmps89
 go_wp2
 all_goals go_ret
 all_goals refine ⟨?_, rfl⟩
 all_goals first | (simp [*]; done) | (simp; omega)
set_option maxHeartbeats 400000 in
theorem isWeight_any (n : Int) (w : World) : Calls Tryz.prog 121 #[.int .i64 n] w fun e w' => e = .returned (.bool (decide (1 ≤ n) && decide (n ≤ 100))) ∧ w = w' := by
 go_enter Tryz.func121, Tryz.ntmps121
 go_wp2
 all_goals go_ret
 all_goals refine ⟨?_, rfl⟩
 all_goals first | (simp [*]; done) | (simp; omega)
set_option maxHeartbeats 400000 in
theorem backOk_any (i g : Int) (d : Bool) (w : World) : Calls Tryz.prog 226 #[back i g d] w fun e w' => e = .returned (.bool (backB i g)) ∧ Below w.heap.size w w' := by
 have hB : Below w.heap.size w w := Below.refl _ _
 rw [backB_lt]
 cases hi : (decide (0 ≤ i) && decide (i < 6)) with
 | false =>
  go_enter Tryz.func226, Tryz.ntmps226
  go_wp2_with (first | (go_at_call 89; refine (isBack_any i _).mono ?_; rw [hi]; rintro e w1 ⟨rfl, rfl⟩))
  go_ret
  exact ⟨rfl, by (repeat (first | with_reducible exact hB | with_reducible exact Below.refl _ _ | with_reducible refine Below.drew ?_ | with_reducible refine below_drewN ?_ _ | with_reducible refine Below.alloc ?_ ?_ _ | with_reducible refine Below.setCell ?_ ?_ _ | (focus (simp; done)) | (focus (simp; omega)) | omega))⟩
 | true =>
  generalize hg : (decide (1 ≤ g) && decide (g ≤ 100)) = r
  go_enter Tryz.func226, Tryz.ntmps226
  go_wp2_with (first | (go_at_call 89; refine (isBack_any i _).mono ?_; rw [hi]; rintro e w1 ⟨rfl, rfl⟩) | (go_at_call 121; refine (isWeight_any g _).mono ?_; rw [hg]; rintro e w1 ⟨rfl, rfl⟩))
  go_ret
  exact ⟨rfl, by (repeat (first | with_reducible exact hB | with_reducible exact Below.refl _ _ | with_reducible refine Below.drew ?_ | with_reducible refine below_drewN ?_ _ | with_reducible refine Below.alloc ?_ ?_ _ | with_reducible refine Below.setCell ?_ ?_ _ | (focus (simp; done)) | (focus (simp; omega)) | omega))⟩

theorem box3 (w : World) (x y z : Value) (t : TypeId) : (w.alloc (.cells #[x, y, z] t)).cell? ⟨w.heap.size, 0, none⟩ = some x ∧ (w.alloc (.cells #[x, y, z] t)).cell? ⟨w.heap.size, 1, none⟩ = some y ∧ (w.alloc (.cells #[x, y, z] t)).cell? ⟨w.heap.size, 2, none⟩ = some z := by simp
theorem alloc_old (w : World) (o : Obj) {b off : Nat} {u : Value} (h : w.cell? ⟨b, off, none⟩ = some u) (hb : b < w.heap.size) : (w.alloc o).cell? ⟨b, off, none⟩ = some u :=
 ((Below.alloc (Below.refl _ _) (Nat.le_refl _) o).cell (p := ⟨b, off, none⟩) hb).trans h

set_option maxHeartbeats 1000000 in
theorem implBacksOk_any (o : Option Addr) (cap : Nat) (l : List Bk) (w : World) (hR : RdK w.heap.size w o l) (hlen : l.length ≤ 1048576) :
  Calls Tryz.prog 209 #[.slice o l.length cap] w fun e w' => e = .returned (.bool (backsOkB l)) ∧ Below w.heap.size w w' := by
 go_enter Tryz.func209, Tryz.ntmps209
 go_wp2
 go_loopw [2, 7] (fun rv i wr => ∃ k : Nat, k ≤ l.length ∧ i = .int .i64 k ∧ rv = .bool false ∧ okTo l k ∧ Below w.heap.size w wr)
  (fun _ i _ => l.length - (intOf i).toNat)
 case atStart => exact ⟨0, Nat.zero_le _, rfl, rfl, fun i hi => absurd hi (Nat.not_lt_zero _), Below.refl _ _⟩
 case round =>
  obtain ⟨k, hk, rfl, rfl, hok, hBr⟩ := hrel
  by_cases hlt : k < l.length
  ·rcases hR with hR | ⟨b, off, rfl, hbl, hcell⟩
   ·subst hR; simp at hlt
   obtain ⟨x, y, z, hxy⟩ : ∃ x y z, l.getD k (0, 0, false) = (x, y, z) := ⟨_, _, _, rfl⟩
   have hcx := RdL.back (C := w.heap.size) hcell k hlt
   rw [hxy] at hcx
   have hc0 : wr.cell? ⟨b, off + k * 3, none⟩ = some (.int .i64 x) := (hBr.cell (p := ⟨b, off + k * 3, none⟩) hbl).trans hcx.1
   have hc1 : wr.cell? ⟨b, off + k * 3 + 1, none⟩ = some (.int .i64 y) := (hBr.cell (p := ⟨b, off + k * 3 + 1, none⟩) hbl).trans hcx.2.1
   have hc2 : wr.cell? ⟨b, off + k * 3 + 2, none⟩ = some (.bool z) := (hBr.cell (p := ⟨b, off + k * 3 + 2, none⟩) hbl).trans hcx.2.2
   have hlr := Nat.lt_of_lt_of_le hbl hBr.size
   have HB := hide hBr
   have HO := hide hok
   have i1 : (k : Int) < (l.length : Int) := by omega
   clear hBr hok hcx
   obtain ⟨p0, p1, p2⟩ := box3 wr (.int .i64 x) (.int .i64 y) (.bool z) 150
   have HA : Hid (Below w.heap.size w (wr.alloc (Obj.cells #[Value.int IntKind.i64 x, Value.int IntKind.i64 y, Value.bool z] 150))) := HB.out.alloc HB.out.size _
   have hs : wr.heap.size < (wr.alloc (Obj.cells #[Value.int IntKind.i64 x, Value.int IntKind.i64 y, Value.bool z] 150)).heap.size := by simp
   rcases k with _ | j
   ·have HZ := hide (okAt_zero hxy)
    clear hcell hxy
    simp only [Nat.zero_mul, Nat.add_zero] at hc0 hc1 hc2
    go_wp2
    generalize wr.alloc (Obj.cells #[Value.int IntKind.i64 x, Value.int IntKind.i64 y, Value.bool z] 150) = w0 at *
    have g0 := Grown.cell p0 hs
    have g1 := Grown.cell p1 hs
    have g2 := Grown.cell p2 hs
    clear hc0 hc1 hc2 p0 p1 p2
    cases hbk : backB x y with
    | false =>
     have HN := hide (backsOkB_no hlt (HZ.out.trans hbk))
     clear HZ HO
     (refine wp_region_grown (by kernel_rfl) (by kernel_rfl) ?_; intro hne9; (repeat (go_big_quiet_step ((go_at_call 226; exact grown_of _ (hbk ▸ backOk_any x y z _))))); (with_reducible refine wpQuiet_nil ?_); intro _ hw9; obtain ⟨pq, hw8⟩ := hw9; subst hw8)
     go_wp2
     go_ret
     exact ⟨ret_bool HN.out, HA.out.trans (pq.b.mono HA.out.size)⟩
    | true =>
     have HY := hide (okTo_succ HO.out (HZ.out.trans hbk))
     clear HZ HO
     (refine wp_region_grown (by kernel_rfl) (by kernel_rfl) ?_; intro hne9; (repeat (go_big_quiet_step ((go_at_call 226; exact grown_of _ (hbk ▸ backOk_any x y z _))))); (with_reducible refine wpQuiet_nil ?_); intro _ hw9; obtain ⟨pq, hw8⟩ := hw9; subst hw8)
     go_wp2
     go_roundw
     case rel => exact ⟨1, by omega, by go_num, rfl, HY.out, HA.out.trans (pq.b.mono HA.out.size)⟩
     case measure => simp [intOf]; omega
   ·obtain ⟨x', y', z', hxy'⟩ : ∃ x y z, l.getD j (0, 0, false) = (x, y, z) := ⟨_, _, _, rfl⟩
    have hcx := RdL.back (C := w.heap.size) hcell j (by omega)
    rw [hxy'] at hcx
    have hc3 : wr.cell? ⟨b, off + j * 3, none⟩ = some (.int .i64 x') := (HB.out.cell (p := ⟨b, off + j * 3, none⟩) hbl).trans hcx.1
    have p3 := alloc_old wr (Obj.cells #[Value.int IntKind.i64 x, Value.int IntKind.i64 y, Value.bool z] 150) hc3 hlr
    have HZ := hide (okAt_succ hxy hxy')
    have i2 : (j : Int) < (l.length : Int) := by omega
    have i3 : 0 < (j : Int) + 1 := by omega
    clear hcell hxy hxy' hcx hc3
    have hls : b < (wr.alloc (Obj.cells #[Value.int IntKind.i64 x, Value.int IntKind.i64 y, Value.bool z] 150)).heap.size := Nat.lt_trans hlr hs
    go_wp2
    generalize wr.alloc (Obj.cells #[Value.int IntKind.i64 x, Value.int IntKind.i64 y, Value.bool z] 150) = w0 at *
    have g0 := Grown.cell p0 hs
    have g1 := Grown.cell p1 hs
    have g2 := Grown.cell p2 hs
    have g3 := Grown.cell p3 hls
    clear hc0 hc1 hc2 p0 p1 p2 p3
    cases hbk : backB x y with
    | false =>
     have HN := hide (backsOkB_no hlt (HZ.out.trans (by rw [hbk]; rfl)))
     clear HZ HO
     (refine wp_region_grown (by kernel_rfl) (by kernel_rfl) ?_; intro hne9; (repeat (go_big_quiet_step ((go_at_call 226; exact grown_of _ (hbk ▸ backOk_any x y z _))))); (with_reducible refine wpQuiet_nil ?_); intro _ hw9; obtain ⟨pq, hw8⟩ := hw9; subst hw8)
     go_wp2
     go_ret
     exact ⟨ret_bool HN.out, HA.out.trans (pq.b.mono HA.out.size)⟩
    | true =>
     by_cases h5 : x ≤ x'
     ·have HN := hide (backsOkB_no hlt (HZ.out.trans (by simp [hbk]; omega)))
      clear HZ HO
      (refine wp_region_grown (by kernel_rfl) (by kernel_rfl) ?_; intro hne9; (repeat (go_big_quiet_step ((go_at_call 226; exact grown_of _ (hbk ▸ backOk_any x y z _))))); (with_reducible refine wpQuiet_nil ?_); intro _ hw9; obtain ⟨pq, hw8⟩ := hw9; subst hw8)
      go_wp2
      go_ret
      exact ⟨ret_bool HN.out, HA.out.trans (pq.b.mono HA.out.size)⟩
     ·have d5 : decide (x ≤ x') = false := decide_eq_false h5
      have HY := hide (okTo_succ HO.out (HZ.out.trans (by simp [hbk]; omega)))
      clear HZ HO
      (refine wp_region_grown (by kernel_rfl) (by kernel_rfl) ?_; intro hne9; (repeat (go_big_quiet_step ((go_at_call 226; exact grown_of _ (hbk ▸ backOk_any x y z _))))); (with_reducible refine wpQuiet_nil ?_); intro _ hw9; obtain ⟨pq, hw8⟩ := hw9; subst hw8)
      go_wp2
      go_roundw
      case rel => exact ⟨j + 1 + 1, by omega, by go_num, rfl, HY.out, HA.out.trans (pq.b.mono HA.out.size)⟩
      case measure => simp [intOf]; omega
  ·have e : k = l.length := by omega
   subst e
   have HE := hide (backsOkB_iff.2 hok).symm
   go_wp2
   go_ret
   exact ⟨ret_bool HE.out, hBr⟩

end Go.Proofs.YtajfkcpifnpkeaaGreat

/- Where somebody stands in a list of those who serve, or would have to; what a command makes of the list. -/
namespace Go.Proofs.YtajfkcpifnpkeaaGreat
open Go.ChangeShapes Go.WideShapes Go.ChangeAt Go.RowKit Go.Joins
set_option linter.unusedVariables false
set_option linter.unusedSimpArgs false

/-- How many at the list's beginning have an Id below id. -/
def placeN (l : List Bk) (id : Int) : Nat := (l.takeWhile (fun b => decide (b.1 < id))).length
theorem placeN_le (l : List Bk) (id : Int) : placeN l id ≤ l.length := by
 unfold placeN; exact (List.takeWhile_sublist _).length_le
theorem placeN_lt : ∀ (l : List Bk) (id : Int) (k : Nat), k < placeN l id → (l.getD k (0, 0, false)).1 < id
 | [], id, k, h => by simp [placeN] at h
 | b :: l, id, k, h => by
  unfold placeN at h
  rw [List.takeWhile_cons] at h
  by_cases hb : b.1 < id
  ·simp [hb] at h
   cases k with
   | zero => simpa using hb
   | succ k => simpa using placeN_lt l id k (by unfold placeN; omega)
  ·simp [hb] at h
theorem placeN_at : ∀ (l : List Bk) (id : Int), placeN l id < l.length → ¬ (l.getD (placeN l id) (0, 0, false)).1 < id
 | [], id, h => by simp at h
 | b :: l, id, h => by
  by_cases hb : b.1 < id
  ·have e : placeN (b :: l) id = placeN l id + 1 := by unfold placeN; rw [List.takeWhile_cons]; simp [hb]
   rw [e] at h ⊢
   simpa using placeN_at l id (by simpa using h)
  ·have e : placeN (b :: l) id = 0 := by unfold placeN; rw [List.takeWhile_cons]; simp [hb]
   rw [e]
   simpa using hb
/-- The place is the one behind all that are below. -/
theorem placeN_eq {l : List Bk} {id : Int} {k : Nat} (hk : k ≤ l.length) (h1 : ∀ j, j < k → (l.getD j (0, 0, false)).1 < id) (h2 : k = l.length ∨ ¬ (l.getD k (0, 0, false)).1 < id) : placeN l id = k := by
 rcases Nat.lt_trichotomy (placeN l id) k with h | h | h
 ·exact absurd (h1 _ h) (placeN_at l id (by omega))
 ·exact h
 ·have := placeN_lt l id k h
  have := placeN_le l id
  rcases h2 with h2 | h2
  ·omega
  ·exact absurd ‹_› h2
def thereB (l : List Bk) (id : Int) : Bool := decide (placeN l id < l.length) && ((l.getD (placeN l id) (0, 0, false)).1 == id)

/-- What a command makes of those who serve; none: it can't be done. -/
def doL (l : List Bk) (k i g : Int) : Option (List Bk) :=
 if thereB l i = (k == 0) then none
 else some (
  if k = 0 then l.take (placeN l i) ++ (i, g, false) :: l.drop (placeN l i)
  else if k = 1 then l.set (placeN l i) (i, g, (l.getD (placeN l i) (0, 0, false)).2.2)
  else if k = 2 then l.set (placeN l i) (i, (l.getD (placeN l i) (0, 0, false)).2.1, true)
  else l.take (placeN l i) ++ l.drop (placeN l i + 1))

set_option maxHeartbeats 2000000 in
theorem placeOf_any (o : Option Addr) (cap : Nat) (l : List Bk) (id : Int) (w : World) (hR : RdK w.heap.size w o l) (hl : l.length ≤ 1048576) :
  Calls Tryz.prog 211 #[.slice o l.length cap, .int .i64 id] w fun e w' => e = .returned (.tuple #[.int .i64 (placeN l id), .bool (thereB l id)]) ∧ Below w.heap.size w w' := by
 go_enter Tryz.func211, Tryz.ntmps211
 go_wp2
 go_loop [6] (fun av => ∃ k : Nat, k ≤ l.length ∧ av = .int .i64 k ∧ Hid (∀ j, j < k → (l.getD j (0, 0, false)).1 < id))
  (fun av => l.length - (intOf av).toNat)
 case atStart => exact ⟨0, Nat.zero_le _, rfl, fun j hj => absurd hj (Nat.not_lt_zero _)⟩
 case round =>
  obtain ⟨k, hk, rfl, HJ⟩ := hrel
  by_cases hlt : k < l.length
  ·rcases hR with hR | ⟨b, off, rfl, hbl, hcell⟩
   ·subst hR; simp at hlt
   obtain ⟨x, y, z, hxy⟩ : ∃ x y z, l.getD k (0, 0, false) = (x, y, z) := ⟨_, _, _, rfl⟩
   have hcx := (RdL.back (C := w.heap.size) hcell k hlt).1
   rw [hxy] at hcx
   dsimp only at hcx
   have z1 : (k : Int) < (l.length : Int) := by omega
   by_cases hx : x < id
   ·have HJ2 : Hid (∀ j, j < k + 1 → (l.getD j (0, 0, false)).1 < id) := fun j hj => by
     rcases Nat.lt_succ_iff_lt_or_eq.1 hj with h | h
     ·exact HJ.out j h
     ·rw [h, hxy]; exact hx
    clear hxy hcell
    go_wp2
    go_round
    case rel => exact ⟨k + 1, by omega, by go_num, HJ2⟩
    case measure => simp [intOf]; omega
   ·have hp : placeN l id = k := placeN_eq (Nat.le_of_lt hlt) HJ.out (.inr (by rw [hxy]; exact hx))
    have HT := hide (show thereB l id = (x == id) by unfold thereB; rw [hp, hxy]; simp [hlt])
    have HP := hide hp
    have G0 := Grown.cell hcx hbl
    clear hxy hcell hp HJ
    go_wp2
    (refine wp_region_grown (by kernel_rfl) (by kernel_rfl) ?_; intro hne9; (repeat (go_big_quiet_step ((fail)))); (with_reducible refine wpQuiet_nil ?_); intro _ hw9; obtain ⟨pq, hw8⟩ := hw9; subst hw8)
    have HB := hide pq.b
    go_wp2
    go_ret2
    exact ⟨by rw [HP.out, HT.out]; rfl, HB.out⟩
  ·have e : k = l.length := by omega
   have hp : placeN l id = l.length := placeN_eq (Nat.le_refl _) (e ▸ HJ.out) (.inl rfl)
   have HT := hide (show thereB l id = false by unfold thereB; rw [hp]; simp)
   have HP := hide hp
   subst e
   clear hp HJ
   go_wp2
   (refine wp_region_grown (by kernel_rfl) (by kernel_rfl) ?_; intro hne9; (repeat (go_big_quiet_step ((fail)))); (with_reducible refine wpQuiet_nil ?_); intro _ hw9; obtain ⟨pq, hw8⟩ := hw9; subst hw8)
   have HB := hide pq.b
   go_wp2
   go_ret2
   exact ⟨by rw [HP.out, HT.out]; rfl, HB.out⟩

end Go.Proofs.YtajfkcpifnpkeaaGreat

