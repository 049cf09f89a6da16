/- Several texts in one: SDraw, App, SDraw2, Boxes, SDraw3. -/
import Derived.Test.YtldjaapbkihibaaBytes
import Derived.Test.YtldjaapbkihibaaBits
import Derived.Deep.QuietTactic
import Derived.BigQuiet
import Derived.Laws.AppendOwnNone
import Derived.Maps.AppendAt
import Derived.Deep.RegionHeld3
/- The draws' cursor: what is asked of it and of a byte drawn. -/
namespace Go.Proofs.Ytldjaapbkihibaa
open Go.ChangeShapes Go.WideShapes Go.ChangeAt Go.RowKit Go.Joins
set_option linter.unusedVariables false
set_option linter.unusedSimpArgs false

/-- Block k is a cursor over bytes that lie below it. -/
structure Cur (k : Nat) (w : World) (o : Option Addr) (cap : Nat) (l : List Int) (i h : Int) : Prop where
  c0 : w.cell? ⟨k, 0, none⟩ = some (.slice o l.length cap)
  c1 : w.cell? ⟨k, 1, none⟩ = some (.int .i64 i)
  c2 : w.cell? ⟨k, 2, none⟩ = some (.int .i64 h)
  f1 : w.frozen? ⟨k, 1, none⟩ = false
  f2 : w.frozen? ⟨k, 2, none⟩ = false
  ml : l.length ≤ maxLen
  rd : RdB k w o l
  b8 : isB l
  i0 : 0 ≤ i
  i1 : i ≤ l.length
def isCur (k : Nat) (w : World) : Prop := ∃ o cap l i h, Cur k w o cap l i h

theorem and255 (n : Int) : 0 ≤ bits .and .i64 n 255 ∧ bits .and .i64 n 255 ≤ 255 := by
  have h255 : (BitVec.ofInt 64 255).toNat = 2 ^ 8 - 1 := by decide
  have key : (BitVec.ofInt 64 n &&& BitVec.ofInt 64 255).toNat = (n % ((2 ^ 64 : Nat) : Int)).toNat % 2 ^ 8 := by
    rw [BitVec.toNat_and, BitVec.toNat_ofInt, h255, Nat.and_two_pow_sub_one_eq_mod]
  have e : bits .and .i64 n 255 = IntKind.i64.wrap ((BitVec.ofInt 64 n &&& BitVec.ofInt 64 255).toNat : Nat) := rfl
  rw [e, key, wrap_i64 _ (by omega) (by omega)]
  omega

/-- The cursor behind a store into one of its numbers. -/
theorem Cur.set2 {k : Nat} {w : World} {o : Option Addr} {cap : Nat} {l : List Int} {i h : Int} (c : Cur k w o cap l i h) (h' : Int) : Cur k (w.setCell ⟨k, 2, none⟩ (.int .i64 h')) o cap l i h' ∧ w.grownBy (w.setCell ⟨k, 2, none⟩ (.int .i64 h')) (some k) := by
  have hb : Below k w (w.setCell ⟨k, 2, none⟩ (.int .i64 h')) := Below.setCell (p := ⟨k, 2, none⟩) (Below.refl _ _) (Nat.le_refl _) _
  refine ⟨⟨?_, ?_, World.cell?_setCell_same w _ _ c.c2, ?_, ?_, c.ml, c.rd.kept hb (Nat.le_refl _), c.b8, c.i0, c.i1⟩, ?_⟩
  · exact (World.cell?_setCell_other w _ _ _ (by simp)).trans c.c0
  · exact (World.cell?_setCell_other w _ _ _ (by simp)).trans c.c1
  · simpa using c.f1
  · simpa using c.f2
  · exact ⟨rfl, rfl, rfl, by simp, fun j _ hj => Below.heap_setCell w _ _ j (fun e => hj (by simp [e]))⟩
theorem Cur.set1 {k : Nat} {w : World} {o : Option Addr} {cap : Nat} {l : List Int} {i h : Int} (c : Cur k w o cap l i h) (i' : Int) (h0 : 0 ≤ i') (h1 : i' ≤ l.length) : Cur k (w.setCell ⟨k, 1, none⟩ (.int .i64 i')) o cap l i' h ∧ w.grownBy (w.setCell ⟨k, 1, none⟩ (.int .i64 i')) (some k) := by
  have hb : Below k w (w.setCell ⟨k, 1, none⟩ (.int .i64 i')) := Below.setCell (p := ⟨k, 1, none⟩) (Below.refl _ _) (Nat.le_refl _) _
  refine ⟨⟨?_, World.cell?_setCell_same w _ _ c.c1, ?_, ?_, ?_, c.ml, c.rd.kept hb (Nat.le_refl _), c.b8, h0, h1⟩, ?_⟩
  · exact (World.cell?_setCell_other w _ _ _ (by simp)).trans c.c0
  · exact (World.cell?_setCell_other w _ _ _ (by simp)).trans c.c2
  · simpa using c.f1
  · simpa using c.f2
  · exact ⟨rfl, rfl, rfl, by simp, fun j _ hj => Below.heap_setCell w _ _ j (fun e => hj (by simp [e]))⟩
theorem Cur.drewN {k : Nat} {w : World} {o : Option Addr} {cap : Nat} {l : List Int} {i h : Int} (c : Cur k w o cap l i h) (n : Nat) : Cur k (w.drewN n) o cap l i h := ⟨c.c0, c.c1, c.c2, c.f1, c.f2, c.ml, c.rd, c.b8, c.i0, c.i1⟩

theorem grownBy_drewN {w w' : World} {r : Option Nat} (h : w.grownBy w' r) (n : Nat) : w.grownBy (w'.drewN n) r := ⟨h.os, h.tape, h.output, h.size, h.block⟩
theorem grownBy_then {a b c : World} {r : Option Nat} (h : a.grownBy b r) (k : b.grownBy c r) : a.grownBy c r :=
  ⟨k.os.trans h.os, k.tape.trans h.tape, k.output.trans h.output, Nat.le_trans h.size k.size, fun i hi hne => (k.block i (Nat.lt_of_lt_of_le hi h.size) hne).trans (h.block i hi hne)⟩

set_option maxHeartbeats 1000000 in
theorem l1Byte_any (k : Nat) (w : World) (hc : isCur k w) :
    Calls Try.prog 113 #[.pointer (some ⟨k, 0, none⟩)] w fun e w' => ∃ x : Int, e = .returned (.int .i64 x) ∧ 0 ≤ x ∧ x ≤ 255 ∧ isCur k w' ∧ w.grownBy w' (some k) := by
  obtain ⟨o, cap, l, i, h, c⟩ := hc
  have c0 := c.c0
  have c1 := c.c1
  have c2 := c.c2
  have f1 := c.f1
  have f2 := c.f2
  go_enter Try.func113, Try.ntmps113
  go_wp2
  generalize wrap64 (wrap64 (h * 6364136223846793005) + 1442695040888963407) = h1 at *
  obtain ⟨cc, hg1⟩ := c.set2 h1
  clear c c0 c1 c2 f1 f2
  generalize w.setCell ⟨k, 2, none⟩ (.int .i64 h1) = w1 at *
  have c0 := cc.c0
  have c1 := cc.c1
  have c2 := cc.c2
  have f1 := cc.f1
  have f2 := cc.f2
  have HC := hide cc
  have HG := hide hg1
  have i0 := cc.i0
  have i1 := cc.i1
  have ml := cc.ml
  unfold maxLen at ml
  clear cc hg1
  obtain ⟨j, rfl⟩ := Int.eq_ofNat_of_zero_le i0
  by_cases hlt : j < l.length
  · rcases HC.out.rd with hR | ⟨b, off, rfl, hbl, hcell⟩
    · subst hR; simp at hlt
    have hc := hcell j hlt
    have hb8 := HC.out.b8.get j
    generalize l.getD j 0 = y at *
    have hji : (j : Int) < (l.length : Int) := by omega
    clear hcell
    go_quiet (fail)
    go_wp2
    have hx := and255 (bits .xor .i64 (h1 / 8589934592) (h1 / 35184372088832))
    generalize bits .and .i64 (bits .xor .i64 (h1 / 8589934592) (h1 / 35184372088832)) 255 = x0 at *
    go_quiet (fail)
    go_wp2
    go_quiet (fail)
    go_wp2
    have hx2 := and255 (x0 + y)
    go_ret
    have hj1 : (j : Int) + 1 ≤ (l.length : Int) := by omega
    refine ⟨_, rfl, hx2.1, hx2.2, ?_, ?_⟩
    · exact ⟨_, _, _, _, _, (Cur.set1 (HC.out.drewN _) ((j : Int) + 1) (by omega) hj1).1⟩
    · exact grownBy_then (grownBy_drewN HG.out _) (Cur.set1 (HC.out.drewN _) ((j : Int) + 1) (by omega) hj1).2
  · have hji : ¬ (j : Int) < (l.length : Int) := by omega
    go_quiet (fail)
    go_wp2
    have hx := and255 (bits .xor .i64 (h1 / 8589934592) (h1 / 35184372088832))
    generalize bits .and .i64 (bits .xor .i64 (h1 / 8589934592) (h1 / 35184372088832)) 255 = x0 at *
    go_quiet (fail)
    go_wp2
    go_ret
    refine ⟨_, rfl, hx.1, hx.2, ?_, ?_⟩
    · exact ⟨_, _, _, _, _, (HC.out.drewN _).drewN _⟩
    · exact grownBy_drewN (grownBy_drewN HG.out _) _

set_option maxHeartbeats 1000000 in
theorem l1Below_any (k : Nat) (n : Int) (w : World) (hc : isCur k w) (h0 : 0 < n) (h1 : n ≤ 1073741824) :
    Calls Try.prog 62 #[.pointer (some ⟨k, 0, none⟩), .int .i64 n] w fun e w' => ∃ x : Int, e = .returned (.int .i64 x) ∧ 0 ≤ x ∧ x < n ∧ isCur k w' ∧ w.grownBy w' (some k) := by
  by_cases hn : n ≤ 256
  · go_enter Try.func62, Try.ntmps62
    go_wp2_with fail
    refine (l1Byte_any k _ hc).mono ?_
    rintro e w1 ⟨x, rfl, hx0, hx1, hc1, hg1⟩
    have HC := hide hc1
    have HG := hide hg1
    clear hc hc1 hg1
    go_wp2
    go_ret
    exact ⟨_, rfl, Int.emod_nonneg _ (by omega), Int.emod_lt_of_pos _ h0, HC.out, HG.out⟩
  · go_enter Try.func62, Try.ntmps62
    go_wp2_with fail
    refine (l1Byte_any k _ hc).mono ?_
    rintro e w1 ⟨x, rfl, hx0, hx1, hc1, hg1⟩
    go_wp2_with fail
    refine (l1Byte_any k _ hc1).mono ?_
    rintro e w2 ⟨y, rfl, hy0, hy1, hc2, hg2⟩
    go_wp2_with fail
    refine (l1Byte_any k _ hc2).mono ?_
    rintro e w3 ⟨z, rfl, hz0, hz1, hc3, hg3⟩
    go_wp2_with fail
    refine (l1Byte_any k _ hc3).mono ?_
    rintro e w4 ⟨t, rfl, ht0, ht1, hc4, hg4⟩
    have HC := hide hc4
    have HG := hide (grownBy_then (grownBy_then (grownBy_then hg1 hg2) hg3) hg4)
    clear hc hc1 hc2 hc3 hc4 hg1 hg2 hg3 hg4
    go_wp2
    go_ret
    exact ⟨_, rfl, Int.emod_nonneg _ (by omega), Int.emod_lt_of_pos _ h0, HC.out, HG.out⟩

theorem cur_new (o : Option Addr) (cap : Nat) (l : List Int) (n : Int) (w : World) (e : TypeId) (hR : Rd w o l) (hB8 : isB l) (hm : l.length ≤ maxLen) : isCur w.heap.size (w.alloc (.cells #[.slice o l.length cap, .int .i64 0, .int .i64 n] e)) :=
  ⟨o, cap, l, 0, n, ⟨by simp, by simp, by simp, by simp, by simp, hm, hR.toB.kept ((Below.refl w.heap.size w).alloc (Nat.le_refl _) _) (Nat.le_refl _), hB8, by omega, by omega⟩⟩

set_option maxRecDepth 100000 in
set_option maxHeartbeats 1000000 in
theorem l1New_any (o : Option Addr) (cap : Nat) (l : List Int) (w : World) (hR : Rd w o l) (hB8 : isB l) (hm : l.length ≤ maxLen) :
    Calls Try.prog 52 #[.slice o l.length cap] w fun e w' => e = .returned (.pointer (some ⟨w.heap.size, 0, none⟩)) ∧ isCur w.heap.size w' ∧ Below w.heap.size w w' ∧ w.heap.size < w'.heap.size := by
  have HM := hide hm
  unfold maxLen at hm
  go_enter Try.func52, Try.ntmps52
  go_wp2
  go_loop [3, 4] (fun h i => ∃ (n : Int) (j : Nat), j ≤ l.length ∧ i = .int .i64 j ∧ h = .int .i64 n)
    (fun _ i => l.length - (intOf i).toNat)
  case atStart => exact ⟨_, 0, Nat.zero_le _, rfl, rfl⟩
  case round =>
    obtain ⟨n, j, hj, rfl, rfl⟩ := hrel
    by_cases hlt : j < l.length
    · by_cases h4 : j < 4000
      · rcases hR with hR | ⟨b, off, rfl, hbl, hcell⟩
        · subst hR; simp at hlt
        have hc := hcell j hlt
        have b8 := hB8.get j
        generalize l.getD j 0 = y at *
        clear hcell
        go_wp2
        go_round
        case rel => exact ⟨_, j + 1, by omega, by go_num, rfl⟩
        case measure => simp [intOf]; omega
      · go_wp2
        go_ret
        exact ⟨rfl, cur_new o cap l _ w _ hR hB8 HM.out, (Below.refl _ _).alloc (Nat.le_refl _) _, by simp⟩
    · go_wp2
      go_ret
      exact ⟨rfl, cur_new o cap l _ w _ hR hB8 HM.out, (Below.refl _ _).alloc (Nat.le_refl _) _, by simp⟩

end Go.Proofs.Ytldjaapbkihibaa

/- 'append' of bytes onto a row of the call's own, whatever is appended: nil, empty, or read from memory. -/
namespace Go.Proofs.Ytldjaapbkihibaa
open Go.ChangeShapes Go.WideShapes Go.ChangeAt Go.RowKit Go.Joins
set_option linter.unusedVariables false
set_option linter.unusedSimpArgs false

theorem wpList_append_bytes {w : World} {ops : Array Oper} {rest : List Oper} {o : Oper} {a : Act} {Q : Exit → Act → World → Prop} (hgd : o.guard = none) (s x : Operand)
    (ho : o.op = .call { callee := .builtin .append, args := #[s, x], argTypes := #[22, 22] }) (base : Nat) (v : Value) (l0 : List Int) (hs : a.eval s = v) (hown : ownB w base v l0)
    (ob : Option Addr) (c : Nat) (l : List Int) (hx : a.eval x = .slice ob l.length c) (hnil : ob = none → c = 0) (hR : Rd w ob l) (hlen : l0.length + l.length ≤ 1099511627776) (hbase : base ≤ w.heap.size)
    (h : ∀ v' w', ownB w' base v' (l0 ++ l) → w.grownBy w' v.ownBlock → Below base w w' → wpList Try.prog ops Q rest (a.put o.dst v') w') : wpList Try.prog ops Q (o :: rest) a w := by
  obtain ⟨i0, hi, hz0, hz1, hz2⟩ := info_parts infoU8
  have hb : ∀ w', w.grownBy w' v.ownBlock → Below base w w' := fun w' hg => (Below.refl _ _).grown hg hbase (fun k e => (hown.lt k e).1)
  cases ob with
  | none =>
    have e := hR.nil
    subst e
    have hc := hnil rfl
    subst hc
    refine wpList_append_own_none hgd s x 22 ho base 5 i0 1 Try.underlying22 hi v _ _ hs hown hx ?_
    exact h v w (by simpa using hown) (World.grownBy.refl _ _) (Below.refl _ _)
  | some ad =>
    refine wpList_append_own _ hgd s x 22 ho base 5 i0 (.int .u8 0) 1 1 Try.underlying22 hi hz0 hz1 hz2 rfl (by decide) v _ _ hs hown ad l.length c (l.map (Value.int .u8)) hx (by simp) hR.news (ints_oneCell .u8 l) (by unfold maxLen; omega) (by omega) hbase ?_
    intro v' w' h1 h2 _
    exact h v' w' (by unfold ownB; simpa using h1) h2 (hb _ h2)

theorem wpList_append_bytes_m {w : World} {ops : Array Oper} {rest : List Oper} {o : Oper} {a : Act} {Q : Exit → Act → World → Prop} (hgd : o.guard = none) (s x : Operand)
    (ho : o.op = .call { callee := .builtin .append, args := #[s, x], argTypes := #[22, 22] }) (base : Nat) (v : Value) (l0 : List Int) (hs : a.eval s = v) (hown : ownB w base v l0)
    (ob : Option Addr) (c : Nat) (l : List Int) (m : Nat) (hm : m = l.length) (hx : a.eval x = .slice ob m c) (hnil : ob = none → c = 0) (hR : Rd w ob l) (hlen : l0.length + l.length ≤ 1099511627776) (hbase : base ≤ w.heap.size)
    (h : ∀ v' w', ownB w' base v' (l0 ++ l) → w.grownBy w' v.ownBlock → Below base w w' → wpList Try.prog ops Q rest (a.put o.dst v') w') : wpList Try.prog ops Q (o :: rest) a w := by
  subst hm
  exact wpList_append_bytes hgd s x ho base v l0 hs hown ob c l hx hnil hR hlen hbase h

/-- The same, as one step of a region that draws its order. -/
theorem step_append_bytes {ops : Array Oper} {o : Oper} {a : Act} {w : World} {K : Act → World → Prop} {Q : Exit → Act → World → Prop} {E : Prop} (hgd : o.guard = none) (s x : Operand)
    (ho : o.op = .call { callee := .builtin .append, args := #[s, x], argTypes := #[22, 22] }) (base : Nat) (v : Value) (l0 : List Int) (hs : a.eval s = v) (hown : ownB w base v l0)
    (ob : Option Addr) (c : Nat) (l : List Int) (m : Nat) (hm : m = l.length) (hx : a.eval x = .slice ob m c) (hnil : ob = none → c = 0) (hR : Rd w ob l) (hlen : l0.length + l.length ≤ 1099511627776) (hbase : base ≤ w.heap.size)
    (h : ∀ v' w', ownB w' base v' (l0 ++ l) → Below base w w' → K (a.put o.dst v') w') : if Region.wanted o (yielded ops a.tmps) = true then Oper.wp Try.prog o a w K Q else E := by
  subst hm
  have hw : Region.wanted o (yielded ops a.tmps) = true := by simp [Region.wanted, hgd]
  rw [if_pos hw]
  obtain ⟨i0, hi, hz0, hz1, hz2⟩ := info_parts infoU8
  have hb : ∀ w', w.grownBy w' v.ownBlock → Below base w w' := fun w' hg => (Below.refl _ _).grown hg hbase (fun k e => (hown.lt k e).1)
  cases ob with
  | none =>
    have e := hR.nil
    subst e
    have hc := hnil rfl
    subst hc
    have hrun := run_append_owned_none (P := Try.prog) (w := w) base 22 o.type 5 i0 1 Try.underlying22 hi v _ _ hown
    unfold Oper.wp
    simp [execOp, ho, resolve, invoke, builtin, hs, hx, hrun, Result.andThen]
    exact h v w (by simpa using hown) (Below.refl _ _)
  | some ad =>
    refine wp_append_own _ s x 22 ho base 5 i0 (.int .u8 0) 1 1 Try.underlying22 hi hz0 hz1 hz2 rfl (by decide) v _ _ hs hown ad l.length c (l.map (Value.int .u8)) hx (by simp) hR.news (ints_oneCell .u8 l) (by unfold maxLen; omega) (by omega) hbase ?_
    intro v' w' h1 h2 _
    exact h v' w' (by unfold ownB; simpa using h1) (hb _ h2)

end Go.Proofs.Ytldjaapbkihibaa

/- Draws of numbers out of a list, and of bytes. -/
namespace Go.Proofs.Ytldjaapbkihibaa
open Go.ChangeShapes Go.WideShapes Go.ChangeAt Go.RowKit Go.Joins
set_option linter.unusedVariables false
set_option linter.unusedSimpArgs false

theorem grown_cell {w w' : World} {k g o : Nat} (h : w.grownBy w' (some k)) (hg : g < w.heap.size) (hne : g ≠ k) : w'.cell? ⟨g, o, none⟩ = w.cell? ⟨g, o, none⟩ :=
  World.cell?_of_block (w := w) (h.block g hg (by simp [hne]))

set_option maxHeartbeats 1000000 in
theorem l1PickInt_any (k g : Nat) (vs : List Int) (w : World) (hc : isCur k w) (hg : g < w.heap.size) (hne : g ≠ k) (h0 : 0 < vs.length) (h1 : vs.length ≤ 1000) (hcell : ∀ q, q < vs.length → w.cell? ⟨g, q, none⟩ = some (.int .i64 (vs.getD q 0))) :
    Calls Try.prog 81 #[.pointer (some ⟨k, 0, none⟩), .slice (some ⟨g, 0, none⟩) vs.length vs.length] w fun e w' => ∃ q : Nat, q < vs.length ∧ e = .returned (.int .i64 (vs.getD q 0)) ∧ isCur k w' ∧ w.grownBy w' (some k) := by
  generalize hn : vs.length = n at *
  go_enter Try.func81, Try.ntmps81
  go_wp2_with fail
  refine (l1Below_any k (n : Int) _ hc (by omega) (by omega)).mono ?_
  rintro e w1 ⟨x, rfl, hx0, hx1, hc1, hg1⟩
  obtain ⟨q, rfl⟩ := Int.eq_ofNat_of_zero_le hx0
  have hq : q < n := by omega
  have c := (grown_cell hg1 hg hne).trans (hcell q hq)
  have HC := hide hc1
  have HG := hide hg1
  clear hc hc1 hg1 hcell
  generalize hy : vs.getD q 0 = y at *
  have HY := hide hy
  clear hy
  go_wp2
  go_ret
  exact ⟨q, hq, ret_int HY.out.symm, HC.out, HG.out⟩

theorem rd_one8 (w : World) (x : Int) (e : TypeId) : Rd (w.alloc (.cells #[.int .u8 x] e)) (some ⟨w.heap.size, 0, none⟩) [x] := by
  right
  refine ⟨w.heap.size, 0, rfl, by simp, fun i hi => ?_⟩
  have : i = 0 := by simpa using hi
  subst this
  simp
theorem own_other {w w' : World} {base k : Nat} {v : Value} {l : List Int} (h : ownB w base v l) (hg : w.grownBy w' (some k)) (hk : k < base) : ownB w' base v l :=
  h.kept hg (by
    cases hob : v.ownBlock with
    | none => exact .inl rfl
    | some j => right; have := (h.lt j hob).1; intro e; simp at e; omega)
theorem below_of_grown {w w' : World} {k : Nat} (h : w.grownBy w' (some k)) (hk : k < w.heap.size) : Below k w w' := (Below.refl _ _).grown h (Nat.le_of_lt hk) (fun j e => by cases e; exact Nat.le_refl _)
theorem isCur.below {k : Nat} {w w' : World} (h : isCur k w) (hb : Below (k + 1) w w') : isCur k w' := by
  obtain ⟨o, cap, l, i, hh, c⟩ := h
  exact ⟨o, cap, l, i, hh, ⟨(hb.cell (p := ⟨k, 0, none⟩) (Nat.lt_succ_self _)).trans c.c0, (hb.cell (p := ⟨k, 1, none⟩) (Nat.lt_succ_self _)).trans c.c1, (hb.cell (p := ⟨k, 2, none⟩) (Nat.lt_succ_self _)).trans c.c2,
    (hb.frozen (p := ⟨k, 1, none⟩) (Nat.lt_succ_self _)).trans c.f1, (hb.frozen (p := ⟨k, 2, none⟩) (Nat.lt_succ_self _)).trans c.f2, c.ml, c.rd.kept hb (Nat.le_succ _), c.b8, c.i0, c.i1⟩⟩

end Go.Proofs.Ytldjaapbkihibaa

/- The boxes of packets. -/
namespace Go.Proofs.Ytldjaapbkihibaa
open Go.ChangeShapes Go.WideShapes Go.ChangeAt Go.RowKit Go.Joins
set_option linter.unusedVariables false
set_option linter.unusedSimpArgs false

abbrev pkt (a b f s : Int) (v : Value) : Value := .agg #[.int .i64 a, .int .i64 b, .int .i64 f, .int .i64 s, v]

/-- The cells of a packet's box that are read. -/
def boxed (k : Nat) (a b f s : Int) (v : Value) (w : World) : Prop :=
  w.cell? ⟨k, 0, none⟩ = some (.int .i64 a) ∧ w.cell? ⟨k, 1, none⟩ = some (.int .i64 b) ∧ w.cell? ⟨k, 2, none⟩ = some (.int .i64 f) ∧ w.cell? ⟨k, 3, none⟩ = some (.int .i64 s) ∧ w.cell? ⟨k, 4, none⟩ = some v
theorem boxed.kept {k : Nat} {a b f s : Int} {v : Value} {w w' : World} {B : Nat} (h : boxed k a b f s v w) (hb : Below B w w') (hk : k < B) : boxed k a b f s v w' :=
  ⟨(hb.cell (p := ⟨k, 0, none⟩) hk).trans h.1, (hb.cell (p := ⟨k, 1, none⟩) hk).trans h.2.1, (hb.cell (p := ⟨k, 2, none⟩) hk).trans h.2.2.1, (hb.cell (p := ⟨k, 3, none⟩) hk).trans h.2.2.2.1, (hb.cell (p := ⟨k, 4, none⟩) hk).trans h.2.2.2.2⟩
theorem boxed_new (w : World) (a b f s : Int) (v : Value) (e : TypeId) : boxed w.heap.size a b f s v (w.alloc (.cells #[.int .i64 a, .int .i64 b, .int .i64 f, .int .i64 s, v] e)) := by
  unfold boxed; simp

/-- The box of a result that is not yet written. -/
def empty5 (k : Nat) (w : World) : Prop := boxed k 0 0 0 0 (.slice none 0 0) w ∧ (w.frozen? ⟨k, 0, none⟩ = false ∧ w.frozen? ⟨k, 1, none⟩ = false ∧ w.frozen? ⟨k, 2, none⟩ = false ∧ w.frozen? ⟨k, 3, none⟩ = false ∧ w.frozen? ⟨k, 4, none⟩ = false)
theorem empty5.kept {k : Nat} {w w' : World} {B : Nat} (h : empty5 k w) (hb : Below B w w') (hk : k < B) : empty5 k w' :=
  ⟨h.1.kept hb hk, (hb.frozen (p := ⟨k, 0, none⟩) hk).trans h.2.1, (hb.frozen (p := ⟨k, 1, none⟩) hk).trans h.2.2.1, (hb.frozen (p := ⟨k, 2, none⟩) hk).trans h.2.2.2.1, (hb.frozen (p := ⟨k, 3, none⟩) hk).trans h.2.2.2.2.1, (hb.frozen (p := ⟨k, 4, none⟩) hk).trans h.2.2.2.2.2⟩
theorem empty5_new (w : World) (e : TypeId) : empty5 w.heap.size (w.alloc (.cells #[.int .i64 0, .int .i64 0, .int .i64 0, .int .i64 0, .slice none 0 0] e)) := by
  unfold empty5 boxed; simp

/-- A cell far from a box that is written whole. -/
theorem far_box {w : World} {b k o : Nat} {u v0 v1 v2 v3 v4 : Value} (hne : b ≠ k) (h : w.cell? ⟨b, o, none⟩ = some u) :
    (((((w.setCell ⟨k, 0, none⟩ v0).setCell ⟨k, 1, none⟩ v1).setCell ⟨k, 2, none⟩ v2).setCell ⟨k, 3, none⟩ v3).setCell ⟨k, 4, none⟩ v4).cell? ⟨b, o, none⟩ = some u := by
  have e : ∀ (w : World) (q : Nat) (v : Value), (w.setCell ⟨k, q, none⟩ v).cell? ⟨b, o, none⟩ = w.cell? ⟨b, o, none⟩ := fun w q v =>
    World.cell?_of_block (w := w) (Below.heap_setCell w ⟨k, q, none⟩ v b hne)
  rw [e, e, e, e, e, h]

end Go.Proofs.Ytldjaapbkihibaa

/- Draws of flows and packets. -/
namespace Go.Proofs.Ytldjaapbkihibaa
open Go.ChangeShapes Go.WideShapes Go.ChangeAt Go.RowKit Go.Joins
set_option linter.unusedVariables false
set_option linter.unusedSimpArgs false

theorem isCur.alloc {k : Nat} {w : World} (h : isCur k w) (hk : k < w.heap.size) (o : Obj) : isCur k (w.alloc o) := h.below ((Below.refl _ _).alloc hk o)
theorem grown_alloc (w : World) (o : Obj) (k : Nat) : w.grownBy (w.alloc o) (some k) := World.grownBy_alloc w o (some k)

set_option maxHeartbeats 1000000 in
theorem l1Once_any (k : Nat) (n : Int) (w : World) (hc : isCur k w) (h0 : 0 < n) (h1 : n ≤ 1073741824) :
    Calls Try.prog 79 #[.pointer (some ⟨k, 0, none⟩), .int .i64 n] w fun e w' => ∃ x : Bool, e = .returned (.bool x) ∧ isCur k w' ∧ w.grownBy w' (some k) := by
  go_enter Try.func79, Try.ntmps79
  go_wp2_with fail
  refine (l1Below_any k n _ hc h0 h1).mono ?_
  rintro e w1 ⟨x, rfl, _, _, hc1, hg1⟩
  have HC := hide hc1
  have HG := hide hg1
  clear hc hc1 hg1
  go_wp2
  go_ret
  exact ⟨_, rfl, HC.out, HG.out⟩

end Go.Proofs.Ytldjaapbkihibaa

