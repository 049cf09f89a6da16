/- Several texts in one: SDraw, SSum. -/
import Derived.Deep.QuietTactic
import Derived.BigQuiet
import Derived.Test.YtoeoiljddcjphaaDoorQCarriers02
import Derived.Test.YtoeoiljddcjphaaDoorQCarriers03
/- The draws' cursor: what is asked of it and of a byte drawn. -/
namespace Go.Proofs.YtoeoiljddcjphaaDoor
open Go.ChangeShapes Go.WideShapes Go.ChangeAt Go.RowKit Go.Joins
set_option linter.unusedVariables false
set_option linter.unusedSimpArgs false

/-- Block k is a cursor over bytes that lie below it. -/
structure Cur (k : Nat) (w : World) (o : Option Addr) (cap : Nat) (l : List Int) (i h : Int) : Prop where
 c0 : w.cell? ⟨k, 0, none⟩ = some (.slice o l.length cap)
 c1 : w.cell? ⟨k, 1, none⟩ = some (.int .i64 i)
 c2 : w.cell? ⟨k, 2, none⟩ = some (.int .i64 h)
 f1 : w.frozen? ⟨k, 1, none⟩ = false
 f2 : w.frozen? ⟨k, 2, none⟩ = false
 ml : l.length ≤ maxLen
 rd : RdB k w o l
 b8 : isB l
 i0 : 0 ≤ i
 i1 : i ≤ l.length
def isCur (k : Nat) (w : World) : Prop := ∃ o cap l i h, Cur k w o cap l i h

theorem and255 (n : Int) : 0 ≤ bits .and .i64 n 255 ∧ bits .and .i64 n 255 ≤ 255 := by
 have h255 : (BitVec.ofInt 64 255).toNat = 2 ^ 8 - 1 := by decide
 have key : (BitVec.ofInt 64 n &&& BitVec.ofInt 64 255).toNat = (n % ((2 ^ 64 : Nat) : Int)).toNat % 2 ^ 8 := by
  rw [BitVec.toNat_and, BitVec.toNat_ofInt, h255, Nat.and_two_pow_sub_one_eq_mod]
 have e : bits .and .i64 n 255 = IntKind.i64.wrap ((BitVec.ofInt 64 n &&& BitVec.ofInt 64 255).toNat : Nat) := rfl
 rw [e, key, wrap_i64 _ (by omega) (by omega)]
 omega

/-- The cursor behind a store into one of its numbers. -/
theorem Cur.set2 {k : Nat} {w : World} {o : Option Addr} {cap : Nat} {l : List Int} {i h : Int} (c : Cur k w o cap l i h) (h' : Int) : Cur k (w.setCell ⟨k, 2, none⟩ (.int .i64 h')) o cap l i h' ∧ w.grownBy (w.setCell ⟨k, 2, none⟩ (.int .i64 h')) (some k) := by
 have hb : Below k w (w.setCell ⟨k, 2, none⟩ (.int .i64 h')) := Below.setCell (p := ⟨k, 2, none⟩) (Below.refl _ _) (Nat.le_refl _) _
 refine ⟨⟨?_, ?_, World.cell?_setCell_same w _ _ c.c2, ?_, ?_, c.ml, c.rd.kept hb (Nat.le_refl _), c.b8, c.i0, c.i1⟩, ?_⟩
 ·exact (World.cell?_setCell_other w _ _ _ (by simp)).trans c.c0
 ·exact (World.cell?_setCell_other w _ _ _ (by simp)).trans c.c1
 ·simpa using c.f1
 ·simpa using c.f2
 ·exact ⟨rfl, rfl, rfl, by simp, fun j _ hj => Below.heap_setCell w _ _ j (fun e => hj (by simp [e]))⟩
theorem Cur.set1 {k : Nat} {w : World} {o : Option Addr} {cap : Nat} {l : List Int} {i h : Int} (c : Cur k w o cap l i h) (i' : Int) (h0 : 0 ≤ i') (h1 : i' ≤ l.length) : Cur k (w.setCell ⟨k, 1, none⟩ (.int .i64 i')) o cap l i' h ∧ w.grownBy (w.setCell ⟨k, 1, none⟩ (.int .i64 i')) (some k) := by
 have hb : Below k w (w.setCell ⟨k, 1, none⟩ (.int .i64 i')) := Below.setCell (p := ⟨k, 1, none⟩) (Below.refl _ _) (Nat.le_refl _) _
 refine ⟨⟨?_, World.cell?_setCell_same w _ _ c.c1, ?_, ?_, ?_, c.ml, c.rd.kept hb (Nat.le_refl _), c.b8, h0, h1⟩, ?_⟩
 ·exact (World.cell?_setCell_other w _ _ _ (by simp)).trans c.c0
 ·exact (World.cell?_setCell_other w _ _ _ (by simp)).trans c.c2
 ·simpa using c.f1
 ·simpa using c.f2
 ·exact ⟨rfl, rfl, rfl, by simp, fun j _ hj => Below.heap_setCell w _ _ j (fun e => hj (by simp [e]))⟩
theorem Cur.drewN {k : Nat} {w : World} {o : Option Addr} {cap : Nat} {l : List Int} {i h : Int} (c : Cur k w o cap l i h) (n : Nat) : Cur k (w.drewN n) o cap l i h := ⟨c.c0, c.c1, c.c2, c.f1, c.f2, c.ml, c.rd, c.b8, c.i0, c.i1⟩

theorem grownBy_drewN {w w' : World} {r : Option Nat} (h : w.grownBy w' r) (n : Nat) : w.grownBy (w'.drewN n) r := ⟨h.os, h.tape, h.output, h.size, h.block⟩
theorem grownBy_then {a b c : World} {r : Option Nat} (h : a.grownBy b r) (k : b.grownBy c r) : a.grownBy c r :=
 ⟨k.os.trans h.os, k.tape.trans h.tape, k.output.trans h.output, Nat.le_trans h.size k.size, fun i hi hne => (k.block i (Nat.lt_of_lt_of_le hi h.size) hne).trans (h.block i hi hne)⟩

set_option maxHeartbeats 1000000 in
theorem l1Byte_any (k : Nat) (w : World) (hc : isCur k w) :
  Calls Tryd.prog 74 #[.pointer (some ⟨k, 0, none⟩)] w fun e w' => ∃ x : Int, e = .returned (.int .i64 x) ∧ 0 ≤ x ∧ x ≤ 255 ∧ isCur k w' ∧ w.grownBy w' (some k) := by
 obtain ⟨o, cap, l, i, h, c⟩ := hc
 have c0 := c.c0
 have c1 := c.c1
 have c2 := c.c2
 have f1 := c.f1
 have f2 := c.f2
 go_enter Tryd.func74, Tryd.ntmps74
 go_wp2
 generalize wrap64 (wrap64 (h * 6364136223846793005) + 1442695040888963407) = h1 at *
 obtain ⟨cc, hg1⟩ := c.set2 h1
 clear c c0 c1 c2 f1 f2
 generalize w.setCell ⟨k, 2, none⟩ (.int .i64 h1) = w1 at *
 have c0 := cc.c0
 have c1 := cc.c1
 have c2 := cc.c2
 have f1 := cc.f1
 have f2 := cc.f2
 have HC := hide cc
 have HG := hide hg1
 have i0 := cc.i0
 have i1 := cc.i1
 have ml := cc.ml
 unfold maxLen at ml
 clear cc hg1
 obtain ⟨j, rfl⟩ := Int.eq_ofNat_of_zero_le i0
 by_cases hlt : j < l.length
 ·rcases HC.out.rd with hR | ⟨b, off, rfl, hbl, hcell⟩
  ·subst hR; simp at hlt
  have hc := hcell j hlt
  have hb8 := HC.out.b8.get j
  generalize l.getD j 0 = y at *
  have hji : (j : Int) < (l.length : Int) := by omega
  clear hcell
  go_quiet (fail)
  go_wp2
  have hx := and255 (bits .xor .i64 (h1 / 8589934592) (h1 / 35184372088832))
  generalize bits .and .i64 (bits .xor .i64 (h1 / 8589934592) (h1 / 35184372088832)) 255 = x0 at *
  go_quiet (fail)
  go_wp2
  go_quiet (fail)
  go_wp2
  have hx2 := and255 (x0 + y)
  go_ret
  have hj1 : (j : Int) + 1 ≤ (l.length : Int) := by omega
  refine ⟨_, rfl, hx2.1, hx2.2, ?_, ?_⟩
  ·exact ⟨_, _, _, _, _, (Cur.set1 (HC.out.drewN _) ((j : Int) + 1) (by omega) hj1).1⟩
  ·exact grownBy_then (grownBy_drewN HG.out _) (Cur.set1 (HC.out.drewN _) ((j : Int) + 1) (by omega) hj1).2
 ·have hji : ¬ (j : Int) < (l.length : Int) := by omega
  go_quiet (fail)
  go_wp2
  have hx := and255 (bits .xor .i64 (h1 / 8589934592) (h1 / 35184372088832))
  generalize bits .and .i64 (bits .xor .i64 (h1 / 8589934592) (h1 / 35184372088832)) 255 = x0 at *
  go_quiet (fail)
  go_wp2
  go_ret
  refine ⟨_, rfl, hx.1, hx.2, ?_, ?_⟩
  ·exact ⟨_, _, _, _, _, (HC.out.drewN _).drewN _⟩
  ·exact grownBy_drewN (grownBy_drewN HG.out _) _

set_option maxHeartbeats 1000000 in
theorem l1Below_any (k : Nat) (n : Int) (w : World) (hc : isCur k w) (h0 : 0 < n) (h1 : n ≤ 1073741824) :
  Calls Tryd.prog 41 #[.pointer (some ⟨k, 0, none⟩), .int .i64 n] w fun e w' => ∃ x : Int, e = .returned (.int .i64 x) ∧ 0 ≤ x ∧ x < n ∧ isCur k w' ∧ w.grownBy w' (some k) := by
 by_cases hn : n ≤ 256
 ·go_enter Tryd.func41, Tryd.ntmps41
  go_wp2_with fail
  refine (l1Byte_any k _ hc).mono ?_
  rintro e w1 ⟨x, rfl, hx0, hx1, hc1, hg1⟩
  have HC := hide hc1
  have HG := hide hg1
  clear hc hc1 hg1
  go_wp2
  go_ret
  exact ⟨_, rfl, Int.emod_nonneg _ (by omega), Int.emod_lt_of_pos _ h0, HC.out, HG.out⟩
 ·go_enter Tryd.func41, Tryd.ntmps41
  go_wp2_with fail
  refine (l1Byte_any k _ hc).mono ?_
  rintro e w1 ⟨x, rfl, hx0, hx1, hc1, hg1⟩
  go_wp2_with fail
  refine (l1Byte_any k _ hc1).mono ?_
  rintro e w2 ⟨y, rfl, hy0, hy1, hc2, hg2⟩
  go_wp2_with fail
  refine (l1Byte_any k _ hc2).mono ?_
  rintro e w3 ⟨z, rfl, hz0, hz1, hc3, hg3⟩
  go_wp2_with fail
  refine (l1Byte_any k _ hc3).mono ?_
  rintro e w4 ⟨t, rfl, ht0, ht1, hc4, hg4⟩
  have HC := hide hc4
  have HG := hide (grownBy_then (grownBy_then (grownBy_then hg1 hg2) hg3) hg4)
  clear hc hc1 hc2 hc3 hc4 hg1 hg2 hg3 hg4
  go_wp2
  go_ret
  exact ⟨_, rfl, Int.emod_nonneg _ (by omega), Int.emod_lt_of_pos _ h0, HC.out, HG.out⟩

theorem cur_new (o : Option Addr) (cap : Nat) (l : List Int) (n : Int) (w : World) (e : TypeId) (hR : Rd w o l) (hB8 : isB l) (hm : l.length ≤ maxLen) : isCur w.heap.size (w.alloc (.cells #[.slice o l.length cap, .int .i64 0, .int .i64 n] e)) :=
 ⟨o, cap, l, 0, n, ⟨by simp, by simp, by simp, by simp, by simp, hm, hR.toB.kept ((Below.refl w.heap.size w).alloc (Nat.le_refl _) _) (Nat.le_refl _), hB8, by omega, by omega⟩⟩

set_option maxRecDepth 100000 in
set_option maxHeartbeats 1000000 in
theorem l1New_any (o : Option Addr) (cap : Nat) (l : List Int) (w : World) (hR : Rd w o l) (hB8 : isB l) (hm : l.length ≤ maxLen) :
  Calls Tryd.prog 24 #[.slice o l.length cap] w fun e w' => e = .returned (.pointer (some ⟨w.heap.size, 0, none⟩)) ∧ isCur w.heap.size w' ∧ Below w.heap.size w w' ∧ w.heap.size < w'.heap.size := by
 have HM := hide hm
 unfold maxLen at hm
 go_enter Tryd.func24, Tryd.ntmps24
 go_wp2
 go_loop [3, 4] (fun h i => ∃ (n : Int) (j : Nat), j ≤ l.length ∧ i = .int .i64 j ∧ h = .int .i64 n)
  (fun _ i => l.length - (intOf i).toNat)
 case atStart => exact ⟨_, 0, Nat.zero_le _, rfl, rfl⟩
 case round =>
  obtain ⟨n, j, hj, rfl, rfl⟩ := hrel
  by_cases hlt : j < l.length
  ·by_cases h4 : j < 4000
   ·rcases hR with hR | ⟨b, off, rfl, hbl, hcell⟩
    ·subst hR; simp at hlt
    have hc := hcell j hlt
    have b8 := hB8.get j
    generalize l.getD j 0 = y at *
    clear hcell
    go_wp2
    go_round
    case rel => exact ⟨_, j + 1, by omega, by go_num, rfl⟩
    case measure => simp [intOf]; omega
   ·go_wp2
    go_ret
    exact ⟨rfl, cur_new o cap l _ w _ hR hB8 HM.out, (Below.refl _ _).alloc (Nat.le_refl _) _, by simp⟩
  ·go_wp2
   go_ret
   exact ⟨rfl, cur_new o cap l _ w _ hR hB8 HM.out, (Below.refl _ _).alloc (Nat.le_refl _) _, by simp⟩

end Go.Proofs.YtoeoiljddcjphaaDoor

/- CheckSum on both sides: a plain function on lists of bytes, and the contracts. -/
namespace Go.Proofs.YtoeoiljddcjphaaDoor
open Go.ChangeShapes Go.WideShapes Go.ChangeAt Go.RowKit Go.Joins
set_option linter.unusedVariables false
set_option linter.unusedSimpArgs false

def pairLS (l : List Int) (i : Nat) : Int := l.getD i 0 * 256 + l.getD (i + 1) 0
def stepL (n x : Int) : Int := if 65535 < n + x then n + x - 65535 else n + x
def sumToS (l : List Int) : Nat → Int
 | 0 => 0
 | k + 1 => stepL (sumToS l k) (pairLS l (2 * k))
def checkL (l : List Int) : Int := 65535 - sumToS l ((l.length + 1) / 2)

def sumL (l : List Int) : Int := if 2000 < l.length then -1 else checkL l

theorem pairL_bd {l : List Int} (h : isB l) (i : Nat) : 0 ≤ pairLS l i ∧ pairLS l i ≤ 65535 := by
 have h1 := h.get i; have h2 := h.get (i + 1); unfold pairLS; omega
theorem sumTo_bd {l : List Int} (h : isB l) (k : Nat) : 0 ≤ sumToS l k ∧ sumToS l k ≤ 65535 := by
 induction k with
 | zero => simp [sumToS]
 | succ k ih => have := pairL_bd h (2 * k); unfold sumToS stepL; split <;> omega

set_option maxHeartbeats 1000000 in
theorem pairAt_any (o : Option Addr) (cap : Nat) (l : List Int) (i : Nat) (w : World) (hR : Rd w o l) (hB8 : isB l) (hlen : l.length ≤ 1048576) (hi : i < l.length) :
  Calls Tryd.prog 77 #[.slice o l.length cap, .int .i64 i] w fun e w' => e = .returned (.int .i64 (pairLS l i)) ∧ w = w' := by
 rcases hR with hR | ⟨b, off, rfl, hbl, hcell⟩
 ·subst hR; simp at hi
 have hc0 := hcell i hi
 have b0 := hB8.get i
 by_cases h1 : i + 1 < l.length
 ·have hc1 := hcell (i + 1) h1
  have b1 := hB8.get (i + 1)
  have e1 : off + (i + 1) = off + i + 1 := by omega
  rw [e1] at hc1
  have HP := hide (show l.getD i 0 * 256 + l.getD (i + 1) 0 = pairLS l i from rfl)
  clear hcell
  generalize l.getD i 0 = x at *
  generalize l.getD (i + 1) 0 = y at *
  have HO := hide (or_bytes x y b0 b1)
  go_enter Tryd.func77, Tryd.ntmps77
  go_wp2
  go_ret
  exact ⟨ret_int (HO.out.trans HP.out), rfl⟩
 ·have HP : Hid (l.getD i 0 * 256 = pairLS l i) := by
   have : l.getD (i + 1) 0 = 0 := by simp [List.getElem?_eq_none (Nat.le_of_not_lt h1)]
   unfold Hid pairLS; rw [this]; omega
  clear hcell
  generalize l.getD i 0 = x at *
  go_enter Tryd.func77, Tryd.ntmps77
  go_wp2
  go_ret
  exact ⟨ret_int HP.out, rfl⟩

theorem sumTo_yes (l : List Int) (j k : Nat) (hj : j = 2 * k) (h : 65535 < sumToS l k + pairLS l j) : sumToS l (k + 1) = sumToS l k + pairLS l j - 65535 := by subst hj; simp [sumToS, stepL, h]
theorem sumTo_no (l : List Int) (j k : Nat) (hj : j = 2 * k) (h : ¬ 65535 < sumToS l k + pairLS l j) : sumToS l (k + 1) = sumToS l k + pairLS l j := by subst hj; simp [sumToS, stepL, h]
theorem pairL_end (l : List Int) (j : Nat) (h : ¬ j + 1 < l.length) : pairLS l j = l.getD j 0 * 256 := by
 have : l.getD (j + 1) 0 = 0 := by simp [List.getElem?_eq_none (Nat.le_of_not_lt h)]
 unfold pairLS; rw [this]; omega
theorem sumTo_end (l : List Int) (j k : Nat) (hj : j = 2 * k) (h1 : j ≤ l.length + 1) (h2 : ¬ j < l.length) : 65535 - sumToS l k = checkL l := by
 have : k = (l.length + 1) / 2 := by omega
 rw [checkL, this]

set_option maxHeartbeats 2000000 in
theorem l1sum_any (o : Option Addr) (cap : Nat) (l : List Int) (w : World) (hR : Rd w o l) (hB8 : isB l) (hlen : l.length ≤ 1048576) :
  Calls Tryd.prog 89 #[.slice o l.length cap] w fun e w' => e = .returned (.int .i64 (checkL l)) ∧ w = w' := by
 go_enter Tryd.func89, Tryd.ntmps89
 go_wp2
 go_loop [3, 4, 5] (fun n i _ => ∃ j k : Nat, Hid (j = 2 * k) ∧ j ≤ l.length + 1 ∧ i = .int .i64 j ∧ n = .int .i64 (sumToS l k))
  (fun _ i _ => l.length + 1 - (intOf i).toNat)
 case atStart => exact ⟨0, 0, rfl, by omega, rfl, rfl⟩
 case round =>
  obtain ⟨j, k, hjk, hj, rfl, rfl⟩ := hrel
  have hs := sumTo_bd hB8 k
  by_cases hlt : j < l.length
  ·rcases hR with hR | ⟨b, off, rfl, hbl, hcell⟩
   ·subst hR; simp at hlt
   have hc0 := hcell j hlt
   have b0 := hB8.get j
   have hp := pairL_bd hB8 j
   have HY := hide (sumTo_yes l j k hjk.out)
   have HN := hide (sumTo_no l j k hjk.out)
   by_cases h1 : j + 1 < l.length
   ·have hc1 := hcell (j + 1) h1
    have b1 := hB8.get (j + 1)
    have hc1' := hc1
    rw [show off + (j + 1) = off + j + 1 by omega] at hc1'
    have HP := hide (show l.getD j 0 * 256 + l.getD (j + 1) 0 = pairLS l j from rfl)
    clear hcell
    generalize l.getD j 0 = x at *
    generalize l.getD (j + 1) 0 = y at *
    by_cases h2 : 65535 < sumToS l k + pairLS l j
    ·have h2' : 65535 < sumToS l k + (x * 256 + y) := by rw [HP.out]; exact h2
     have E := hide (show sumToS l k + (x * 256 + y) - 65535 = sumToS l (k + 1) by rw [HY.out h2, HP.out])
     clear h2 HY HN hp
     go_wp2
     go_round
     case rel => exact ⟨j + 2, k + 1, (by have := hjk.out; show j + 2 = 2 * (k + 1); omega), by omega, by go_num, by rw [← E.out]⟩
     case measure => simp [intOf]; omega
    ·have h2' : ¬ 65535 < sumToS l k + (x * 256 + y) := by rw [HP.out]; exact h2
     have E := hide (show sumToS l k + (x * 256 + y) = sumToS l (k + 1) by rw [HN.out h2, HP.out])
     clear h2 HY HN hp
     go_wp2
     go_round
     case rel => exact ⟨j + 2, k + 1, (by have := hjk.out; show j + 2 = 2 * (k + 1); omega), by omega, by go_num, by rw [← E.out]⟩
     case measure => simp [intOf]; omega
   ·have HP := hide (pairL_end l j h1).symm
    clear hcell
    generalize l.getD j 0 = x at *
    by_cases h2 : 65535 < sumToS l k + pairLS l j
    ·have h2' : 65535 < sumToS l k + x * 256 := by rw [HP.out]; exact h2
     have E := hide (show sumToS l k + x * 256 - 65535 = sumToS l (k + 1) by rw [HY.out h2, HP.out])
     clear h2 HY HN hp
     go_wp2
     go_round
     case rel => exact ⟨j + 2, k + 1, (by have := hjk.out; show j + 2 = 2 * (k + 1); omega), by omega, by go_num, by rw [← E.out]⟩
     case measure => simp [intOf]; omega
    ·have h2' : ¬ 65535 < sumToS l k + x * 256 := by rw [HP.out]; exact h2
     have E := hide (show sumToS l k + x * 256 = sumToS l (k + 1) by rw [HN.out h2, HP.out])
     clear h2 HY HN hp
     go_wp2
     go_round
     case rel => exact ⟨j + 2, k + 1, (by have := hjk.out; show j + 2 = 2 * (k + 1); omega), by omega, by go_num, by rw [← E.out]⟩
     case measure => simp [intOf]; omega
  ·have E := hide (sumTo_end l j k hjk.out hj hlt)
   go_wp2
   go_ret
   exact ⟨ret_int E.out, rfl⟩

set_option maxHeartbeats 2000000 in
theorem implCheckSum_any (o : Option Addr) (cap : Nat) (l : List Int) (w : World) (hR : Rd w o l) (hB8 : isB l) (hlen : l.length ≤ 1048576) :
  Calls Tryd.prog 43 #[.slice o l.length cap] w fun e w' => e = .returned (.int .i64 (sumL l)) ∧ w = w' := by
 by_cases h : 2000 < l.length
 ·rw [sumL, if_pos h]
  go_enter Tryd.func43, Tryd.ntmps43
  go_wp2
  go_ret
  exact ⟨rfl, rfl⟩
 ·rw [sumL, if_neg h]
  go_enter Tryd.func43, Tryd.ntmps43
  go_wp2
  go_loop [3, 4] (fun n i => ∃ j k : Nat, Hid (j = 2 * k) ∧ j ≤ l.length + 1 ∧ i = .int .i64 j ∧ n = .int .i64 (sumToS l k))
   (fun _ i => l.length + 1 - (intOf i).toNat)
  case atStart => exact ⟨0, 0, rfl, by omega, rfl, rfl⟩
  case round =>
   obtain ⟨j, k, hjk, hj, rfl, rfl⟩ := hrel
   have hs := sumTo_bd hB8 k
   by_cases hlt : j < l.length
   ·have hp := pairL_bd hB8 j
    by_cases h2 : 65535 < sumToS l k + pairLS l j
    ·have E := hide (sumTo_yes l j k hjk.out h2).symm
     go_wp2_with (go_at_call 77; refine (pairAt_any o cap l j _ hR hB8 hlen hlt).mono ?_; rintro e w1 ⟨rfl, rfl⟩)
     go_round
     case rel => exact ⟨j + 2, k + 1, (by have := hjk.out; show j + 2 = 2 * (k + 1); omega), by omega, by go_num, by rw [← E.out]⟩
     case measure => simp [intOf]; omega
    ·have E := hide (sumTo_no l j k hjk.out h2).symm
     go_wp2_with (go_at_call 77; refine (pairAt_any o cap l j _ hR hB8 hlen hlt).mono ?_; rintro e w1 ⟨rfl, rfl⟩)
     go_round
     case rel => exact ⟨j + 2, k + 1, (by have := hjk.out; show j + 2 = 2 * (k + 1); omega), by omega, by go_num, by rw [← E.out]⟩
     case measure => simp [intOf]; omega
   ·have E := hide (sumTo_end l j k hjk.out hj hlt)
    go_wp2
    go_ret
    exact ⟨ret_int E.out, rfl⟩

end Go.Proofs.YtoeoiljddcjphaaDoor

