/- Draws of flows and packets. -/
import Derived.Deep.RegionHeld3
import Derived.Test.YtoeoiljddcjphaaDoorQCarriers06
import Derived.Test.YtoeoiljddcjphaaDoorQCarriers02
namespace Go.Proofs.YtoeoiljddcjphaaDoor
open Go.ChangeShapes Go.WideShapes Go.ChangeAt Go.RowKit Go.Joins
set_option linter.unusedVariables false
set_option linter.unusedSimpArgs false

theorem isCur.alloc {k : Nat} {w : World} (h : isCur k w) (hk : k < w.heap.size) (o : Obj) : isCur k (w.alloc o) := h.below ((Below.refl _ _).alloc hk o)
theorem grown_alloc (w : World) (o : Obj) (k : Nat) : w.grownBy (w.alloc o) (some k) := World.grownBy_alloc w o (some k)

set_option maxHeartbeats 1000000 in
theorem l1Once_any (k : Nat) (n : Int) (w : World) (hc : isCur k w) (h0 : 0 < n) (h1 : n ≤ 1073741824) :
  Calls Tryd.prog 40 #[.pointer (some ⟨k, 0, none⟩), .int .i64 n] w fun e w' => ∃ x : Bool, e = .returned (.bool x) ∧ isCur k w' ∧ w.grownBy w' (some k) := by
 go_enter Tryd.func40, Tryd.ntmps40
 go_wp2_with fail
 refine (l1Below_any k n _ hc h0 h1).mono ?_
 rintro e w1 ⟨x, rfl, _, _, hc1, hg1⟩
 have HC := hide hc1
 have HG := hide hg1
 clear hc hc1 hg1
 go_wp2
 go_ret
 exact ⟨_, rfl, HC.out, HG.out⟩

set_option maxHeartbeats 1000000 in
theorem l1someFlow_any (k : Nat) (w : World) (hc : isCur k w) (hk : k < w.heap.size) :
  Calls Tryd.prog 90 #[.pointer (some ⟨k, 0, none⟩)] w fun e w' => ∃ a b : Int, e = .returned (.agg #[.int .i64 a, .int .i64 b]) ∧ (1 ≤ a ∧ a ≤ 3) ∧ (80 ≤ b ∧ b ≤ 82) ∧ isCur k w' ∧ w.grownBy w' (some k) := by
 have hca := hc.alloc hk (.cells #[.int .i64 0, .int .i64 0] 24)
 have e0 : (w.alloc (.cells #[.int .i64 0, .int .i64 0] 24)).cell? ⟨w.heap.size, 0, none⟩ = some (.int .i64 0) := by simp
 have e1 : (w.alloc (.cells #[.int .i64 0, .int .i64 0] 24)).cell? ⟨w.heap.size, 1, none⟩ = some (.int .i64 0) := by simp
 have f0 : (w.alloc (.cells #[.int .i64 0, .int .i64 0] 24)).frozen? ⟨w.heap.size, 0, none⟩ = false := by simp
 have f1 : (w.alloc (.cells #[.int .i64 0, .int .i64 0] 24)).frozen? ⟨w.heap.size, 1, none⟩ = false := by simp
 have hg0 := grown_alloc w (.cells #[.int .i64 0, .int .i64 0] 24) k
 go_enter Tryd.func90, Tryd.ntmps90
 go_wp2_with fail
 generalize hw0 : w.alloc (.cells #[.int .i64 0, .int .i64 0] 24) = w0 at *
 have hs0 : w.heap.size < w0.heap.size := by rw [← hw0]; simp
 clear hw0
 refine (l1Below_any k 3 _ hca (by omega) (by omega)).mono ?_
 rintro e w1 ⟨x, rfl, hx0, hx1, hc1, hg1⟩
 go_wp2_with fail
 refine (l1Below_any k 3 _ hc1 (by omega) (by omega)).mono ?_
 rintro e w2 ⟨y, rfl, hy0, hy1, hc2, hg2⟩
 have hg12 := grownBy_then hg1 hg2
 have d0 : w2.cell? ⟨w.heap.size, 0, none⟩ = some (.int .i64 0) := (grown_cell hg12 hs0 (by omega)).trans e0
 have d1 : w2.cell? ⟨w.heap.size, 1, none⟩ = some (.int .i64 0) := (grown_cell hg12 hs0 (by omega)).trans e1
 have g0 : w2.frozen? ⟨w.heap.size, 0, none⟩ = false := (World.frozen?_of_block (w := w0) (hg12.block w.heap.size hs0 (by simp; omega))).trans f0
 have g1 : w2.frozen? ⟨w.heap.size, 1, none⟩ = false := (World.frozen?_of_block (w := w0) (hg12.block w.heap.size hs0 (by simp; omega))).trans f1
 have HC := hide hc2
 have HG := hide (grownBy_then hg0 hg12)
 clear hc hca hc1 hc2 hg1 hg2 hg12 hg0 e0 e1 f0 f1
 go_wp2
 refine bodyPost_ret (v := .agg #[.int .i64 (1 + x), .int .i64 (80 + y)]) (by simp [results, Tryd.results90, go_sem, d0, d1]) rfl ⟨_, _, rfl, by omega, by omega, ?_, ?_⟩
 ·exact HC.out.below (Below.setCell (Below.setCell (Below.refl _ _) (by exact hk) _) (by exact hk) _)
 ·have hb := HG.out
  refine ⟨hb.os, hb.tape, hb.output, by simpa using hb.size, fun j hj hne => ?_⟩
  rw [Below.heap_setCell _ _ _ _ (by simp; omega), Below.heap_setCell _ _ _ _ (by simp; omega)]
  exact hb.block j hj hne

end Go.Proofs.YtoeoiljddcjphaaDoor

