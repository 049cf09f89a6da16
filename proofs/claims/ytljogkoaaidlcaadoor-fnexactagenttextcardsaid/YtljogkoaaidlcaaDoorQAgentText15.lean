/- FlowCmp on both sides: the model compares number by number; the program ranks flows in a map. -/
import Derived.Maps.OwnOps
import Derived.Maps.Views
import Derived.Deep.RegionHeld3
import Derived.Test.YtljogkoaaidlcaaDoorQAgentText01
namespace Go.Proofs.YtljogkoaaidlcaaDoor
open Go.ChangeShapes Go.WideShapes Go.ChangeAt Go.RowKit Go.Joins Go.Maps
set_option linter.unusedVariables false
set_option linter.unusedSimpArgs false

def cmpI (x y : Int) : Int := if x < y then -1 else if y < x then 1 else 0
def flowCmpI (a b c d : Int) : Int := if (flowOkB a b && flowOkB c d) = true then (if a = c then cmpI b d else cmpI a c) else 0

theorem cmpI_lt {x y : Int} (h : x < y) : cmpI x y = -1 := by simp [cmpI, h]
theorem cmpI_gt {x y : Int} (h : y < x) : cmpI x y = 1 := by unfold cmpI; rw [if_neg (by omega), if_pos h]
theorem cmpI_eq {x : Int} : cmpI x x = 0 := by simp [cmpI]
theorem rank_cmp (a b c d : Int) (h1 : flowOkB a b = true) (h2 : flowOkB c d = true) : cmpI (a * 65536 + b) (c * 65536 + d) = flowCmpI a b c d := by
 have q1 := flowOkB_iff.1 h1
 have q2 := flowOkB_iff.1 h2
 unfold flowCmpI
 rw [h1, h2]
 simp only [Bool.and_self, if_true]
 unfold cmpI
 by_cases e : a = c
 ·subst e
  simp
 ·rw [if_neg e]
  by_cases e2 : a < c
  ·rw [if_pos e2, if_pos (by omega)]
  ·rw [if_neg e2, if_pos (show c < a by omega), if_neg (by omega), if_pos (by omega)]

set_option maxHeartbeats 400000 in
theorem l1num_any (x y : Int) (w : World) : Calls Tryd.prog 39 #[.int .i64 x, .int .i64 y] w fun e w' => e = .returned (.int .i64 (cmpI x y)) ∧ w = w' := by
 rcases Int.lt_trichotomy x y with h | h | h
 ·have H := hide (cmpI_lt h).symm
  go_enter Tryd.func39, Tryd.ntmps39
  go_wp2
  go_ret
  exact ⟨ret_int H.out, rfl⟩
 ·subst h
  have H := hide (cmpI_eq (x := x)).symm
  go_enter Tryd.func39, Tryd.ntmps39
  go_wp2
  go_ret
  exact ⟨ret_int H.out, rfl⟩
 ·have H := hide (cmpI_gt h).symm
  go_enter Tryd.func39, Tryd.ntmps39
  go_wp2
  go_ret
  exact ⟨ret_int H.out, rfl⟩

set_option maxHeartbeats 400000 in
theorem compare_any (x y : Int) (w : World) : Calls Tryd.prog 51 #[.int .i64 x, .int .i64 y] w fun e w' => e = .returned (.int .i64 (cmpI x y)) ∧ w = w' := by
 have n1 : (x != x) = false := by simp
 have n2 : (y != y) = false := by simp
 rcases Int.lt_trichotomy x y with h | h | h
 ·have H := hide (cmpI_lt h).symm
  go_enter Tryd.func51, Tryd.ntmps51
  go_wp2
  go_ret
  exact ⟨ret_int H.out, rfl⟩
 ·subst h
  have H := hide (cmpI_eq (x := x)).symm
  go_enter Tryd.func51, Tryd.ntmps51
  go_wp2
  go_ret
  exact ⟨ret_int H.out, rfl⟩
 ·have H := hide (cmpI_gt h).symm
  go_enter Tryd.func51, Tryd.ntmps51
  go_wp2
  go_ret
  exact ⟨ret_int H.out, rfl⟩

set_option maxHeartbeats 400000 in
theorem l1cmp_any (a b c d : Int) (w : World) : Calls Tryd.prog 27 #[.agg #[.int .i64 a, .int .i64 b], .agg #[.int .i64 c, .int .i64 d]] w fun e w' => e = .returned (.int .i64 (if a = c then cmpI b d else cmpI a c)) ∧ Below w.heap.size w w' := by
 have hB : Below w.heap.size w w := Below.refl _ _
 by_cases h : a = c
 ·subst h
  rw [if_pos rfl]
  have hn : (a != a) = false := by simp
  go_enter Tryd.func27, Tryd.ntmps27
  go_wp2_with (go_at_call 39; refine (l1num_any _ _ _).mono ?_; rintro e w1 ⟨rfl, rfl⟩)
  go_ret
  exact ⟨rfl, by (repeat (first | with_reducible exact hB | with_reducible exact Below.refl _ _ | with_reducible refine Below.drew ?_ | with_reducible refine below_drewN ?_ _ | with_reducible refine Below.alloc ?_ ?_ _ | with_reducible refine Below.setCell ?_ ?_ _ | (focus (simp; done)) | (focus (simp; omega)) | omega))⟩
 ·rw [if_neg h]
  have hn : (a != c) = true := by simp [h]
  go_enter Tryd.func27, Tryd.ntmps27
  go_wp2_with (go_at_call 39; refine (l1num_any _ _ _).mono ?_; rintro e w1 ⟨rfl, rfl⟩)
  go_ret
  exact ⟨rfl, by (repeat (first | with_reducible exact hB | with_reducible exact Below.refl _ _ | with_reducible refine Below.drew ?_ | with_reducible refine below_drewN ?_ _ | with_reducible refine Below.alloc ?_ ?_ _ | with_reducible refine Below.setCell ?_ ?_ _ | (focus (simp; done)) | (focus (simp; omega)) | omega))⟩

theorem flowCmp_yes {a b c d : Int} (h1 : flowOkB a b = true) (h2 : flowOkB c d = true) : (if a = c then cmpI b d else cmpI a c) = flowCmpI a b c d := by simp [flowCmpI, h1, h2]

end Go.Proofs.YtljogkoaaidlcaaDoor

