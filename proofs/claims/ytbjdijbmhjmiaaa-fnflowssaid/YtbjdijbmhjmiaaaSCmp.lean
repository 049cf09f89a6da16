/- FlowCmp on both sides: the model compares number by number; the program ranks flows in a map. -/
import Derived.Test.YtbjdijbmhjmiaaaSFlow
import Derived.Maps.OwnOps
import Derived.Maps.Views
import Derived.Deep.RegionHeld3
namespace Go.Proofs.Ytbjdijbmhjmiaaa
open Go.ChangeShapes Go.WideShapes Go.ChangeAt Go.RowKit Go.Joins Go.Maps
set_option linter.unusedVariables false
set_option linter.unusedSimpArgs false

def cmpI (x y : Int) : Int := if x < y then -1 else if y < x then 1 else 0
def flowCmpI (a b c d : Int) : Int := if (flowOkB a b && flowOkB c d) = true then (if a = c then cmpI b d else cmpI a c) else 0

theorem cmpI_lt {x y : Int} (h : x < y) : cmpI x y = -1 := by simp [cmpI, h]
theorem cmpI_gt {x y : Int} (h : y < x) : cmpI x y = 1 := by unfold cmpI; rw [if_neg (by omega), if_pos h]
theorem cmpI_eq {x : Int} : cmpI x x = 0 := by simp [cmpI]
theorem rank_cmp (a b c d : Int) (h1 : flowOkB a b = true) (h2 : flowOkB c d = true) : cmpI (a * 65536 + b) (c * 65536 + d) = flowCmpI a b c d := by
  have q1 := flowOkB_iff.1 h1
  have q2 := flowOkB_iff.1 h2
  unfold flowCmpI
  rw [h1, h2]
  simp only [Bool.and_self, if_true]
  unfold cmpI
  by_cases e : a = c
  · subst e
    simp
  · rw [if_neg e]
    by_cases e2 : a < c
    · rw [if_pos e2, if_pos (by omega)]
    · rw [if_neg e2, if_pos (show c < a by omega), if_neg (by omega), if_pos (by omega)]

set_option maxHeartbeats 400000 in
theorem l1num_any (x y : Int) (w : World) : Calls Try.prog 73 #[.int .i64 x, .int .i64 y] w fun e w' => e = .returned (.int .i64 (cmpI x y)) ∧ w = w' := by
  rcases Int.lt_trichotomy x y with h | h | h
  · have H := hide (cmpI_lt h).symm
    go_enter Try.func73, Try.ntmps73
    go_wp2
    go_ret
    exact ⟨ret_int H.out, rfl⟩
  · subst h
    have H := hide (cmpI_eq (x := x)).symm
    go_enter Try.func73, Try.ntmps73
    go_wp2
    go_ret
    exact ⟨ret_int H.out, rfl⟩
  · have H := hide (cmpI_gt h).symm
    go_enter Try.func73, Try.ntmps73
    go_wp2
    go_ret
    exact ⟨ret_int H.out, rfl⟩

set_option maxHeartbeats 400000 in
theorem compare_any (x y : Int) (w : World) : Calls Try.prog 39 #[.int .i64 x, .int .i64 y] w fun e w' => e = .returned (.int .i64 (cmpI x y)) ∧ w = w' := by
  have n1 : (x != x) = false := by simp
  have n2 : (y != y) = false := by simp
  rcases Int.lt_trichotomy x y with h | h | h
  · have H := hide (cmpI_lt h).symm
    go_enter Try.func39, Try.ntmps39
    go_wp2
    go_ret
    exact ⟨ret_int H.out, rfl⟩
  · subst h
    have H := hide (cmpI_eq (x := x)).symm
    go_enter Try.func39, Try.ntmps39
    go_wp2
    go_ret
    exact ⟨ret_int H.out, rfl⟩
  · have H := hide (cmpI_gt h).symm
    go_enter Try.func39, Try.ntmps39
    go_wp2
    go_ret
    exact ⟨ret_int H.out, rfl⟩

set_option maxHeartbeats 400000 in
theorem l1cmp_any (a b c d : Int) (w : World) : Calls Try.prog 52 #[.agg #[.int .i64 a, .int .i64 b], .agg #[.int .i64 c, .int .i64 d]] w fun e w' => e = .returned (.int .i64 (if a = c then cmpI b d else cmpI a c)) ∧ Below w.heap.size w w' := by
  have hB : Below w.heap.size w w := Below.refl _ _
  by_cases h : a = c
  · subst h
    rw [if_pos rfl]
    have hn : (a != a) = false := by simp
    go_enter Try.func52, Try.ntmps52
    go_wp2_with (go_at_call 73; refine (l1num_any _ _ _).mono ?_; rintro e w1 ⟨rfl, rfl⟩)
    go_ret
    exact ⟨rfl, by (repeat (first | with_reducible exact hB | with_reducible exact Below.refl _ _ | with_reducible refine Below.drew ?_ | with_reducible refine below_drewN ?_ _ | with_reducible refine Below.alloc ?_ ?_ _ | with_reducible refine Below.setCell ?_ ?_ _ | (focus (simp; done)) | (focus (simp; omega)) | omega))⟩
  · rw [if_neg h]
    have hn : (a != c) = true := by simp [h]
    go_enter Try.func52, Try.ntmps52
    go_wp2_with (go_at_call 73; refine (l1num_any _ _ _).mono ?_; rintro e w1 ⟨rfl, rfl⟩)
    go_ret
    exact ⟨rfl, by (repeat (first | with_reducible exact hB | with_reducible exact Below.refl _ _ | with_reducible refine Below.drew ?_ | with_reducible refine below_drewN ?_ _ | with_reducible refine Below.alloc ?_ ?_ _ | with_reducible refine Below.setCell ?_ ?_ _ | (focus (simp; done)) | (focus (simp; omega)) | omega))⟩

theorem flowCmp_no1 {a b c d : Int} (h : flowOkB a b = false) : 0 = flowCmpI a b c d := by simp [flowCmpI, h]
theorem flowCmp_no2 {a b c d : Int} (h : flowOkB c d = false) : 0 = flowCmpI a b c d := by simp [flowCmpI, h]
theorem flowCmp_yes {a b c d : Int} (h1 : flowOkB a b = true) (h2 : flowOkB c d = true) : (if a = c then cmpI b d else cmpI a c) = flowCmpI a b c d := by simp [flowCmpI, h1, h2]

set_option maxHeartbeats 400000 in
theorem specFlowCmp_any (a b c d : Int) (w : World) : Calls Try.prog 26 #[.agg #[.int .i64 a, .int .i64 b], .agg #[.int .i64 c, .int .i64 d]] w fun e w' => e = .returned (.int .i64 (flowCmpI a b c d)) ∧ Below w.heap.size w w' := by
  have hB : Below w.heap.size w w := Below.refl _ _
  have k1 := hide (fun w => specFlowOk_any a b w)
  have k2 := hide (fun w => specFlowOk_any c d w)
  by_cases h1 : flowOkB a b = true
  · rw [h1] at k1
    by_cases h2 : flowOkB c d = true
    · rw [h2] at k2
      have H := hide (flowCmp_yes h1 h2)
      go_enter Try.func26, Try.ntmps26
      go_wp2_with fail; go_at_call 16; refine (k1.out _).mono ?_; rintro e w1a ⟨rfl, hba⟩; obtain ⟨hca, hfa⟩ := bcell hba; have hz0a : w.heap.size < w1a.heap.size := (by have hz := hba.size; (try simp at hz); omega); have hz1a : w.heap.size + 1 < w1a.heap.size := (by have hz := hba.size; (try simp at hz); omega); have hB : Below w.heap.size w w1a := (by refine Below.trans ?_ (hba.mono (by have hs := hB.size; (try simp) <;> omega)); (repeat (first | with_reducible exact hB | with_reducible exact Below.refl _ _ | with_reducible refine Below.drew ?_ | with_reducible refine below_drewN ?_ _ | with_reducible refine Below.alloc ?_ ?_ _ | with_reducible refine Below.setCell ?_ ?_ _ | (focus (simp; done)) | (focus (simp; omega)) | omega)))
      go_wp2_with fail; go_at_call 16; refine (k2.out _).mono ?_; rintro e w1b ⟨rfl, hbb⟩; obtain ⟨hcb, hfb⟩ := bcell hbb; have hz0b : w.heap.size < w1b.heap.size := (by have hz := hbb.size; (try simp at hz); omega); have hz1b : w.heap.size + 1 < w1b.heap.size := (by have hz := hbb.size; (try simp at hz); omega); have hB : Below w.heap.size w w1b := (by refine Below.trans ?_ (hbb.mono (by have hs := hB.size; (try simp) <;> omega)); (repeat (first | with_reducible exact hB | with_reducible exact Below.refl _ _ | with_reducible refine Below.drew ?_ | with_reducible refine below_drewN ?_ _ | with_reducible refine Below.alloc ?_ ?_ _ | with_reducible refine Below.setCell ?_ ?_ _ | (focus (simp; done)) | (focus (simp; omega)) | omega)))
      go_wp2_with fail; go_at_call 52; refine (l1cmp_any a b c d _).mono ?_; rintro e w1c ⟨rfl, hbc⟩; obtain ⟨hcc, hfc⟩ := bcell hbc; have hz0c : w.heap.size < w1c.heap.size := (by have hz := hbc.size; (try simp at hz); omega); have hz1c : w.heap.size + 1 < w1c.heap.size := (by have hz := hbc.size; (try simp at hz); omega); have hB : Below w.heap.size w w1c := (by refine Below.trans ?_ (hbc.mono (by have hs := hB.size; (try simp) <;> omega)); (repeat (first | with_reducible exact hB | with_reducible exact Below.refl _ _ | with_reducible refine Below.drew ?_ | with_reducible refine below_drewN ?_ _ | with_reducible refine Below.alloc ?_ ?_ _ | with_reducible refine Below.setCell ?_ ?_ _ | (focus (simp; done)) | (focus (simp; omega)) | omega)))
      rw [H.out]
      go_wp2
      go_ret
      exact ⟨rfl, by (repeat (first | with_reducible exact hB | with_reducible exact Below.refl _ _ | with_reducible refine Below.drew ?_ | with_reducible refine below_drewN ?_ _ | with_reducible refine Below.alloc ?_ ?_ _ | with_reducible refine Below.setCell ?_ ?_ _ | (focus (simp; done)) | (focus (simp; omega)) | omega))⟩
    · have h2' := Bool.eq_false_iff.2 h2
      rw [h2'] at k2
      have H := hide (flowCmp_no2 (a := a) (b := b) h2')
      go_enter Try.func26, Try.ntmps26
      go_wp2_with fail; go_at_call 16; refine (k1.out _).mono ?_; rintro e w1a ⟨rfl, hba⟩; obtain ⟨hca, hfa⟩ := bcell hba; have hz0a : w.heap.size < w1a.heap.size := (by have hz := hba.size; (try simp at hz); omega); have hz1a : w.heap.size + 1 < w1a.heap.size := (by have hz := hba.size; (try simp at hz); omega); have hB : Below w.heap.size w w1a := (by refine Below.trans ?_ (hba.mono (by have hs := hB.size; (try simp) <;> omega)); (repeat (first | with_reducible exact hB | with_reducible exact Below.refl _ _ | with_reducible refine Below.drew ?_ | with_reducible refine below_drewN ?_ _ | with_reducible refine Below.alloc ?_ ?_ _ | with_reducible refine Below.setCell ?_ ?_ _ | (focus (simp; done)) | (focus (simp; omega)) | omega)))
      go_wp2_with fail; go_at_call 16; refine (k2.out _).mono ?_; rintro e w1b ⟨rfl, hbb⟩; obtain ⟨hcb, hfb⟩ := bcell hbb; have hz0b : w.heap.size < w1b.heap.size := (by have hz := hbb.size; (try simp at hz); omega); have hz1b : w.heap.size + 1 < w1b.heap.size := (by have hz := hbb.size; (try simp at hz); omega); have hB : Below w.heap.size w w1b := (by refine Below.trans ?_ (hbb.mono (by have hs := hB.size; (try simp) <;> omega)); (repeat (first | with_reducible exact hB | with_reducible exact Below.refl _ _ | with_reducible refine Below.drew ?_ | with_reducible refine below_drewN ?_ _ | with_reducible refine Below.alloc ?_ ?_ _ | with_reducible refine Below.setCell ?_ ?_ _ | (focus (simp; done)) | (focus (simp; omega)) | omega)))
      go_wp2
      go_ret
      exact ⟨ret_int H.out, by (repeat (first | with_reducible exact hB | with_reducible exact Below.refl _ _ | with_reducible refine Below.drew ?_ | with_reducible refine below_drewN ?_ _ | with_reducible refine Below.alloc ?_ ?_ _ | with_reducible refine Below.setCell ?_ ?_ _ | (focus (simp; done)) | (focus (simp; omega)) | omega))⟩
  · have h1' := Bool.eq_false_iff.2 h1
    rw [h1'] at k1
    have H := hide (flowCmp_no1 (c := c) (d := d) h1')
    go_enter Try.func26, Try.ntmps26
    go_wp2_with fail; go_at_call 16; refine (k1.out _).mono ?_; rintro e w1a ⟨rfl, hba⟩; obtain ⟨hca, hfa⟩ := bcell hba; have hz0a : w.heap.size < w1a.heap.size := (by have hz := hba.size; (try simp at hz); omega); have hz1a : w.heap.size + 1 < w1a.heap.size := (by have hz := hba.size; (try simp at hz); omega); have hB : Below w.heap.size w w1a := (by refine Below.trans ?_ (hba.mono (by have hs := hB.size; (try simp) <;> omega)); (repeat (first | with_reducible exact hB | with_reducible exact Below.refl _ _ | with_reducible refine Below.drew ?_ | with_reducible refine below_drewN ?_ _ | with_reducible refine Below.alloc ?_ ?_ _ | with_reducible refine Below.setCell ?_ ?_ _ | (focus (simp; done)) | (focus (simp; omega)) | omega)))
    go_wp2
    go_ret
    exact ⟨ret_int H.out, by (repeat (first | with_reducible exact hB | with_reducible exact Below.refl _ _ | with_reducible refine Below.drew ?_ | with_reducible refine below_drewN ?_ _ | with_reducible refine Below.alloc ?_ ?_ _ | with_reducible refine Below.setCell ?_ ?_ _ | (focus (simp; done)) | (focus (simp; omega)) | omega))⟩

end Go.Proofs.Ytbjdijbmhjmiaaa
