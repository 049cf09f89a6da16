/- BacksOk on both sides. -/
import Derived.Deep.QuietTactic
import Derived.BigQuiet
import Derived.Test.YtmmhgkkcpjhiiaaDoorQPoolText04
namespace Go.Proofs.YtmmhgkkcpjhiiaaDoor
open Go.ChangeShapes Go.WideShapes Go.ChangeAt Go.RowKit Go.Joins
set_option linter.unusedVariables false
set_option linter.unusedSimpArgs false

def backB (i g : Int) : Bool := decide (0 ≤ i) && decide (i < 6) && decide (1 ≤ g) && decide (g ≤ 100)
theorem backB_iff {i g : Int} : backB i g = true ↔ 0 ≤ i ∧ i < 6 ∧ 1 ≤ g ∧ g ≤ 100 := by simp [backB, and_assoc]
/-- The element at i is as it should be, and above the one ahead of it. -/
def okAt (l : List Bk) (i : Nat) : Bool := backB (l.getD i (0, 0, false)).1 (l.getD i (0, 0, false)).2.1 && (decide (i = 0) || decide ((l.getD (i - 1) (0, 0, false)).1 < (l.getD i (0, 0, false)).1))
def okTo (l : List Bk) (k : Nat) : Prop := ∀ i, i < k → okAt l i = true
def backsOkB (l : List Bk) : Bool := (List.range l.length).all (okAt l)
theorem backsOkB_iff {l : List Bk} : backsOkB l = true ↔ okTo l l.length := by simp [backsOkB, okTo]
theorem okTo_succ {l : List Bk} {k : Nat} (h : okTo l k) (hk : okAt l k = true) : okTo l (k + 1) := fun i hi => by
 rcases Nat.lt_succ_iff_lt_or_eq.1 hi with h1 | h1
 ·exact h i h1
 ·rw [h1]; exact hk
theorem backsOkB_no {l : List Bk} {k : Nat} (hk : k < l.length) (h : okAt l k = false) : false = backsOkB l := by
 cases hb : backsOkB l with
 | false => rfl
 | true => rw [backsOkB_iff.1 hb k hk] at h; cases h
theorem okAt_zero {l : List Bk} {x y : Int} {z : Bool} (h : l.getD 0 (0, 0, false) = (x, y, z)) : okAt l 0 = backB x y := by simp only [okAt, h]; simp
theorem okAt_succ {l : List Bk} {k : Nat} {x y x' y' : Int} {z z' : Bool} (h : l.getD (k + 1) (0, 0, false) = (x, y, z)) (h' : l.getD k (0, 0, false) = (x', y', z')) : okAt l (k + 1) = (backB x y && decide (x' < x)) := by simp only [okAt, h, h', Nat.add_sub_cancel]; simp

set_option maxHeartbeats 1000000 in
theorem specBacksOk_any (o : Option Addr) (cap : Nat) (l : List Bk) (w : World) (hR : RdK w.heap.size w o l) (hlen : l.length ≤ 1048576) :
  Calls Tryd.prog 58 #[.slice o l.length cap] w fun e w' => e = .returned (.bool (backsOkB l)) ∧ Below w.heap.size w w' := by
 go_enter Tryd.func58, Tryd.ntmps58
 go_wp2
 go_loopw [3] (fun i wr => ∃ k : Nat, k ≤ l.length ∧ i = .int .i64 k ∧ okTo l k ∧ Below w.heap.size w wr)
  (fun i _ => l.length - (intOf i).toNat)
 case atStart => exact ⟨0, Nat.zero_le _, rfl, fun i hi => absurd hi (Nat.not_lt_zero _), Below.refl _ _⟩
 case round =>
  obtain ⟨k, hk, rfl, hok, hBr⟩ := hrel
  by_cases hlt : k < l.length
  ·rcases hR with hR | ⟨b, off, rfl, hbl, hcell⟩
   ·subst hR; simp at hlt
   obtain ⟨x, y, z, hxy⟩ : ∃ x y z, l.getD k (0, 0, false) = (x, y, z) := ⟨_, _, _, rfl⟩
   have hcx := RdL.back (C := w.heap.size) hcell k hlt
   rw [hxy] at hcx
   have hc0 : wr.cell? ⟨b, off + k * 3, none⟩ = some (.int .i64 x) := (hBr.cell (p := ⟨b, off + k * 3, none⟩) hbl).trans hcx.1
   have hc1 : wr.cell? ⟨b, off + k * 3 + 1, none⟩ = some (.int .i64 y) := (hBr.cell (p := ⟨b, off + k * 3 + 1, none⟩) hbl).trans hcx.2.1
   have HB := hide hBr
   have HO := hide hok
   have i1 : (k : Int) < (l.length : Int) := by omega
   clear hBr hok hcx
   rcases k with _ | j
   ·have HZ := hide (okAt_zero hxy)
    clear hcell hxy
    simp only [Nat.zero_mul, Nat.add_zero] at hc0 hc1
    by_cases h1 : x < 0
    ·have HN := hide (backsOkB_no hlt (HZ.out.trans (by simp [backB]; omega)))
     clear HZ HO
     go_wp2
     go_big_quiet (fail)
     go_wp2
     go_ret
     exact ⟨ret_bool HN.out, below_drewN HB.out _⟩
    ·have d1 : decide (x < 0) = false := decide_eq_false h1
     by_cases h2 : 6 ≤ x
     ·have HN := hide (backsOkB_no hlt (HZ.out.trans (by simp [backB]; omega)))
      clear HZ HO
      go_wp2
      go_big_quiet (fail)
      go_wp2
      go_ret
      exact ⟨ret_bool HN.out, below_drewN HB.out _⟩
     ·have d2 : decide (6 ≤ x) = false := decide_eq_false h2
      by_cases h3 : y < 1
      ·have HN := hide (backsOkB_no hlt (HZ.out.trans (by simp [backB]; omega)))
       clear HZ HO
       go_wp2
       go_big_quiet (fail)
       go_wp2
       go_ret
       exact ⟨ret_bool HN.out, below_drewN HB.out _⟩
      ·have d3 : decide (y < 1) = false := decide_eq_false h3
       by_cases h4 : 100 < y
       ·have HN := hide (backsOkB_no hlt (HZ.out.trans (by simp [backB]; omega)))
        clear HZ HO
        go_wp2
        go_big_quiet (fail)
        go_wp2
        go_ret
        exact ⟨ret_bool HN.out, below_drewN HB.out _⟩
       ·have d4 : decide (100 < y) = false := decide_eq_false h4
        have HY := hide (okTo_succ HO.out (HZ.out.trans (by simp [backB]; omega)))
        clear HZ HO
        go_wp2
        go_big_quiet (fail)
        go_wp2
        go_roundw
        case rel => exact ⟨1, by omega, by go_num, HY.out, below_drewN HB.out _⟩
        case measure => simp [intOf]; omega
   ·obtain ⟨x', y', z', hxy'⟩ : ∃ x y z, l.getD j (0, 0, false) = (x, y, z) := ⟨_, _, _, rfl⟩
    have hcx := RdL.back (C := w.heap.size) hcell j (by omega)
    rw [hxy'] at hcx
    have hc2 : wr.cell? ⟨b, off + j * 3, none⟩ = some (.int .i64 x') := (HB.out.cell (p := ⟨b, off + j * 3, none⟩) hbl).trans hcx.1
    have HZ := hide (okAt_succ hxy hxy')
    have i2 : (j : Int) < (l.length : Int) := by omega
    clear hcell hxy hxy' hcx
    by_cases h1 : x < 0
    ·have HN := hide (backsOkB_no hlt (HZ.out.trans (by simp [backB]; omega)))
     clear HZ HO
     go_wp2
     go_big_quiet (fail)
     go_wp2
     go_ret
     exact ⟨ret_bool HN.out, below_drewN HB.out _⟩
    ·have d1 : decide (x < 0) = false := decide_eq_false h1
     by_cases h2 : 6 ≤ x
     ·have HN := hide (backsOkB_no hlt (HZ.out.trans (by simp [backB]; omega)))
      clear HZ HO
      go_wp2
      go_big_quiet (fail)
      go_wp2
      go_ret
      exact ⟨ret_bool HN.out, below_drewN HB.out _⟩
     ·have d2 : decide (6 ≤ x) = false := decide_eq_false h2
      by_cases h3 : y < 1
      ·have HN := hide (backsOkB_no hlt (HZ.out.trans (by simp [backB]; omega)))
       clear HZ HO
       go_wp2
       go_big_quiet (fail)
       go_wp2
       go_ret
       exact ⟨ret_bool HN.out, below_drewN HB.out _⟩
      ·have d3 : decide (y < 1) = false := decide_eq_false h3
       by_cases h4 : 100 < y
       ·have HN := hide (backsOkB_no hlt (HZ.out.trans (by simp [backB]; omega)))
        clear HZ HO
        go_wp2
        go_big_quiet (fail)
        go_wp2
        go_ret
        exact ⟨ret_bool HN.out, below_drewN HB.out _⟩
       ·have d4 : decide (100 < y) = false := decide_eq_false h4
        by_cases h5 : x ≤ x'
        ·have HN := hide (backsOkB_no hlt (HZ.out.trans (by simp [backB]; omega)))
         clear HZ HO
         go_wp2
         go_big_quiet (fail)
         go_wp2
         go_ret
         exact ⟨ret_bool HN.out, below_drewN HB.out _⟩
        ·have d5 : decide (x ≤ x') = false := decide_eq_false h5
         have HY := hide (okTo_succ HO.out (HZ.out.trans (by simp [backB]; omega)))
         clear HZ HO
         go_wp2
         go_big_quiet (fail)
         go_wp2
         go_roundw
         case rel => exact ⟨j + 1 + 1, by omega, by go_num, HY.out, below_drewN HB.out _⟩
         case measure => simp [intOf]; omega
  ·have e : k = l.length := by omega
   subst e
   have HE := hide (backsOkB_iff.2 hok).symm
   go_wp2
   go_ret
   exact ⟨ret_bool HE.out, hBr⟩

end Go.Proofs.YtmmhgkkcpjhiiaaDoor

