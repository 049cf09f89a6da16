/- Several texts in one: ShA2, TableMath, SFlow. -/
import Derived.Test.YtmkgbmmibjgeaaaGreatGrShA
import Derived.RangeFuncRecord
import Derived.Test.YtmkgbmmibjgeaaaGreatGrShT
import Derived.Test.YtmkgbmmibjgeaaaGreatGrLFlow
/- The laws' own helpers over agents: their size, their copy, their comparison, marks and what is held. -/
namespace Go.Proofs.YtmkgbmmibjgeaaaGreat
open Go.ChangeShapes Go.WideShapes Go.ChangeAt Go.RowKit Go.Joins
set_option linter.unusedVariables false
set_option linter.unusedSimpArgs false

set_option maxHeartbeats 1000000 in
theorem szAgent_sh (v : Value) (m : Am) (C : Nat) (w : World) (hR : RdA C w v m) (hl : m.c.length ≤ maxLen) (hg : m.t.length ≤ maxLen) :
    Calls Tryz.prog 4 #[v, .int .i64 1048576] w fun e w' => (∃ n : Int, e = .returned (.int .i64 n) ∧ (m.c.length + m.t.length ≤ 1048576 → 0 ≤ n) ∧ (¬ m.c.length + m.t.length ≤ 1048576 → n < 0) ∧ -1 ≤ n ∧ n ≤ 1048576) ∧ Below w.heap.size w w' := by
  obtain ⟨vc, vt, rfl, ⟨oc, cc, rfl, rc⟩, ⟨ot, ct, rfl, rt⟩⟩ := hR
  obtain ⟨W0, hW0⟩ : ∃ W, (w.alloc (.cells #[.int .i64 m.id, .int .i64 m.lim, .bool m.dr, .slice oc m.c.length cc, .slice ot m.t.length ct] 26)) = W := ⟨_, rfl⟩
  have hb_W0 : Below w.heap.size w W0 := by rw [← hW0]; exact ((Below.refl _ _).alloc (Nat.le_refl _) _)
  have HB := hide hb_W0
  clear hb_W0
  have zz : w.heap.size < W0.heap.size := by rw [← hW0]; simp
  have z0 : W0.cell? ⟨w.heap.size, 0, none⟩ = some (.int .i64 m.id) := by rw [← hW0]; simp [go_sem]
  have z1 : W0.cell? ⟨w.heap.size, 1, none⟩ = some (.int .i64 m.lim) := by rw [← hW0]; simp [go_sem]
  have z2 : W0.cell? ⟨w.heap.size, 2, none⟩ = some (.bool m.dr) := by rw [← hW0]; simp [go_sem]
  have z3 : W0.cell? ⟨w.heap.size, 3, none⟩ = some (.slice oc m.c.length cc) := by rw [← hW0]; simp [go_sem]
  have z4 : W0.cell? ⟨w.heap.size, 4, none⟩ = some (.slice ot m.t.length ct) := by rw [← hW0]; simp [go_sem]
  have hs := szTable_n oc m.c.length cc 1048576 W0 hl (by decide) (by decide)
  by_cases h : (1048576 : Int) - m.c.length < 0
  · rw [if_pos h] at hs
    go_enter Tryz.func4, Tryz.ntmps4
    go_wp2_with fail
    refine (hs).mono ?_
    rintro e v1 ⟨rfl, hb⟩
    replace z0 : v1.cell? ⟨w.heap.size, 0, none⟩ = some (.int .i64 m.id) := (hb.cell (p := ⟨w.heap.size, 0, none⟩) zz).trans z0
    replace z1 : v1.cell? ⟨w.heap.size, 1, none⟩ = some (.int .i64 m.lim) := (hb.cell (p := ⟨w.heap.size, 1, none⟩) zz).trans z1
    replace z2 : v1.cell? ⟨w.heap.size, 2, none⟩ = some (.bool m.dr) := (hb.cell (p := ⟨w.heap.size, 2, none⟩) zz).trans z2
    replace z3 : v1.cell? ⟨w.heap.size, 3, none⟩ = some (.slice oc m.c.length cc) := (hb.cell (p := ⟨w.heap.size, 3, none⟩) zz).trans z3
    replace z4 : v1.cell? ⟨w.heap.size, 4, none⟩ = some (.slice ot m.t.length ct) := (hb.cell (p := ⟨w.heap.size, 4, none⟩) zz).trans z4
    replace zz : w.heap.size < v1.heap.size := Nat.lt_of_lt_of_le zz hb.size
    replace HB := hide (HB.out.trans (hb.mono HB.out.size))
    clear hb
    go_wp2
    go_ret
    exact ⟨⟨_, rfl, by omega, by omega, by omega, by omega⟩, HB.out⟩
  · rw [if_neg h] at hs
    have h0 : (0 : Int) ≤ 1048576 - (m.c.length : Int) := by omega
    have hs2 := fun W => szTable_n ot m.t.length ct (1048576 - m.c.length) W hg h0 (by omega)
    by_cases h2 : (1048576 : Int) - m.c.length - m.t.length < 0
    · rw [if_pos h2] at hs2
      go_enter Tryz.func4, Tryz.ntmps4
      go_wp2_with fail
      refine (hs).mono ?_
      rintro e v1 ⟨rfl, hb⟩
      replace z0 : v1.cell? ⟨w.heap.size, 0, none⟩ = some (.int .i64 m.id) := (hb.cell (p := ⟨w.heap.size, 0, none⟩) zz).trans z0
      replace z1 : v1.cell? ⟨w.heap.size, 1, none⟩ = some (.int .i64 m.lim) := (hb.cell (p := ⟨w.heap.size, 1, none⟩) zz).trans z1
      replace z2 : v1.cell? ⟨w.heap.size, 2, none⟩ = some (.bool m.dr) := (hb.cell (p := ⟨w.heap.size, 2, none⟩) zz).trans z2
      replace z3 : v1.cell? ⟨w.heap.size, 3, none⟩ = some (.slice oc m.c.length cc) := (hb.cell (p := ⟨w.heap.size, 3, none⟩) zz).trans z3
      replace z4 : v1.cell? ⟨w.heap.size, 4, none⟩ = some (.slice ot m.t.length ct) := (hb.cell (p := ⟨w.heap.size, 4, none⟩) zz).trans z4
      replace zz : w.heap.size < v1.heap.size := Nat.lt_of_lt_of_le zz hb.size
      replace HB := hide (HB.out.trans (hb.mono HB.out.size))
      clear hb
      go_wp2_with fail
      refine (hs2 _).mono ?_
      rintro e v2 ⟨rfl, hb⟩
      replace z0 : v2.cell? ⟨w.heap.size, 0, none⟩ = some (.int .i64 m.id) := (hb.cell (p := ⟨w.heap.size, 0, none⟩) zz).trans z0
      replace z1 : v2.cell? ⟨w.heap.size, 1, none⟩ = some (.int .i64 m.lim) := (hb.cell (p := ⟨w.heap.size, 1, none⟩) zz).trans z1
      replace z2 : v2.cell? ⟨w.heap.size, 2, none⟩ = some (.bool m.dr) := (hb.cell (p := ⟨w.heap.size, 2, none⟩) zz).trans z2
      replace z3 : v2.cell? ⟨w.heap.size, 3, none⟩ = some (.slice oc m.c.length cc) := (hb.cell (p := ⟨w.heap.size, 3, none⟩) zz).trans z3
      replace z4 : v2.cell? ⟨w.heap.size, 4, none⟩ = some (.slice ot m.t.length ct) := (hb.cell (p := ⟨w.heap.size, 4, none⟩) zz).trans z4
      replace zz : w.heap.size < v2.heap.size := Nat.lt_of_lt_of_le zz hb.size
      replace HB := hide (HB.out.trans (hb.mono HB.out.size))
      clear hb
      go_wp2
      go_ret
      exact ⟨⟨_, rfl, by omega, by omega, by omega, by omega⟩, HB.out⟩
    · rw [if_neg h2] at hs2
      go_enter Tryz.func4, Tryz.ntmps4
      have h3 : (0 : Int) ≤ 1048576 - (m.c.length : Int) - (m.t.length : Int) := by omega
      go_wp2_with fail
      refine (hs).mono ?_
      rintro e v1 ⟨rfl, hb⟩
      replace z0 : v1.cell? ⟨w.heap.size, 0, none⟩ = some (.int .i64 m.id) := (hb.cell (p := ⟨w.heap.size, 0, none⟩) zz).trans z0
      replace z1 : v1.cell? ⟨w.heap.size, 1, none⟩ = some (.int .i64 m.lim) := (hb.cell (p := ⟨w.heap.size, 1, none⟩) zz).trans z1
      replace z2 : v1.cell? ⟨w.heap.size, 2, none⟩ = some (.bool m.dr) := (hb.cell (p := ⟨w.heap.size, 2, none⟩) zz).trans z2
      replace z3 : v1.cell? ⟨w.heap.size, 3, none⟩ = some (.slice oc m.c.length cc) := (hb.cell (p := ⟨w.heap.size, 3, none⟩) zz).trans z3
      replace z4 : v1.cell? ⟨w.heap.size, 4, none⟩ = some (.slice ot m.t.length ct) := (hb.cell (p := ⟨w.heap.size, 4, none⟩) zz).trans z4
      replace zz : w.heap.size < v1.heap.size := Nat.lt_of_lt_of_le zz hb.size
      replace HB := hide (HB.out.trans (hb.mono HB.out.size))
      clear hb
      go_wp2_with fail
      refine (hs2 _).mono ?_
      rintro e v2 ⟨rfl, hb⟩
      replace z0 : v2.cell? ⟨w.heap.size, 0, none⟩ = some (.int .i64 m.id) := (hb.cell (p := ⟨w.heap.size, 0, none⟩) zz).trans z0
      replace z1 : v2.cell? ⟨w.heap.size, 1, none⟩ = some (.int .i64 m.lim) := (hb.cell (p := ⟨w.heap.size, 1, none⟩) zz).trans z1
      replace z2 : v2.cell? ⟨w.heap.size, 2, none⟩ = some (.bool m.dr) := (hb.cell (p := ⟨w.heap.size, 2, none⟩) zz).trans z2
      replace z3 : v2.cell? ⟨w.heap.size, 3, none⟩ = some (.slice oc m.c.length cc) := (hb.cell (p := ⟨w.heap.size, 3, none⟩) zz).trans z3
      replace z4 : v2.cell? ⟨w.heap.size, 4, none⟩ = some (.slice ot m.t.length ct) := (hb.cell (p := ⟨w.heap.size, 4, none⟩) zz).trans z4
      replace zz : w.heap.size < v2.heap.size := Nat.lt_of_lt_of_le zz hb.size
      replace HB := hide (HB.out.trans (hb.mono HB.out.size))
      clear hb
      go_wp2
      go_ret
      exact ⟨⟨_, rfl, by omega, by omega, by omega, by omega⟩, HB.out⟩

set_option maxHeartbeats 4000000 in
theorem toAgent_sh (v : Value) (m : Am) (w : World) (hR : RdA w.heap.size w v m) (hf : m.c.length + m.t.length ≤ 1048576) :
    Calls Tryz.prog 7 #[v] w fun e w' => ∃ v', e = .returned v' ∧ InA w.heap.size w'.heap.size w' v' m ∧ Below w.heap.size w w' := by
  obtain ⟨vc, vt, rfl, ⟨oc, cc, rfl, rc⟩, ⟨ot, ct, rfl, rt⟩⟩ := hR
  obtain ⟨W0, hW0⟩ : ∃ W, (((w.alloc (.cells #[.int .i64 m.id, .int .i64 m.lim, .bool m.dr, .slice oc m.c.length cc, .slice ot m.t.length ct] 26)).alloc (.cells #[.int .i64 0, .int .i64 0, .bool false, .slice none 0 0, .slice none 0 0] 41)).alloc (.cells #[.int .i64 0, .int .i64 0, .bool false, .slice none 0 0, .slice none 0 0] 41)) = W := ⟨_, rfl⟩
  have hb_W0 : Below w.heap.size w W0 := by rw [← hW0]; exact ((((Below.refl _ _).alloc (Nat.le_refl _) _).alloc (by simp <;> omega) _).alloc (by simp <;> omega) _)
  have HB := hide hb_W0
  clear hb_W0
  have zz : w.heap.size < W0.heap.size := by rw [← hW0]; simp <;> omega
  have z0 : W0.cell? ⟨w.heap.size, 0, none⟩ = some (.int .i64 m.id) := by rw [← hW0]; simp [go_sem]
  have z1 : W0.cell? ⟨w.heap.size, 1, none⟩ = some (.int .i64 m.lim) := by rw [← hW0]; simp [go_sem]
  have z2 : W0.cell? ⟨w.heap.size, 2, none⟩ = some (.bool m.dr) := by rw [← hW0]; simp [go_sem]
  have z3 : W0.cell? ⟨w.heap.size, 3, none⟩ = some (.slice oc m.c.length cc) := by rw [← hW0]; simp [go_sem]
  have z4 : W0.cell? ⟨w.heap.size, 4, none⟩ = some (.slice ot m.t.length ct) := by rw [← hW0]; simp [go_sem]
  have zr : w.heap.size + 1 < W0.heap.size := by rw [← hW0]; simp <;> omega
  have r0 : W0.cell? ⟨w.heap.size + 1, 0, none⟩ = some (.int .i64 0) := by rw [← hW0]; simp [go_sem]
  have r1 : W0.cell? ⟨w.heap.size + 1, 1, none⟩ = some (.int .i64 0) := by rw [← hW0]; simp [go_sem]
  have r2 : W0.cell? ⟨w.heap.size + 1, 2, none⟩ = some (.bool false) := by rw [← hW0]; simp [go_sem]
  have r3 : W0.cell? ⟨w.heap.size + 1, 3, none⟩ = some (.slice none 0 0) := by rw [← hW0]; simp [go_sem]
  have r4 : W0.cell? ⟨w.heap.size + 1, 4, none⟩ = some (.slice none 0 0) := by rw [← hW0]; simp [go_sem]
  have fr0 : W0.frozen? ⟨w.heap.size + 1, 0, none⟩ = false := by rw [← hW0]; simp [go_sem]
  have fr1 : W0.frozen? ⟨w.heap.size + 1, 1, none⟩ = false := by rw [← hW0]; simp [go_sem]
  have fr2 : W0.frozen? ⟨w.heap.size + 1, 2, none⟩ = false := by rw [← hW0]; simp [go_sem]
  have fr3 : W0.frozen? ⟨w.heap.size + 1, 3, none⟩ = false := by rw [← hW0]; simp [go_sem]
  have fr4 : W0.frozen? ⟨w.heap.size + 1, 4, none⟩ = false := by rw [← hW0]; simp [go_sem]
  have zo : w.heap.size + 1 + 1 < W0.heap.size := by rw [← hW0]; simp
  have o0 : W0.cell? ⟨w.heap.size + 1 + 1, 0, none⟩ = some (.int .i64 0) := by rw [← hW0]; simp [go_sem]
  have o1 : W0.cell? ⟨w.heap.size + 1 + 1, 1, none⟩ = some (.int .i64 0) := by rw [← hW0]; simp [go_sem]
  have o2 : W0.cell? ⟨w.heap.size + 1 + 1, 2, none⟩ = some (.bool false) := by rw [← hW0]; simp [go_sem]
  have o3 : W0.cell? ⟨w.heap.size + 1 + 1, 3, none⟩ = some (.slice none 0 0) := by rw [← hW0]; simp [go_sem]
  have o4 : W0.cell? ⟨w.heap.size + 1 + 1, 4, none⟩ = some (.slice none 0 0) := by rw [← hW0]; simp [go_sem]
  have fo0 : W0.frozen? ⟨w.heap.size + 1 + 1, 0, none⟩ = false := by rw [← hW0]; simp [go_sem]
  have fo1 : W0.frozen? ⟨w.heap.size + 1 + 1, 1, none⟩ = false := by rw [← hW0]; simp [go_sem]
  have fo2 : W0.frozen? ⟨w.heap.size + 1 + 1, 2, none⟩ = false := by rw [← hW0]; simp [go_sem]
  have fo3 : W0.frozen? ⟨w.heap.size + 1 + 1, 3, none⟩ = false := by rw [← hW0]; simp [go_sem]
  have fo4 : W0.frozen? ⟨w.heap.size + 1 + 1, 4, none⟩ = false := by rw [← hW0]; simp [go_sem]
  have rc' : ∀ W, Below w.heap.size w W → RdT W.heap.size W (tab (.slice oc m.c.length cc)) m.c := fun W h => ⟨_, rfl, oc, cc, rfl, (rc.kept h (Nat.le_refl _)).le h.size⟩
  have rt' : ∀ W, Below w.heap.size w W → RdT W.heap.size W (tab (.slice ot m.t.length ct)) m.t := fun W h => ⟨_, rfl, ot, ct, rfl, (rt.kept h (Nat.le_refl _)).le h.size⟩
  have HRC := hide rc'
  have HRT := hide rt'
  clear rc rt rc' rt'
  go_enter Tryz.func7, Tryz.ntmps7
  go_wp2_with fail
  obtain ⟨W1, hW1⟩ : ∃ W, (((W0.setCell ⟨w.heap.size + 1 + 1, 0, none⟩ (.int .i64 m.id)).setCell ⟨w.heap.size + 1 + 1, 1, none⟩ (.int .i64 m.lim)).setCell ⟨w.heap.size + 1 + 1, 2, none⟩ (.bool m.dr)) = W := ⟨_, rfl⟩
  have hq : Below (w.heap.size + 1 + 1) W0 W1 := by rw [← hW1]; exact ((((Below.refl _ _).setCell (p := ⟨w.heap.size + 1 + 1, 0, none⟩) (Nat.le_refl _) _).setCell (p := ⟨w.heap.size + 1 + 1, 1, none⟩) (Nat.le_refl _) _).setCell (p := ⟨w.heap.size + 1 + 1, 2, none⟩) (Nat.le_refl _) _)
  have hst : Stp (w.heap.size + 1 + 1) (w.heap.size + 1 + 1 + 1) W0 W1 := by rw [← hW1]; exact ((stp_set1 W0 (w.heap.size + 1 + 1) 0 _).trans (stp_set1 _ (w.heap.size + 1 + 1) 1 _)).trans (stp_set1 _ (w.heap.size + 1 + 1) 2 _)
  rw [hW1]
  have o0' : W1.cell? ⟨w.heap.size + 1 + 1, 0, none⟩ = some (.int .i64 m.id) := by rw [← hW1]; simp [go_sem, o0, o1, o2, o3, o4]
  have fo0' : W1.frozen? ⟨w.heap.size + 1 + 1, 0, none⟩ = false := by rw [← hW1]; simp [go_sem, fo0, fo1, fo2, fo3, fo4]
  have o1' : W1.cell? ⟨w.heap.size + 1 + 1, 1, none⟩ = some (.int .i64 m.lim) := by rw [← hW1]; simp [go_sem, o0, o1, o2, o3, o4]
  have fo1' : W1.frozen? ⟨w.heap.size + 1 + 1, 1, none⟩ = false := by rw [← hW1]; simp [go_sem, fo0, fo1, fo2, fo3, fo4]
  have o2' : W1.cell? ⟨w.heap.size + 1 + 1, 2, none⟩ = some (.bool m.dr) := by rw [← hW1]; simp [go_sem, o0, o1, o2, o3, o4]
  have fo2' : W1.frozen? ⟨w.heap.size + 1 + 1, 2, none⟩ = false := by rw [← hW1]; simp [go_sem, fo0, fo1, fo2, fo3, fo4]
  have o3' : W1.cell? ⟨w.heap.size + 1 + 1, 3, none⟩ = some (.slice none 0 0) := by rw [← hW1]; simp [go_sem, o0, o1, o2, o3, o4]
  have fo3' : W1.frozen? ⟨w.heap.size + 1 + 1, 3, none⟩ = false := by rw [← hW1]; simp [go_sem, fo0, fo1, fo2, fo3, fo4]
  have o4' : W1.cell? ⟨w.heap.size + 1 + 1, 4, none⟩ = some (.slice none 0 0) := by rw [← hW1]; simp [go_sem, o0, o1, o2, o3, o4]
  have fo4' : W1.frozen? ⟨w.heap.size + 1 + 1, 4, none⟩ = false := by rw [← hW1]; simp [go_sem, fo0, fo1, fo2, fo3, fo4]
  replace o0 := o0'
  replace fo0 := fo0'
  replace o1 := o1'
  replace fo1 := fo1'
  replace o2 := o2'
  replace fo2 := fo2'
  replace o3 := o3'
  replace fo3 := fo3'
  replace o4 := o4'
  replace fo4 := fo4'
  replace zo : w.heap.size + 1 + 1 < W1.heap.size := Nat.lt_of_lt_of_le zo hq.size
  replace z0 : W1.cell? ⟨w.heap.size, 0, none⟩ = some (.int .i64 m.id) := (hq.cell (p := ⟨w.heap.size, 0, none⟩) (show w.heap.size < w.heap.size + 1 + 1 by omega)).trans z0
  replace z1 : W1.cell? ⟨w.heap.size, 1, none⟩ = some (.int .i64 m.lim) := (hq.cell (p := ⟨w.heap.size, 1, none⟩) (show w.heap.size < w.heap.size + 1 + 1 by omega)).trans z1
  replace z2 : W1.cell? ⟨w.heap.size, 2, none⟩ = some (.bool m.dr) := (hq.cell (p := ⟨w.heap.size, 2, none⟩) (show w.heap.size < w.heap.size + 1 + 1 by omega)).trans z2
  replace z3 : W1.cell? ⟨w.heap.size, 3, none⟩ = some (.slice oc m.c.length cc) := (hq.cell (p := ⟨w.heap.size, 3, none⟩) (show w.heap.size < w.heap.size + 1 + 1 by omega)).trans z3
  replace z4 : W1.cell? ⟨w.heap.size, 4, none⟩ = some (.slice ot m.t.length ct) := (hq.cell (p := ⟨w.heap.size, 4, none⟩) (show w.heap.size < w.heap.size + 1 + 1 by omega)).trans z4
  replace zz : w.heap.size < W1.heap.size := Nat.lt_of_lt_of_le zz hq.size
  replace r0 : W1.cell? ⟨w.heap.size + 1, 0, none⟩ = some (.int .i64 0) := (hq.cell (p := ⟨w.heap.size + 1, 0, none⟩) (show w.heap.size + 1 < w.heap.size + 1 + 1 by omega)).trans r0
  replace r1 : W1.cell? ⟨w.heap.size + 1, 1, none⟩ = some (.int .i64 0) := (hq.cell (p := ⟨w.heap.size + 1, 1, none⟩) (show w.heap.size + 1 < w.heap.size + 1 + 1 by omega)).trans r1
  replace r2 : W1.cell? ⟨w.heap.size + 1, 2, none⟩ = some (.bool false) := (hq.cell (p := ⟨w.heap.size + 1, 2, none⟩) (show w.heap.size + 1 < w.heap.size + 1 + 1 by omega)).trans r2
  replace r3 : W1.cell? ⟨w.heap.size + 1, 3, none⟩ = some (.slice none 0 0) := (hq.cell (p := ⟨w.heap.size + 1, 3, none⟩) (show w.heap.size + 1 < w.heap.size + 1 + 1 by omega)).trans r3
  replace r4 : W1.cell? ⟨w.heap.size + 1, 4, none⟩ = some (.slice none 0 0) := (hq.cell (p := ⟨w.heap.size + 1, 4, none⟩) (show w.heap.size + 1 < w.heap.size + 1 + 1 by omega)).trans r4
  replace fr0 : W1.frozen? ⟨w.heap.size + 1, 0, none⟩ = false := (hq.frozen (p := ⟨w.heap.size + 1, 0, none⟩) (show w.heap.size + 1 < w.heap.size + 1 + 1 by omega)).trans fr0
  replace fr1 : W1.frozen? ⟨w.heap.size + 1, 1, none⟩ = false := (hq.frozen (p := ⟨w.heap.size + 1, 1, none⟩) (show w.heap.size + 1 < w.heap.size + 1 + 1 by omega)).trans fr1
  replace fr2 : W1.frozen? ⟨w.heap.size + 1, 2, none⟩ = false := (hq.frozen (p := ⟨w.heap.size + 1, 2, none⟩) (show w.heap.size + 1 < w.heap.size + 1 + 1 by omega)).trans fr2
  replace fr3 : W1.frozen? ⟨w.heap.size + 1, 3, none⟩ = false := (hq.frozen (p := ⟨w.heap.size + 1, 3, none⟩) (show w.heap.size + 1 < w.heap.size + 1 + 1 by omega)).trans fr3
  replace fr4 : W1.frozen? ⟨w.heap.size + 1, 4, none⟩ = false := (hq.frozen (p := ⟨w.heap.size + 1, 4, none⟩) (show w.heap.size + 1 < w.heap.size + 1 + 1 by omega)).trans fr4
  replace zr : w.heap.size + 1 < W1.heap.size := Nat.lt_of_lt_of_le zr hq.size
  replace HB := hide (HB.out.trans (hq.mono (by omega)))
  clear hq hst
  have hW1s : w.heap.size + 1 + 1 < W1.heap.size := zo
  refine (toTable_sh _ m.c W1 (HRC.out W1 HB.out) (by omega)).mono ?_
  rintro e v1 ⟨x1, rfl, hi1, hb⟩
  obtain ⟨y1, rfl, p1, c1, rfl, _⟩ := hi1.rd
  have HI := hide hi1
  have hs1 := hb.size
  clear hi1
  replace z0 : v1.cell? ⟨w.heap.size, 0, none⟩ = some (.int .i64 m.id) := (hb.cell (p := ⟨w.heap.size, 0, none⟩) zz).trans z0
  replace z1 : v1.cell? ⟨w.heap.size, 1, none⟩ = some (.int .i64 m.lim) := (hb.cell (p := ⟨w.heap.size, 1, none⟩) zz).trans z1
  replace z2 : v1.cell? ⟨w.heap.size, 2, none⟩ = some (.bool m.dr) := (hb.cell (p := ⟨w.heap.size, 2, none⟩) zz).trans z2
  replace z3 : v1.cell? ⟨w.heap.size, 3, none⟩ = some (.slice oc m.c.length cc) := (hb.cell (p := ⟨w.heap.size, 3, none⟩) zz).trans z3
  replace z4 : v1.cell? ⟨w.heap.size, 4, none⟩ = some (.slice ot m.t.length ct) := (hb.cell (p := ⟨w.heap.size, 4, none⟩) zz).trans z4
  replace zz : w.heap.size < v1.heap.size := Nat.lt_of_lt_of_le zz hb.size
  replace r0 : v1.cell? ⟨w.heap.size + 1, 0, none⟩ = some (.int .i64 0) := (hb.cell (p := ⟨w.heap.size + 1, 0, none⟩) zr).trans r0
  replace r1 : v1.cell? ⟨w.heap.size + 1, 1, none⟩ = some (.int .i64 0) := (hb.cell (p := ⟨w.heap.size + 1, 1, none⟩) zr).trans r1
  replace r2 : v1.cell? ⟨w.heap.size + 1, 2, none⟩ = some (.bool false) := (hb.cell (p := ⟨w.heap.size + 1, 2, none⟩) zr).trans r2
  replace r3 : v1.cell? ⟨w.heap.size + 1, 3, none⟩ = some (.slice none 0 0) := (hb.cell (p := ⟨w.heap.size + 1, 3, none⟩) zr).trans r3
  replace r4 : v1.cell? ⟨w.heap.size + 1, 4, none⟩ = some (.slice none 0 0) := (hb.cell (p := ⟨w.heap.size + 1, 4, none⟩) zr).trans r4
  replace fr0 : v1.frozen? ⟨w.heap.size + 1, 0, none⟩ = false := (hb.frozen (p := ⟨w.heap.size + 1, 0, none⟩) zr).trans fr0
  replace fr1 : v1.frozen? ⟨w.heap.size + 1, 1, none⟩ = false := (hb.frozen (p := ⟨w.heap.size + 1, 1, none⟩) zr).trans fr1
  replace fr2 : v1.frozen? ⟨w.heap.size + 1, 2, none⟩ = false := (hb.frozen (p := ⟨w.heap.size + 1, 2, none⟩) zr).trans fr2
  replace fr3 : v1.frozen? ⟨w.heap.size + 1, 3, none⟩ = false := (hb.frozen (p := ⟨w.heap.size + 1, 3, none⟩) zr).trans fr3
  replace fr4 : v1.frozen? ⟨w.heap.size + 1, 4, none⟩ = false := (hb.frozen (p := ⟨w.heap.size + 1, 4, none⟩) zr).trans fr4
  replace zr : w.heap.size + 1 < v1.heap.size := Nat.lt_of_lt_of_le zr hb.size
  replace o0 : v1.cell? ⟨w.heap.size + 1 + 1, 0, none⟩ = some (.int .i64 m.id) := (hb.cell (p := ⟨w.heap.size + 1 + 1, 0, none⟩) zo).trans o0
  replace o1 : v1.cell? ⟨w.heap.size + 1 + 1, 1, none⟩ = some (.int .i64 m.lim) := (hb.cell (p := ⟨w.heap.size + 1 + 1, 1, none⟩) zo).trans o1
  replace o2 : v1.cell? ⟨w.heap.size + 1 + 1, 2, none⟩ = some (.bool m.dr) := (hb.cell (p := ⟨w.heap.size + 1 + 1, 2, none⟩) zo).trans o2
  replace o3 : v1.cell? ⟨w.heap.size + 1 + 1, 3, none⟩ = some (.slice none 0 0) := (hb.cell (p := ⟨w.heap.size + 1 + 1, 3, none⟩) zo).trans o3
  replace o4 : v1.cell? ⟨w.heap.size + 1 + 1, 4, none⟩ = some (.slice none 0 0) := (hb.cell (p := ⟨w.heap.size + 1 + 1, 4, none⟩) zo).trans o4
  replace fo0 : v1.frozen? ⟨w.heap.size + 1 + 1, 0, none⟩ = false := (hb.frozen (p := ⟨w.heap.size + 1 + 1, 0, none⟩) zo).trans fo0
  replace fo1 : v1.frozen? ⟨w.heap.size + 1 + 1, 1, none⟩ = false := (hb.frozen (p := ⟨w.heap.size + 1 + 1, 1, none⟩) zo).trans fo1
  replace fo2 : v1.frozen? ⟨w.heap.size + 1 + 1, 2, none⟩ = false := (hb.frozen (p := ⟨w.heap.size + 1 + 1, 2, none⟩) zo).trans fo2
  replace fo3 : v1.frozen? ⟨w.heap.size + 1 + 1, 3, none⟩ = false := (hb.frozen (p := ⟨w.heap.size + 1 + 1, 3, none⟩) zo).trans fo3
  replace fo4 : v1.frozen? ⟨w.heap.size + 1 + 1, 4, none⟩ = false := (hb.frozen (p := ⟨w.heap.size + 1 + 1, 4, none⟩) zo).trans fo4
  replace zo : w.heap.size + 1 + 1 < v1.heap.size := Nat.lt_of_lt_of_le zo hb.size
  replace HB := hide (HB.out.trans (hb.mono HB.out.size))
  clear hb
  clear hW1 hW0
  go_wp2_with fail
  obtain ⟨W2, hW2⟩ : ∃ W, (v1.setCell ⟨w.heap.size + 1 + 1, 3, none⟩ (.slice p1 m.c.length c1)) = W := ⟨_, rfl⟩
  have hq : Below (w.heap.size + 1 + 1) v1 W2 := by rw [← hW2]; exact ((Below.refl _ _).setCell (p := ⟨w.heap.size + 1 + 1, 3, none⟩) (Nat.le_refl _) _)
  have hst : Stp (w.heap.size + 1 + 1) (w.heap.size + 1 + 1 + 1) v1 W2 := by rw [← hW2]; exact stp_set1 v1 (w.heap.size + 1 + 1) 3 _
  rw [hW2]
  have o0' : W2.cell? ⟨w.heap.size + 1 + 1, 0, none⟩ = some (.int .i64 m.id) := by rw [← hW2]; simp [go_sem, o0, o1, o2, o3, o4]
  have fo0' : W2.frozen? ⟨w.heap.size + 1 + 1, 0, none⟩ = false := by rw [← hW2]; simp [go_sem, fo0, fo1, fo2, fo3, fo4]
  have o1' : W2.cell? ⟨w.heap.size + 1 + 1, 1, none⟩ = some (.int .i64 m.lim) := by rw [← hW2]; simp [go_sem, o0, o1, o2, o3, o4]
  have fo1' : W2.frozen? ⟨w.heap.size + 1 + 1, 1, none⟩ = false := by rw [← hW2]; simp [go_sem, fo0, fo1, fo2, fo3, fo4]
  have o2' : W2.cell? ⟨w.heap.size + 1 + 1, 2, none⟩ = some (.bool m.dr) := by rw [← hW2]; simp [go_sem, o0, o1, o2, o3, o4]
  have fo2' : W2.frozen? ⟨w.heap.size + 1 + 1, 2, none⟩ = false := by rw [← hW2]; simp [go_sem, fo0, fo1, fo2, fo3, fo4]
  have o3' : W2.cell? ⟨w.heap.size + 1 + 1, 3, none⟩ = some (.slice p1 m.c.length c1) := by rw [← hW2]; simp [go_sem, o0, o1, o2, o3, o4]
  have fo3' : W2.frozen? ⟨w.heap.size + 1 + 1, 3, none⟩ = false := by rw [← hW2]; simp [go_sem, fo0, fo1, fo2, fo3, fo4]
  have o4' : W2.cell? ⟨w.heap.size + 1 + 1, 4, none⟩ = some (.slice none 0 0) := by rw [← hW2]; simp [go_sem, o0, o1, o2, o3, o4]
  have fo4' : W2.frozen? ⟨w.heap.size + 1 + 1, 4, none⟩ = false := by rw [← hW2]; simp [go_sem, fo0, fo1, fo2, fo3, fo4]
  replace o0 := o0'
  replace fo0 := fo0'
  replace o1 := o1'
  replace fo1 := fo1'
  replace o2 := o2'
  replace fo2 := fo2'
  replace o3 := o3'
  replace fo3 := fo3'
  replace o4 := o4'
  replace fo4 := fo4'
  replace zo : w.heap.size + 1 + 1 < W2.heap.size := Nat.lt_of_lt_of_le zo hq.size
  replace z0 : W2.cell? ⟨w.heap.size, 0, none⟩ = some (.int .i64 m.id) := (hq.cell (p := ⟨w.heap.size, 0, none⟩) (show w.heap.size < w.heap.size + 1 + 1 by omega)).trans z0
  replace z1 : W2.cell? ⟨w.heap.size, 1, none⟩ = some (.int .i64 m.lim) := (hq.cell (p := ⟨w.heap.size, 1, none⟩) (show w.heap.size < w.heap.size + 1 + 1 by omega)).trans z1
  replace z2 : W2.cell? ⟨w.heap.size, 2, none⟩ = some (.bool m.dr) := (hq.cell (p := ⟨w.heap.size, 2, none⟩) (show w.heap.size < w.heap.size + 1 + 1 by omega)).trans z2
  replace z3 : W2.cell? ⟨w.heap.size, 3, none⟩ = some (.slice oc m.c.length cc) := (hq.cell (p := ⟨w.heap.size, 3, none⟩) (show w.heap.size < w.heap.size + 1 + 1 by omega)).trans z3
  replace z4 : W2.cell? ⟨w.heap.size, 4, none⟩ = some (.slice ot m.t.length ct) := (hq.cell (p := ⟨w.heap.size, 4, none⟩) (show w.heap.size < w.heap.size + 1 + 1 by omega)).trans z4
  replace zz : w.heap.size < W2.heap.size := Nat.lt_of_lt_of_le zz hq.size
  replace r0 : W2.cell? ⟨w.heap.size + 1, 0, none⟩ = some (.int .i64 0) := (hq.cell (p := ⟨w.heap.size + 1, 0, none⟩) (show w.heap.size + 1 < w.heap.size + 1 + 1 by omega)).trans r0
  replace r1 : W2.cell? ⟨w.heap.size + 1, 1, none⟩ = some (.int .i64 0) := (hq.cell (p := ⟨w.heap.size + 1, 1, none⟩) (show w.heap.size + 1 < w.heap.size + 1 + 1 by omega)).trans r1
  replace r2 : W2.cell? ⟨w.heap.size + 1, 2, none⟩ = some (.bool false) := (hq.cell (p := ⟨w.heap.size + 1, 2, none⟩) (show w.heap.size + 1 < w.heap.size + 1 + 1 by omega)).trans r2
  replace r3 : W2.cell? ⟨w.heap.size + 1, 3, none⟩ = some (.slice none 0 0) := (hq.cell (p := ⟨w.heap.size + 1, 3, none⟩) (show w.heap.size + 1 < w.heap.size + 1 + 1 by omega)).trans r3
  replace r4 : W2.cell? ⟨w.heap.size + 1, 4, none⟩ = some (.slice none 0 0) := (hq.cell (p := ⟨w.heap.size + 1, 4, none⟩) (show w.heap.size + 1 < w.heap.size + 1 + 1 by omega)).trans r4
  replace fr0 : W2.frozen? ⟨w.heap.size + 1, 0, none⟩ = false := (hq.frozen (p := ⟨w.heap.size + 1, 0, none⟩) (show w.heap.size + 1 < w.heap.size + 1 + 1 by omega)).trans fr0
  replace fr1 : W2.frozen? ⟨w.heap.size + 1, 1, none⟩ = false := (hq.frozen (p := ⟨w.heap.size + 1, 1, none⟩) (show w.heap.size + 1 < w.heap.size + 1 + 1 by omega)).trans fr1
  replace fr2 : W2.frozen? ⟨w.heap.size + 1, 2, none⟩ = false := (hq.frozen (p := ⟨w.heap.size + 1, 2, none⟩) (show w.heap.size + 1 < w.heap.size + 1 + 1 by omega)).trans fr2
  replace fr3 : W2.frozen? ⟨w.heap.size + 1, 3, none⟩ = false := (hq.frozen (p := ⟨w.heap.size + 1, 3, none⟩) (show w.heap.size + 1 < w.heap.size + 1 + 1 by omega)).trans fr3
  replace fr4 : W2.frozen? ⟨w.heap.size + 1, 4, none⟩ = false := (hq.frozen (p := ⟨w.heap.size + 1, 4, none⟩) (show w.heap.size + 1 < w.heap.size + 1 + 1 by omega)).trans fr4
  replace zr : w.heap.size + 1 < W2.heap.size := Nat.lt_of_lt_of_le zr hq.size
  replace HI := hide (HI.out.step hst (.inl (by omega)))
  have hs2 : W1.heap.size ≤ W2.heap.size := by have := hq.size; omega
  have hs3 : v1.heap.size ≤ W2.heap.size := hq.size
  replace HB := hide (HB.out.trans (hq.mono (by omega)))
  clear hq hst
  refine (toTable_sh _ m.t W2 (HRT.out W2 HB.out) (by omega)).mono ?_
  rintro e v2 ⟨x2, rfl, hi2, hb⟩
  obtain ⟨y2, rfl, p2, c2, rfl, _⟩ := hi2.rd
  have HJ := hide hi2
  have hs4 := hb.size
  replace HI := hide (HI.out.step (Stp.of (lo := 0) (hi := 0) hb) (.inl (Nat.zero_le _)))
  clear hi2
  replace z0 : v2.cell? ⟨w.heap.size, 0, none⟩ = some (.int .i64 m.id) := (hb.cell (p := ⟨w.heap.size, 0, none⟩) zz).trans z0
  replace z1 : v2.cell? ⟨w.heap.size, 1, none⟩ = some (.int .i64 m.lim) := (hb.cell (p := ⟨w.heap.size, 1, none⟩) zz).trans z1
  replace z2 : v2.cell? ⟨w.heap.size, 2, none⟩ = some (.bool m.dr) := (hb.cell (p := ⟨w.heap.size, 2, none⟩) zz).trans z2
  replace z3 : v2.cell? ⟨w.heap.size, 3, none⟩ = some (.slice oc m.c.length cc) := (hb.cell (p := ⟨w.heap.size, 3, none⟩) zz).trans z3
  replace z4 : v2.cell? ⟨w.heap.size, 4, none⟩ = some (.slice ot m.t.length ct) := (hb.cell (p := ⟨w.heap.size, 4, none⟩) zz).trans z4
  replace zz : w.heap.size < v2.heap.size := Nat.lt_of_lt_of_le zz hb.size
  replace r0 : v2.cell? ⟨w.heap.size + 1, 0, none⟩ = some (.int .i64 0) := (hb.cell (p := ⟨w.heap.size + 1, 0, none⟩) zr).trans r0
  replace r1 : v2.cell? ⟨w.heap.size + 1, 1, none⟩ = some (.int .i64 0) := (hb.cell (p := ⟨w.heap.size + 1, 1, none⟩) zr).trans r1
  replace r2 : v2.cell? ⟨w.heap.size + 1, 2, none⟩ = some (.bool false) := (hb.cell (p := ⟨w.heap.size + 1, 2, none⟩) zr).trans r2
  replace r3 : v2.cell? ⟨w.heap.size + 1, 3, none⟩ = some (.slice none 0 0) := (hb.cell (p := ⟨w.heap.size + 1, 3, none⟩) zr).trans r3
  replace r4 : v2.cell? ⟨w.heap.size + 1, 4, none⟩ = some (.slice none 0 0) := (hb.cell (p := ⟨w.heap.size + 1, 4, none⟩) zr).trans r4
  replace fr0 : v2.frozen? ⟨w.heap.size + 1, 0, none⟩ = false := (hb.frozen (p := ⟨w.heap.size + 1, 0, none⟩) zr).trans fr0
  replace fr1 : v2.frozen? ⟨w.heap.size + 1, 1, none⟩ = false := (hb.frozen (p := ⟨w.heap.size + 1, 1, none⟩) zr).trans fr1
  replace fr2 : v2.frozen? ⟨w.heap.size + 1, 2, none⟩ = false := (hb.frozen (p := ⟨w.heap.size + 1, 2, none⟩) zr).trans fr2
  replace fr3 : v2.frozen? ⟨w.heap.size + 1, 3, none⟩ = false := (hb.frozen (p := ⟨w.heap.size + 1, 3, none⟩) zr).trans fr3
  replace fr4 : v2.frozen? ⟨w.heap.size + 1, 4, none⟩ = false := (hb.frozen (p := ⟨w.heap.size + 1, 4, none⟩) zr).trans fr4
  replace zr : w.heap.size + 1 < v2.heap.size := Nat.lt_of_lt_of_le zr hb.size
  replace o0 : v2.cell? ⟨w.heap.size + 1 + 1, 0, none⟩ = some (.int .i64 m.id) := (hb.cell (p := ⟨w.heap.size + 1 + 1, 0, none⟩) zo).trans o0
  replace o1 : v2.cell? ⟨w.heap.size + 1 + 1, 1, none⟩ = some (.int .i64 m.lim) := (hb.cell (p := ⟨w.heap.size + 1 + 1, 1, none⟩) zo).trans o1
  replace o2 : v2.cell? ⟨w.heap.size + 1 + 1, 2, none⟩ = some (.bool m.dr) := (hb.cell (p := ⟨w.heap.size + 1 + 1, 2, none⟩) zo).trans o2
  replace o3 : v2.cell? ⟨w.heap.size + 1 + 1, 3, none⟩ = some (.slice p1 m.c.length c1) := (hb.cell (p := ⟨w.heap.size + 1 + 1, 3, none⟩) zo).trans o3
  replace o4 : v2.cell? ⟨w.heap.size + 1 + 1, 4, none⟩ = some (.slice none 0 0) := (hb.cell (p := ⟨w.heap.size + 1 + 1, 4, none⟩) zo).trans o4
  replace fo0 : v2.frozen? ⟨w.heap.size + 1 + 1, 0, none⟩ = false := (hb.frozen (p := ⟨w.heap.size + 1 + 1, 0, none⟩) zo).trans fo0
  replace fo1 : v2.frozen? ⟨w.heap.size + 1 + 1, 1, none⟩ = false := (hb.frozen (p := ⟨w.heap.size + 1 + 1, 1, none⟩) zo).trans fo1
  replace fo2 : v2.frozen? ⟨w.heap.size + 1 + 1, 2, none⟩ = false := (hb.frozen (p := ⟨w.heap.size + 1 + 1, 2, none⟩) zo).trans fo2
  replace fo3 : v2.frozen? ⟨w.heap.size + 1 + 1, 3, none⟩ = false := (hb.frozen (p := ⟨w.heap.size + 1 + 1, 3, none⟩) zo).trans fo3
  replace fo4 : v2.frozen? ⟨w.heap.size + 1 + 1, 4, none⟩ = false := (hb.frozen (p := ⟨w.heap.size + 1 + 1, 4, none⟩) zo).trans fo4
  replace zo : w.heap.size + 1 + 1 < v2.heap.size := Nat.lt_of_lt_of_le zo hb.size
  replace HB := hide (HB.out.trans (hb.mono HB.out.size))
  clear hb
  clear hW2
  go_wp2
  refine bodyPost_ret (v := agt m.id m.lim m.dr (.slice p1 m.c.length c1) (.slice p2 m.t.length c2)) (by simp [results, Tryz.results7, go_sem, r0, r1, r2, r3, r4]) rfl ⟨_, rfl, ?_, ?_⟩
  · have a1 := (HI.out.step (stp_set1 v2 (w.heap.size + 1 + 1) 4 (.slice p2 m.t.length c2)) (.inl (by omega))).step (stp_set5v _ (w.heap.size + 1) (.int .i64 m.id) (.int .i64 m.lim) (.bool m.dr) (.slice p1 m.c.length c1) (.slice p2 m.t.length c2)) (.inl (by omega))
    have a2 := (HJ.out.step (stp_set1 v2 (w.heap.size + 1 + 1) 4 (.slice p2 m.t.length c2)) (.inl (by omega))).step (stp_set5v _ (w.heap.size + 1) (.int .i64 m.id) (.int .i64 m.lim) (.bool m.dr) (.slice p1 m.c.length c1) (.slice p2 m.t.length c2)) (.inl (by omega))
    exact ⟨_, _, W2.heap.size, rfl, InRow.mono a1.row (by omega) (by omega), InRow.mono a2.row (Nat.le_refl _) (by simp), by omega, by simp; omega⟩
  · exact below_set5v (HB.out.setCell (p := ⟨w.heap.size + 1 + 1, 4, none⟩) (show w.heap.size ≤ w.heap.size + 1 + 1 by omega) _) (by omega) _ _ _ _ _

set_option maxHeartbeats 2000000 in
theorem eqAgent_sh (u1 u2 : Value) (m : Am) (w : World) (h1 : RdA w.heap.size w u1 m) (h2 : RdA w.heap.size w u2 m) (hf : m.c.length + m.t.length ≤ 1048576) :
    Calls Tryz.prog 10 #[u1, u2] w fun e w' => e = .returned (.bool true) ∧ Below w.heap.size w w' := by
  obtain ⟨vc, vt, rfl, ⟨oc, cc, rfl, rc⟩, ⟨ot, ct, rfl, rt⟩⟩ := h1
  obtain ⟨vc2, vt2, rfl, ⟨oc2, cc2, rfl, sc⟩, ⟨ot2, ct2, rfl, st⟩⟩ := h2
  obtain ⟨W0, hW0⟩ : ∃ W, ((w.alloc (.cells #[.int .i64 m.id, .int .i64 m.lim, .bool m.dr, .slice oc m.c.length cc, .slice ot m.t.length ct] 41)).alloc (.cells #[.int .i64 m.id, .int .i64 m.lim, .bool m.dr, .slice oc2 m.c.length cc2, .slice ot2 m.t.length ct2] 41)) = W := ⟨_, rfl⟩
  have hb_W0 : Below w.heap.size w W0 := by rw [← hW0]; exact (((Below.refl _ _).alloc (Nat.le_refl _) _).alloc (by simp <;> omega) _)
  have HB := hide hb_W0
  clear hb_W0
  have zx : w.heap.size < W0.heap.size := by rw [← hW0]; simp <;> omega
  have x0 : W0.cell? ⟨w.heap.size, 0, none⟩ = some (.int .i64 m.id) := by rw [← hW0]; simp [go_sem]
  have x1 : W0.cell? ⟨w.heap.size, 1, none⟩ = some (.int .i64 m.lim) := by rw [← hW0]; simp [go_sem]
  have x2 : W0.cell? ⟨w.heap.size, 2, none⟩ = some (.bool m.dr) := by rw [← hW0]; simp [go_sem]
  have x3 : W0.cell? ⟨w.heap.size, 3, none⟩ = some (.slice oc m.c.length cc) := by rw [← hW0]; simp [go_sem]
  have x4 : W0.cell? ⟨w.heap.size, 4, none⟩ = some (.slice ot m.t.length ct) := by rw [← hW0]; simp [go_sem]
  have zy : w.heap.size + 1 < W0.heap.size := by rw [← hW0]; simp
  have y0 : W0.cell? ⟨w.heap.size + 1, 0, none⟩ = some (.int .i64 m.id) := by rw [← hW0]; simp [go_sem]
  have y1 : W0.cell? ⟨w.heap.size + 1, 1, none⟩ = some (.int .i64 m.lim) := by rw [← hW0]; simp [go_sem]
  have y2 : W0.cell? ⟨w.heap.size + 1, 2, none⟩ = some (.bool m.dr) := by rw [← hW0]; simp [go_sem]
  have y3 : W0.cell? ⟨w.heap.size + 1, 3, none⟩ = some (.slice oc2 m.c.length cc2) := by rw [← hW0]; simp [go_sem]
  have y4 : W0.cell? ⟨w.heap.size + 1, 4, none⟩ = some (.slice ot2 m.t.length ct2) := by rw [← hW0]; simp [go_sem]
  have hc := eqTable_sh (tab (.slice oc m.c.length cc)) (tab (.slice oc2 m.c.length cc2)) m.c W0 ⟨_, rfl, oc, cc, rfl, (rc.kept HB.out (Nat.le_refl _)).le HB.out.size⟩ ⟨_, rfl, oc2, cc2, rfl, (sc.kept HB.out (Nat.le_refl _)).le HB.out.size⟩ (by omega)
  have ht := fun W (h : Below w.heap.size w W) => eqTable_sh (tab (.slice ot m.t.length ct)) (tab (.slice ot2 m.t.length ct2)) m.t W ⟨_, rfl, ot, ct, rfl, (rt.kept h (Nat.le_refl _)).le h.size⟩ ⟨_, rfl, ot2, ct2, rfl, (st.kept h (Nat.le_refl _)).le h.size⟩ (by omega)
  have HT := hide ht
  clear ht rc rt sc st
  go_enter Tryz.func10, Tryz.ntmps10
  go_wp2_with fail
  refine (hc).mono ?_
  rintro e v1 ⟨rfl, hb⟩
  replace x0 : v1.cell? ⟨w.heap.size, 0, none⟩ = some (.int .i64 m.id) := (hb.cell (p := ⟨w.heap.size, 0, none⟩) zx).trans x0
  replace x1 : v1.cell? ⟨w.heap.size, 1, none⟩ = some (.int .i64 m.lim) := (hb.cell (p := ⟨w.heap.size, 1, none⟩) zx).trans x1
  replace x2 : v1.cell? ⟨w.heap.size, 2, none⟩ = some (.bool m.dr) := (hb.cell (p := ⟨w.heap.size, 2, none⟩) zx).trans x2
  replace x3 : v1.cell? ⟨w.heap.size, 3, none⟩ = some (.slice oc m.c.length cc) := (hb.cell (p := ⟨w.heap.size, 3, none⟩) zx).trans x3
  replace x4 : v1.cell? ⟨w.heap.size, 4, none⟩ = some (.slice ot m.t.length ct) := (hb.cell (p := ⟨w.heap.size, 4, none⟩) zx).trans x4
  replace zx : w.heap.size < v1.heap.size := Nat.lt_of_lt_of_le zx hb.size
  replace y0 : v1.cell? ⟨w.heap.size + 1, 0, none⟩ = some (.int .i64 m.id) := (hb.cell (p := ⟨w.heap.size + 1, 0, none⟩) zy).trans y0
  replace y1 : v1.cell? ⟨w.heap.size + 1, 1, none⟩ = some (.int .i64 m.lim) := (hb.cell (p := ⟨w.heap.size + 1, 1, none⟩) zy).trans y1
  replace y2 : v1.cell? ⟨w.heap.size + 1, 2, none⟩ = some (.bool m.dr) := (hb.cell (p := ⟨w.heap.size + 1, 2, none⟩) zy).trans y2
  replace y3 : v1.cell? ⟨w.heap.size + 1, 3, none⟩ = some (.slice oc2 m.c.length cc2) := (hb.cell (p := ⟨w.heap.size + 1, 3, none⟩) zy).trans y3
  replace y4 : v1.cell? ⟨w.heap.size + 1, 4, none⟩ = some (.slice ot2 m.t.length ct2) := (hb.cell (p := ⟨w.heap.size + 1, 4, none⟩) zy).trans y4
  replace zy : w.heap.size + 1 < v1.heap.size := Nat.lt_of_lt_of_le zy hb.size
  replace HB := hide (HB.out.trans (hb.mono HB.out.size))
  clear hb
  go_wp2_with fail
  refine (HT.out v1 HB.out).mono ?_
  rintro e v2 ⟨rfl, hb⟩
  replace x0 : v2.cell? ⟨w.heap.size, 0, none⟩ = some (.int .i64 m.id) := (hb.cell (p := ⟨w.heap.size, 0, none⟩) zx).trans x0
  replace x1 : v2.cell? ⟨w.heap.size, 1, none⟩ = some (.int .i64 m.lim) := (hb.cell (p := ⟨w.heap.size, 1, none⟩) zx).trans x1
  replace x2 : v2.cell? ⟨w.heap.size, 2, none⟩ = some (.bool m.dr) := (hb.cell (p := ⟨w.heap.size, 2, none⟩) zx).trans x2
  replace x3 : v2.cell? ⟨w.heap.size, 3, none⟩ = some (.slice oc m.c.length cc) := (hb.cell (p := ⟨w.heap.size, 3, none⟩) zx).trans x3
  replace x4 : v2.cell? ⟨w.heap.size, 4, none⟩ = some (.slice ot m.t.length ct) := (hb.cell (p := ⟨w.heap.size, 4, none⟩) zx).trans x4
  replace zx : w.heap.size < v2.heap.size := Nat.lt_of_lt_of_le zx hb.size
  replace y0 : v2.cell? ⟨w.heap.size + 1, 0, none⟩ = some (.int .i64 m.id) := (hb.cell (p := ⟨w.heap.size + 1, 0, none⟩) zy).trans y0
  replace y1 : v2.cell? ⟨w.heap.size + 1, 1, none⟩ = some (.int .i64 m.lim) := (hb.cell (p := ⟨w.heap.size + 1, 1, none⟩) zy).trans y1
  replace y2 : v2.cell? ⟨w.heap.size + 1, 2, none⟩ = some (.bool m.dr) := (hb.cell (p := ⟨w.heap.size + 1, 2, none⟩) zy).trans y2
  replace y3 : v2.cell? ⟨w.heap.size + 1, 3, none⟩ = some (.slice oc2 m.c.length cc2) := (hb.cell (p := ⟨w.heap.size + 1, 3, none⟩) zy).trans y3
  replace y4 : v2.cell? ⟨w.heap.size + 1, 4, none⟩ = some (.slice ot2 m.t.length ct2) := (hb.cell (p := ⟨w.heap.size + 1, 4, none⟩) zy).trans y4
  replace zy : w.heap.size + 1 < v2.heap.size := Nat.lt_of_lt_of_le zy hb.size
  replace HB := hide (HB.out.trans (hb.mono HB.out.size))
  clear hb
  go_wp2
  go_ret
  exact ⟨rfl, HB.out⟩

/-- The marks of an agent. -/
def mkA (k : Int) (m : Am) : Am := { m with c := mkT k m.c, t := mkT (k + 5 * m.c.length) m.t }
theorem InRow.tight {lo hi : Nat} {w : World} {e : TypeId} {size : Nat} {v : Value} {n : Nat} {xs : List Value} (h : InRow lo hi w e size v n xs) : InRow lo (min hi w.heap.size) w e size v n xs :=
  ⟨h.1, fun b e => by have h1 := h.2 b e; have h2 := (h.1.lt b e).2; omega⟩
theorem Stp.wide {a b lo hi : Nat} {w w' : World} (h : Stp a b w w') (h1 : lo ≤ a) (h2 : b ≤ hi) : Stp lo hi w w' := ⟨h.os, h.tape, h.output, h.size, fun k hk hn => h.block k hk (by omega)⟩
set_option maxHeartbeats 2000000 in
theorem markAgent_sh (lo hi : Nat) (v : Value) (m : Am) (k : Int) (w : World) (hv : InA lo hi w v m) (h0 : 0 ≤ k) (h1 : k ≤ 1000000) (hf : m.c.length + m.t.length ≤ 1048576) :
    Calls Tryz.prog 12 #[v, .int .i64 k] w fun e w' => e = .returned (.int .i64 (k + 5 * m.c.length + 5 * m.t.length)) ∧ InA lo hi w' v (mkA k m) ∧ Stp lo hi w w' := by
  obtain ⟨vc, vt, mid, rfl, ic, it, hm1, hm2⟩ := hv
  obtain ⟨oc, cc, rfl, _⟩ := InL.rd (L := layS) ic
  obtain ⟨ot, ct, rfl, _⟩ := InL.rd (L := layS) it
  obtain ⟨W0, hW0⟩ : ∃ W, w.alloc (.cells #[.int .i64 m.id, .int .i64 m.lim, .bool m.dr, .slice oc m.c.length cc, .slice ot m.t.length ct] 41) = W := ⟨_, rfl⟩
  have hb0 : Below w.heap.size w W0 := by rw [← hW0]; exact (Below.refl _ _).alloc (Nat.le_refl _) _
  have HB := hide hb0
  have bx : W0.heap[w.heap.size]? = some (.cells #[.int .i64 m.id, .int .i64 m.lim, .bool m.dr, .slice oc m.c.length cc, .slice ot m.t.length ct] 41 (0, 0)) := by rw [← hW0]; exact World.alloc_heap_new w _
  have tc : InT lo (min mid w.heap.size) W0 (tab (.slice oc m.c.length cc)) m.c := ⟨_, rfl, InRow.step ic.tight (Stp.of (lo := 0) (hi := 0) hb0) (.inl (Nat.zero_le _))⟩
  have tt : InT mid (min hi w.heap.size) W0 (tab (.slice ot m.t.length ct)) m.t := ⟨_, rfl, InRow.step it.tight (Stp.of (lo := 0) (hi := 0) hb0) (.inl (Nat.zero_le _))⟩
  have z3 : W0.cell? ⟨w.heap.size, 3, none⟩ = some (.slice oc m.c.length cc) := block_cell1 bx 3 _ rfl
  have HX := hide bx
  have HC := hide tc
  have HT := hide tt
  clear bx tc tt ic it hb0
  go_enter Tryz.func12, Tryz.ntmps12
  go_wp2_with fail
  refine (markTable_sh lo (min mid w.heap.size) _ m.c k W0 HC.out h0 (by omega) (by omega)).mono ?_
  rintro e w2 ⟨rfl, tc2, sp⟩
  have HX2 := hide (sp.box HX.out (.inr (Nat.min_le_right _ _)))
  have HT2 := hide (HT.out.step sp (.inl (Nat.min_le_left _ _)))
  have HC2 := hide tc2
  have HS2 : Hid (Stp lo hi w w2) := (Stp.of HB.out).trans (sp.wide (Nat.le_refl _) (by omega))
  have z4 : w2.cell? ⟨w.heap.size, 4, none⟩ = some (.slice ot m.t.length ct) := block_cell1 HX2.out 4 _ rfl
  clear HX HC HT tc2 sp z3 hW0
  go_wp2_with fail
  refine (markTable_sh mid (min hi w.heap.size) _ m.t (k + 5 * m.c.length) w2 HT2.out (by omega) (by omega) (by omega)).mono ?_
  rintro e w3 ⟨rfl, tt3, sp⟩
  have HC3 := hide (HC2.out.step sp (.inr (Nat.min_le_left _ _)))
  have HT3 := hide tt3
  have HS3 : Hid (Stp lo hi w w3) := HS2.out.trans (sp.wide hm1 (by omega))
  clear z4 HX2 HC2 HT2 HS2 tt3 sp
  go_wp2
  go_ret
  exact ⟨rfl, ⟨_, _, mid, by simp [mkA, mkT], InRow.mono HC3.out.row (Nat.le_refl _) (Nat.min_le_left _ _), InRow.mono HT3.out.row (Nat.le_refl _) (Nat.min_le_left _ _), hm1, hm2⟩, HS3.out⟩
set_option maxHeartbeats 2000000 in
theorem heldAgent_sh (v : Value) (m : Am) (k : Int) (w : World) (hR : RdA w.heap.size w v (mkA k m)) (h0 : 0 ≤ k) (h1 : k ≤ 1000000) (hf : m.c.length + m.t.length ≤ 1048576) :
    Calls Tryz.prog 14 #[v, .int .i64 k] w fun e w' => e = .returned (.int .i64 (k + 5 * m.c.length + 5 * m.t.length)) ∧ Below w.heap.size w w' := by
  obtain ⟨vc, vt, rfl, rc0, rt0⟩ := hR
  have rc : RdT w.heap.size w (tab vc) (mkT k m.c) := ⟨_, rfl, rc0⟩
  have rt : RdT w.heap.size w (tab vt) (mkT (k + 5 * m.c.length) m.t) := ⟨_, rfl, rt0⟩
  obtain ⟨oc, cc, rfl, _⟩ := rc0
  obtain ⟨ot, ct, rfl, _⟩ := rt0
  have e1 : (mkA k m).c.length = m.c.length := mkL_length _ _ _ _
  have e2 : (mkA k m).t.length = m.t.length := mkL_length _ _ _ _
  have e1' : (mkT k m.c).length = m.c.length := mkL_length _ _ _ _
  have e2' : (mkT (k + 5 * m.c.length) m.t).length = m.t.length := mkL_length _ _ _ _
  rw [e1] at rc
  rw [e2] at rt
  rw [e1, e2]
  clear e1 e2 e1' e2'
  have hn : (0 : Int) ≤ k + 5 * m.c.length := by omega
  have hn2 : (0 : Int) ≤ k + 5 * m.c.length + 5 * m.t.length := by omega
  show Calls Tryz.prog 14 #[agt m.id m.lim m.dr (.slice oc m.c.length cc) (.slice ot m.t.length ct), .int .i64 k] w _
  obtain ⟨W0, hW0⟩ : ∃ W, (w.alloc (.cells #[.int .i64 m.id, .int .i64 m.lim, .bool m.dr, .slice oc m.c.length cc, .slice ot m.t.length ct] 41)) = W := ⟨_, rfl⟩
  have hb_W0 : Below w.heap.size w W0 := by rw [← hW0]; exact ((Below.refl _ _).alloc (Nat.le_refl _) _)
  have HB := hide hb_W0
  clear hb_W0
  have zz : w.heap.size < W0.heap.size := by rw [← hW0]; simp
  have z0 : W0.cell? ⟨w.heap.size, 0, none⟩ = some (.int .i64 m.id) := by rw [← hW0]; simp [go_sem]
  have z1 : W0.cell? ⟨w.heap.size, 1, none⟩ = some (.int .i64 m.lim) := by rw [← hW0]; simp [go_sem]
  have z2 : W0.cell? ⟨w.heap.size, 2, none⟩ = some (.bool m.dr) := by rw [← hW0]; simp [go_sem]
  have z3 : W0.cell? ⟨w.heap.size, 3, none⟩ = some (.slice oc m.c.length cc) := by rw [← hW0]; simp [go_sem]
  have z4 : W0.cell? ⟨w.heap.size, 4, none⟩ = some (.slice ot m.t.length ct) := by rw [← hW0]; simp [go_sem]
  have HC := hide (heldTable_sh _ m.c k W0 ((rc.kept HB.out (Nat.le_refl _)).le HB.out.size) h0 (by omega) (by omega))
  have HT := hide (fun W (h : Below w.heap.size w W) => heldTable_sh _ m.t (k + 5 * m.c.length) W ((rt.kept h (Nat.le_refl _)).le h.size) (by omega) (by omega) (by omega))
  clear rc rt
  go_enter Tryz.func14, Tryz.ntmps14
  go_wp2_with fail
  refine (HC.out).mono ?_
  rintro e v1 ⟨rfl, hb⟩
  replace z0 : v1.cell? ⟨w.heap.size, 0, none⟩ = some (.int .i64 m.id) := (hb.cell (p := ⟨w.heap.size, 0, none⟩) zz).trans z0
  replace z1 : v1.cell? ⟨w.heap.size, 1, none⟩ = some (.int .i64 m.lim) := (hb.cell (p := ⟨w.heap.size, 1, none⟩) zz).trans z1
  replace z2 : v1.cell? ⟨w.heap.size, 2, none⟩ = some (.bool m.dr) := (hb.cell (p := ⟨w.heap.size, 2, none⟩) zz).trans z2
  replace z3 : v1.cell? ⟨w.heap.size, 3, none⟩ = some (.slice oc m.c.length cc) := (hb.cell (p := ⟨w.heap.size, 3, none⟩) zz).trans z3
  replace z4 : v1.cell? ⟨w.heap.size, 4, none⟩ = some (.slice ot m.t.length ct) := (hb.cell (p := ⟨w.heap.size, 4, none⟩) zz).trans z4
  replace zz : w.heap.size < v1.heap.size := Nat.lt_of_lt_of_le zz hb.size
  replace HB := hide (HB.out.trans (hb.mono HB.out.size))
  clear hb
  go_wp2_with fail
  refine (HT.out v1 HB.out).mono ?_
  rintro e v2 ⟨rfl, hb⟩
  replace z0 : v2.cell? ⟨w.heap.size, 0, none⟩ = some (.int .i64 m.id) := (hb.cell (p := ⟨w.heap.size, 0, none⟩) zz).trans z0
  replace z1 : v2.cell? ⟨w.heap.size, 1, none⟩ = some (.int .i64 m.lim) := (hb.cell (p := ⟨w.heap.size, 1, none⟩) zz).trans z1
  replace z2 : v2.cell? ⟨w.heap.size, 2, none⟩ = some (.bool m.dr) := (hb.cell (p := ⟨w.heap.size, 2, none⟩) zz).trans z2
  replace z3 : v2.cell? ⟨w.heap.size, 3, none⟩ = some (.slice oc m.c.length cc) := (hb.cell (p := ⟨w.heap.size, 3, none⟩) zz).trans z3
  replace z4 : v2.cell? ⟨w.heap.size, 4, none⟩ = some (.slice ot m.t.length ct) := (hb.cell (p := ⟨w.heap.size, 4, none⟩) zz).trans z4
  replace zz : w.heap.size < v2.heap.size := Nat.lt_of_lt_of_le zz hb.size
  replace HB := hide (HB.out.trans (hb.mono HB.out.size))
  clear hb
  go_wp2
  go_ret
  exact ⟨rfl, HB.out⟩

end Go.Proofs.YtmkgbmmibjgeaaaGreat

/- Tables, as the model has them: ways, homes, what is put, dropped, due; no program. -/
namespace Go.Proofs.YtmkgbmmibjgeaaaGreat
open Go.ChangeShapes Go.WideShapes Go.ChangeAt Go.RowKit Go.Joins
set_option linter.unusedVariables false
set_option linter.unusedSimpArgs false

/-- Where a flow belongs. -/
def homeN (n : Nat) (a p : Int) : Nat := ((a * 31 + p) % (n : Int)).toNat
theorem homeN_lt {n : Nat} (hn : 0 < n) (a p : Int) : homeN n a p < n := by
  unfold homeN
  have h1 := Int.emod_nonneg (a * 31 + p) (show (n : Int) ≠ 0 by omega)
  have h2 := Int.emod_lt_of_pos (a * 31 + p) (show (0 : Int) < n by omega)
  omega
theorem homeN_cast {n : Nat} (hn : 0 < n) (a p : Int) : ((homeN n a p : Nat) : Int) = (a * 31 + p) % (n : Int) := by
  unfold homeN
  have h1 := Int.emod_nonneg (a * 31 + p) (show (n : Int) ≠ 0 by omega)
  omega
theorem homeN_tmod {n : Nat} (hn : 0 < n) {a p : Int} (h : flowOkB a p = true) : (a * 31 + p).tmod (n : Int) = ((homeN n a p : Nat) : Int) := by
  rw [homeN_cast hn, Int.tmod_eq_emod_of_nonneg]
  have := flowOkB_iff.1 h
  omega
theorem homeN_tmod' {n : Nat} (hn : 0 < n) {a p : Int} (h : flowOkB a p = true) : (31 * a + p).tmod (n : Int) = ((homeN n a p : Nat) : Int) := by
  rw [Int.mul_comm]; exact homeN_tmod hn h
theorem next_tmod (n i : Nat) : ((i : Int) + 1).tmod (n : Int) = (((i + 1) % n : Nat) : Int) := by
  rw [Int.tmod_eq_emod_of_nonneg (by omega)]; simp
/-- How far it is from one slot to another, going up. -/
def farN (n i k : Nat) : Nat := (k + n - i) % n
theorem far_tmod {n i k : Nat} (hi : i < n) (hk : k < n) : ((k : Int) - (i : Int) + (n : Int)).tmod (n : Int) = ((farN n i k : Nat) : Int) := by
  rw [Int.tmod_eq_emod_of_nonneg (by omega), show (k : Int) - i + n = ((k + n - i : Nat) : Int) by omega]; simp [farN]
theorem next_lt {n : Nat} (hn : 0 < n) (i : Nat) : (i + 1) % n < n := Nat.mod_lt _ hn

/-- The way of a flow from slot i on, so many slots at most: where it ends, and whether that is its own. -/
def wayGo (l : List Sl) (a p : Int) : Nat → Nat → Int × Bool
  | 0, _ => (-1, false)
  | f + 1, i => if (l.getD i sl0).u = true then (if (l.getD i sl0).a = a ∧ (l.getD i sl0).p = p then ((i : Int), true) else wayGo l a p f ((i + 1) % l.length)) else ((i : Int), false)
def endL (l : List Sl) (a p : Int) : Int × Bool := wayGo l a p l.length (homeN l.length a p)
theorem wayGo_free {l : List Sl} {a p : Int} {f i : Nat} (h : (l.getD i sl0).u = false) : wayGo l a p (f + 1) i = ((i : Int), false) := by simp only [wayGo, h]; simp
theorem wayGo_own {l : List Sl} {a p : Int} {f i : Nat} (h : (l.getD i sl0).u = true) (h1 : (l.getD i sl0).a = a) (h2 : (l.getD i sl0).p = p) : wayGo l a p (f + 1) i = ((i : Int), true) := by simp only [wayGo, h, h1, h2]; simp
theorem wayGo_next {l : List Sl} {a p : Int} {f i : Nat} (h : (l.getD i sl0).u = true) (h1 : ¬ ((l.getD i sl0).a = a ∧ (l.getD i sl0).p = p)) : wayGo l a p (f + 1) i = wayGo l a p f ((i + 1) % l.length) := by simp only [wayGo, h, h1]; simp
/-- Where a way ends: nowhere, at a slot that is free, or at its own. -/
theorem wayGo_cases (l : List Sl) (hn : 0 < l.length) (a p : Int) : ∀ (f i : Nat), i < l.length → wayGo l a p f i = (-1, false) ∨ ∃ k, k < l.length ∧ ((wayGo l a p f i = ((k : Int), false) ∧ (l.getD k sl0).u = false) ∨ (wayGo l a p f i = ((k : Int), true) ∧ (l.getD k sl0).u = true ∧ (l.getD k sl0).a = a ∧ (l.getD k sl0).p = p))
  | 0, i, _ => .inl rfl
  | f + 1, i, hi => by
    cases hu : (l.getD i sl0).u with
    | false => exact .inr ⟨i, hi, .inl ⟨wayGo_free hu, hu⟩⟩
    | true =>
      by_cases h : (l.getD i sl0).a = a ∧ (l.getD i sl0).p = p
      · exact .inr ⟨i, hi, .inr ⟨wayGo_own hu h.1 h.2, hu, h.1, h.2⟩⟩
      · rw [wayGo_next hu h]
        exact wayGo_cases l hn a p f _ (next_lt hn i)
theorem endL_cases (l : List Sl) (hn : 0 < l.length) (a p : Int) : endL l a p = (-1, false) ∨ ∃ k, k < l.length ∧ ((endL l a p = ((k : Int), false) ∧ (l.getD k sl0).u = false) ∨ (endL l a p = ((k : Int), true) ∧ (l.getD k sl0).u = true ∧ (l.getD k sl0).a = a ∧ (l.getD k sl0).p = p)) :=
  wayGo_cases l hn a p _ _ (homeN_lt hn a p)

/-- A slot that may be. -/
def slotB (s : Sl) : Bool := if s.u = true then flowOkB s.a s.p && decide (0 ≤ s.v) && decide (s.v ≤ 100000) && decide (0 ≤ s.t) && decide (s.t ≤ 200000) else decide (s.a = 0) && decide (s.p = 0) && decide (s.v = 0) && decide (s.t = 0)
theorem slotB_used {s : Sl} (h : s.u = true) : slotB s = true ↔ flowOkB s.a s.p = true ∧ 0 ≤ s.v ∧ s.v ≤ 100000 ∧ 0 ≤ s.t ∧ s.t ≤ 200000 := by simp [slotB, h, and_assoc]
theorem slotB_free {s : Sl} (h : s.u = false) : slotB s = true ↔ s = sl0 := by
  obtain ⟨u, a, p, v, t⟩ := s
  simp at h; subst h
  simp [slotB, and_assoc]
/-- Whoever stands at i is got there. -/
def wayB (l : List Sl) (i : Nat) : Bool := !(l.getD i sl0).u || (endL l (l.getD i sl0).a (l.getD i sl0).p == ((i : Int), true))
def tabAt (l : List Sl) (i : Nat) : Bool := slotB (l.getD i sl0) && wayB l i
def tableOkB (l : List Sl) : Bool := decide (1 ≤ l.length) && decide (l.length ≤ 16) && (List.range l.length).all (tabAt l)
theorem tableOkB_iff {l : List Sl} : tableOkB l = true ↔ 1 ≤ l.length ∧ l.length ≤ 16 ∧ ∀ i, i < l.length → tabAt l i = true := by simp [tableOkB, and_assoc]
theorem tableOkB_yes {l : List Sl} (h1 : 1 ≤ l.length) (h2 : l.length ≤ 16) (h : ∀ i, i < l.length → tabAt l i = true) : true = tableOkB l := (tableOkB_iff.2 ⟨h1, h2, h⟩).symm
theorem tableOkB_no {l : List Sl} {i : Nat} (hi : i < l.length) (h : tabAt l i = false) : false = tableOkB l := by
  cases hb : tableOkB l with
  | false => rfl
  | true => rw [(tableOkB_iff.1 hb).2.2 i hi] at h; cases h
theorem tableOkB_len {l : List Sl} (h : ¬ (1 ≤ l.length ∧ l.length ≤ 16)) : false = tableOkB l := by
  cases hb : tableOkB l with
  | false => rfl
  | true => exact absurd ⟨(tableOkB_iff.1 hb).1, (tableOkB_iff.1 hb).2.1⟩ h
theorem tabAt_slot {l : List Sl} {i : Nat} (h : slotB (l.getD i sl0) = false) : tabAt l i = false := by unfold tabAt; rw [h]; rfl
theorem tabAt_way {l : List Sl} {i : Nat} (hu : (l.getD i sl0).u = true) (h : endL l (l.getD i sl0).a (l.getD i sl0).p ≠ ((i : Int), true)) : tabAt l i = false := by unfold tabAt wayB; rw [hu, beq_eq_false_iff_ne.2 h]; cases slotB (l.getD i sl0) <;> rfl
theorem tabAt_free {l : List Sl} {i : Nat} (hu : (l.getD i sl0).u = false) (h : slotB (l.getD i sl0) = true) : tabAt l i = true := by unfold tabAt wayB; rw [hu, h]; rfl
theorem tabAt_used {l : List Sl} {i : Nat} (h : slotB (l.getD i sl0) = true) (h' : endL l (l.getD i sl0).a (l.getD i sl0).p = ((i : Int), true)) : tabAt l i = true := by unfold tabAt wayB; rw [h, h']; cases (l.getD i sl0).u <;> simp
/-- All up to k may be, ways and all. -/
def tabTo (l : List Sl) (k : Nat) : Prop := ∀ i, i < k → tabAt l i = true
theorem tabTo_succ {l : List Sl} {k : Nat} (h : tabTo l k) (hk : tabAt l k = true) : tabTo l (k + 1) := fun i hi => by
  rcases Nat.lt_succ_iff_lt_or_eq.1 hi with h1 | h1
  · exact h i h1
  · rw [h1]; exact hk
/-- All up to k may be, but for their ways. -/
def slotTo (l : List Sl) (k : Nat) : Prop := ∀ i, i < k → slotB (l.getD i sl0) = true
theorem slotTo_succ {l : List Sl} {k : Nat} (h : slotTo l k) (hk : slotB (l.getD k sl0) = true) : slotTo l (k + 1) := fun i hi => by
  rcases Nat.lt_succ_iff_lt_or_eq.1 hi with h1 | h1
  · exact h i h1
  · rw [h1]; exact hk

/-- What is put. -/
def putL (l : List Sl) (a p v t : Int) : List Sl := if 0 ≤ (endL l a p).1 then l.set (endL l a p).1.toNat ⟨true, a, p, v, t⟩ else l
theorem putL_length (l : List Sl) (a p v t : Int) : (putL l a p v t).length = l.length := by unfold putL; split <;> simp
def getL (l : List Sl) (a p : Int) : Sl := if (endL l a p).2 = true then l.getD (endL l a p).1.toNat sl0 else sl0

/-- How far all stand from their homes. -/
def sumTo : Nat → (Nat → Nat) → Nat
  | 0, _ => 0
  | n + 1, f => sumTo n f + f n
theorem sumTo_same : ∀ (n : Nat) {f g : Nat → Nat}, (∀ x, x < n → f x = g x) → sumTo n f = sumTo n g
  | 0, _, _, _ => rfl
  | n + 1, f, g, h => by simp only [sumTo]; rw [sumTo_same n (fun x hx => h x (by omega)), h n (by omega)]
theorem sumTo_upd : ∀ (n : Nat) {f g : Nat → Nat} {j : Nat}, j < n → (∀ x, x ≠ j → f x = g x) → sumTo n f + g j = sumTo n g + f j
  | 0, _, _, _, h, _ => absurd h (Nat.not_lt_zero _)
  | n + 1, f, g, j, h, he => by
    simp only [sumTo]
    by_cases e : j = n
    · subst e
      rw [sumTo_same j (fun x hx => he x (by omega))]; omega
    · have := sumTo_upd n (show j < n by omega) he
      rw [he n (fun e' => e e'.symm)]; omega
def wt (n : Nat) (l : List Sl) (j : Nat) : Nat := if (l.getD j sl0).u = true then farN n (homeN n (l.getD j sl0).a (l.getD j sl0).p) j else 0
def phi (l : List Sl) : Nat := sumTo l.length (wt l.length l)
def meas (l : List Sl) (i k : Nat) : Nat := phi l * 17 + farN l.length k i

def moves (n : Nat) (l : List Sl) (i k : Nat) : Bool := decide (farN n i k ≤ farN n (homeN n (l.getD k sl0).a (l.getD k sl0).p) k)
/-- What comes nearer, slot by slot: the hole is at i, k is looked at. -/
def dropGo (n : Nat) : Nat → List Sl → Nat → Nat → List Sl
  | 0, l, _, _ => l
  | f + 1, l, i, k => if (l.getD k sl0).u = true then (if moves n l i k = true then dropGo n f ((l.set i (l.getD k sl0)).set k sl0) k ((k + 1) % n) else dropGo n f l i ((k + 1) % n)) else l
def dropAtL (l : List Sl) (i : Nat) : List Sl := dropGo l.length (meas (l.set i sl0) i ((i + 1) % l.length) + 1) (l.set i sl0) i ((i + 1) % l.length)
theorem dropGo_end {n f i k : Nat} {l : List Sl} (h : (l.getD k sl0).u = false) : dropGo n (f + 1) l i k = l := by simp only [dropGo, h]; simp
theorem dropGo_move {n f i k : Nat} {l : List Sl} (h : (l.getD k sl0).u = true) (hm : moves n l i k = true) : dropGo n (f + 1) l i k = dropGo n f ((l.set i (l.getD k sl0)).set k sl0) k ((k + 1) % n) := by simp only [dropGo, h, hm]; simp
theorem dropGo_stay {n f i k : Nat} {l : List Sl} (h : (l.getD k sl0).u = true) (hm : moves n l i k = false) : dropGo n (f + 1) l i k = dropGo n f l i ((k + 1) % n) := by simp only [dropGo, h, hm]; simp
theorem getD_set_self (l : List Sl) (i : Nat) (s : Sl) (h : i < l.length) : (l.set i s).getD i sl0 = s := by simp [h]
theorem getD_set_ne (l : List Sl) (i j : Nat) (s : Sl) (h : i ≠ j) : (l.set i s).getD j sl0 = l.getD j sl0 := by
  simp [List.getElem?_set, h]
theorem mod_small {a n : Nat} (h : a < n) : a % n = a := Nat.mod_eq_of_lt h
theorem mod_wrap {a n : Nat} (h1 : n ≤ a) (h2 : a < n + n) : a % n = a - n := by rw [Nat.mod_eq_sub_mod h1, Nat.mod_eq_of_lt (by omega)]
theorem farN_eq {n i k : Nat} (hi : i < n) (hk : k < n) : farN n i k = if i ≤ k then k - i else k + n - i := by
  unfold farN
  by_cases h : i ≤ k
  · rw [if_pos h, mod_wrap (by omega) (by omega)]; omega
  · rw [if_neg h, mod_small (by omega)]
theorem next_eq {n k : Nat} (hk : k < n) : (k + 1) % n = if k + 1 = n then 0 else k + 1 := by
  by_cases h : k + 1 = n
  · rw [if_pos h, h, Nat.mod_self]
  · rw [if_neg h, mod_small (by omega)]
theorem meas_stay {l : List Sl} {i k : Nat} (hi : i < l.length) (hk : k < l.length) (hne : k ≠ i) : meas l i ((k + 1) % l.length) < meas l i k := by
  unfold meas
  have h1 := next_lt (n := l.length) (by omega) k
  rw [farN_eq h1 hi, farN_eq hk hi, next_eq hk]
  split <;> (repeat' split) <;> omega
theorem meas_move {l : List Sl} {i k : Nat} (hl : l.length ≤ 16) (hi : i < l.length) (hk : k < l.length) (hfree : (l.getD i sl0).u = false) (hu : (l.getD k sl0).u = true) (hm : moves l.length l i k = true) :
    meas ((l.set i (l.getD k sl0)).set k sl0) k ((k + 1) % l.length) < meas l i k := by
  have hne : i ≠ k := fun e => by rw [e, hu] at hfree; cases hfree
  unfold meas phi
  rw [show ((l.set i (l.getD k sl0)).set k sl0).length = l.length by simp]
  have e1 := sumTo_upd l.length (f := wt l.length ((l.set i (l.getD k sl0)).set k sl0)) (g := wt l.length (l.set i (l.getD k sl0))) hk (fun x hx => by unfold wt; rw [getD_set_ne _ k x _ (fun e => hx e.symm)])
  have e2 := sumTo_upd l.length (f := wt l.length (l.set i (l.getD k sl0))) (g := wt l.length l) hi (fun x hx => by unfold wt; rw [getD_set_ne _ i x _ (fun e => hx e.symm)])
  have w1 : wt l.length ((l.set i (l.getD k sl0)).set k sl0) k = 0 := by unfold wt; rw [getD_set_self _ _ _ (by simpa using hk)]; rfl
  have w2 : wt l.length (l.set i (l.getD k sl0)) k = farN l.length (homeN l.length (l.getD k sl0).a (l.getD k sl0).p) k := by unfold wt; rw [getD_set_ne _ i k _ hne, hu]; rfl
  have w3 : wt l.length (l.set i (l.getD k sl0)) i = farN l.length (homeN l.length (l.getD k sl0).a (l.getD k sl0).p) i := by unfold wt; rw [getD_set_self _ _ _ hi, hu]; rfl
  have w4 : wt l.length l i = 0 := by unfold wt; rw [hfree]; rfl
  rw [w1, w2] at e1
  rw [w3, w4] at e2
  have hh := homeN_lt (show 0 < l.length by omega) (l.getD k sl0).a (l.getD k sl0).p
  have hmv : farN l.length i k ≤ farN l.length (homeN l.length (l.getD k sl0).a (l.getD k sl0).p) k := by simpa [moves] using hm
  generalize homeN l.length (l.getD k sl0).a (l.getD k sl0).p = h at *
  have h1 := next_lt (n := l.length) (by omega) k
  have hd : farN l.length h i + 1 ≤ farN l.length h k := by
    rw [farN_eq hi hk, farN_eq hh hk] at hmv
    rw [farN_eq hh hi, farN_eq hh hk]
    (repeat' split at hmv) <;> (repeat' split) <;> omega
  have hf : farN l.length ((k + 1) % l.length) k < 16 := by
    have : farN l.length ((k + 1) % l.length) k < l.length := Nat.mod_lt _ (by omega)
    omega
  omega

end Go.Proofs.YtmkgbmmibjgeaaaGreat

/- Contracts of FlowOk, on both sides. -/
namespace Go.Proofs.YtmkgbmmibjgeaaaGreat
open Go.ChangeShapes Go.WideShapes Go.ChangeAt Go.RowKit Go.Joins
set_option linter.unusedVariables false
set_option linter.unusedSimpArgs false

set_option maxHeartbeats 400000 in
theorem specFlowOk_any (a b : Int) (w : World) :
    Calls Tryz.prog 72 #[.agg #[.int .i64 a, .int .i64 b]] w fun e w' => e = .returned (.bool (flowOkB a b)) ∧ Below w.heap.size w w' := by
  have hB : Below w.heap.size w w := Below.refl _ _
  go_enter Tryz.func72, Tryz.ntmps72
  go_wp2
  all_goals go_ret
  all_goals refine ⟨?_, by (repeat (first | with_reducible exact hB | with_reducible exact Below.refl _ _ | with_reducible refine Below.drew ?_ | with_reducible refine below_drewN ?_ _ | with_reducible refine Below.alloc ?_ ?_ _ | with_reducible refine Below.setCell ?_ ?_ _ | (focus (simp; done)) | (focus (simp; omega)) | omega))⟩
  all_goals first | (simp [flowOkB, *]; done) | (simp [flowOkB]; omega)

set_option maxHeartbeats 400000 in
theorem implFlowOk_any (a b : Int) (w : World) :
    Calls Tryz.prog 82 #[.agg #[.int .i64 a, .int .i64 b]] w fun e w' => e = .returned (.bool (flowOkB a b)) ∧ Below w.heap.size w w' := by
  rw [flowOkB_words]
  have hB : Below w.heap.size w w := Below.refl _ _
  go_enter Tryz.func82, Tryz.ntmps82
  go_wp2
  all_goals go_ret
  all_goals refine ⟨?_, by (repeat (first | with_reducible exact hB | with_reducible exact Below.refl _ _ | with_reducible refine Below.drew ?_ | with_reducible refine below_drewN ?_ _ | with_reducible refine Below.alloc ?_ ?_ _ | with_reducible refine Below.setCell ?_ ?_ _ | (focus (simp; done)) | (focus (simp; omega)) | omega))⟩
  all_goals first | (simp [isWordB, *]; done) | (simp [isWordB]; omega)

end Go.Proofs.YtmkgbmmibjgeaaaGreat

