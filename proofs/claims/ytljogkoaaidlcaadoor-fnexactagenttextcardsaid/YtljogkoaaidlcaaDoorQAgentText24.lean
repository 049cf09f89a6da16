/- The laws' own helpers over agents: their size, their copy, their comparison, marks and what is held. -/
import Derived.RangeFuncRecord
import Derived.Test.YtljogkoaaidlcaaDoorQAgentText06
namespace Go.Proofs.YtljogkoaaidlcaaDoor
open Go.ChangeShapes Go.WideShapes Go.ChangeAt Go.RowKit Go.Joins
set_option linter.unusedVariables false
set_option linter.unusedSimpArgs false

set_option maxHeartbeats 1000000 in
theorem szAgent_sh (v : Value) (m : Am) (C : Nat) (w : World) (hR : RdA C w v m) (hl : m.c.length ≤ maxLen) (hg : m.t.length ≤ maxLen) :
  Calls Tryd.prog 4 #[v, .int .i64 1048576] w fun e w' => (∃ n : Int, e = .returned (.int .i64 n) ∧ (m.c.length + m.t.length ≤ 1048576 → 0 ≤ n) ∧ (¬ m.c.length + m.t.length ≤ 1048576 → n < 0) ∧ -1 ≤ n ∧ n ≤ 1048576) ∧ Below w.heap.size w w' := by
 obtain ⟨vc, vt, rfl, ⟨oc, cc, rfl, rc⟩, ⟨ot, ct, rfl, rt⟩⟩ := hR
 obtain ⟨W0, hW0⟩ : ∃ W, (w.alloc (.cells #[.int .i64 m.id, .int .i64 m.lim, .bool m.dr, .slice oc m.c.length cc, .slice ot m.t.length ct] 26)) = W := ⟨_, rfl⟩
 have hb_W0 : Below w.heap.size w W0 := by rw [← hW0]; exact ((Below.refl _ _).alloc (Nat.le_refl _) _)
 have HB := hide hb_W0
 clear hb_W0
 have zz : w.heap.size < W0.heap.size := by rw [← hW0]; simp
 have z0 : W0.cell? ⟨w.heap.size, 0, none⟩ = some (.int .i64 m.id) := by rw [← hW0]; simp [go_sem]
 have z1 : W0.cell? ⟨w.heap.size, 1, none⟩ = some (.int .i64 m.lim) := by rw [← hW0]; simp [go_sem]
 have z2 : W0.cell? ⟨w.heap.size, 2, none⟩ = some (.bool m.dr) := by rw [← hW0]; simp [go_sem]
 have z3 : W0.cell? ⟨w.heap.size, 3, none⟩ = some (.slice oc m.c.length cc) := by rw [← hW0]; simp [go_sem]
 have z4 : W0.cell? ⟨w.heap.size, 4, none⟩ = some (.slice ot m.t.length ct) := by rw [← hW0]; simp [go_sem]
 have hs := szTable_n oc m.c.length cc 1048576 W0 hl (by decide) (by decide)
 by_cases h : (1048576 : Int) - m.c.length < 0
 ·rw [if_pos h] at hs
  go_enter Tryd.func4, Tryd.ntmps4
  go_wp2_with fail
  refine (hs).mono ?_
  rintro e v1 ⟨rfl, hb⟩
  replace z0 : v1.cell? ⟨w.heap.size, 0, none⟩ = some (.int .i64 m.id) := (hb.cell (p := ⟨w.heap.size, 0, none⟩) zz).trans z0
  replace z1 : v1.cell? ⟨w.heap.size, 1, none⟩ = some (.int .i64 m.lim) := (hb.cell (p := ⟨w.heap.size, 1, none⟩) zz).trans z1
  replace z2 : v1.cell? ⟨w.heap.size, 2, none⟩ = some (.bool m.dr) := (hb.cell (p := ⟨w.heap.size, 2, none⟩) zz).trans z2
  replace z3 : v1.cell? ⟨w.heap.size, 3, none⟩ = some (.slice oc m.c.length cc) := (hb.cell (p := ⟨w.heap.size, 3, none⟩) zz).trans z3
  replace z4 : v1.cell? ⟨w.heap.size, 4, none⟩ = some (.slice ot m.t.length ct) := (hb.cell (p := ⟨w.heap.size, 4, none⟩) zz).trans z4
  replace zz : w.heap.size < v1.heap.size := Nat.lt_of_lt_of_le zz hb.size
  replace HB := hide (HB.out.trans (hb.mono HB.out.size))
  clear hb
  go_wp2
  go_ret
  exact ⟨⟨_, rfl, by omega, by omega, by omega, by omega⟩, HB.out⟩
 ·rw [if_neg h] at hs
  have h0 : (0 : Int) ≤ 1048576 - (m.c.length : Int) := by omega
  have hs2 := fun W => szTable_n ot m.t.length ct (1048576 - m.c.length) W hg h0 (by omega)
  by_cases h2 : (1048576 : Int) - m.c.length - m.t.length < 0
  ·rw [if_pos h2] at hs2
   go_enter Tryd.func4, Tryd.ntmps4
   go_wp2_with fail
   refine (hs).mono ?_
   rintro e v1 ⟨rfl, hb⟩
   replace z0 : v1.cell? ⟨w.heap.size, 0, none⟩ = some (.int .i64 m.id) := (hb.cell (p := ⟨w.heap.size, 0, none⟩) zz).trans z0
   replace z1 : v1.cell? ⟨w.heap.size, 1, none⟩ = some (.int .i64 m.lim) := (hb.cell (p := ⟨w.heap.size, 1, none⟩) zz).trans z1
   replace z2 : v1.cell? ⟨w.heap.size, 2, none⟩ = some (.bool m.dr) := (hb.cell (p := ⟨w.heap.size, 2, none⟩) zz).trans z2
   replace z3 : v1.cell? ⟨w.heap.size, 3, none⟩ = some (.slice oc m.c.length cc) := (hb.cell (p := ⟨w.heap.size, 3, none⟩) zz).trans z3
   replace z4 : v1.cell? ⟨w.heap.size, 4, none⟩ = some (.slice ot m.t.length ct) := (hb.cell (p := ⟨w.heap.size, 4, none⟩) zz).trans z4
   replace zz : w.heap.size < v1.heap.size := Nat.lt_of_lt_of_le zz hb.size
   replace HB := hide (HB.out.trans (hb.mono HB.out.size))
   clear hb
   go_wp2_with fail
   refine (hs2 _).mono ?_
   rintro e v2 ⟨rfl, hb⟩
   replace z0 : v2.cell? ⟨w.heap.size, 0, none⟩ = some (.int .i64 m.id) := (hb.cell (p := ⟨w.heap.size, 0, none⟩) zz).trans z0
   replace z1 : v2.cell? ⟨w.heap.size, 1, none⟩ = some (.int .i64 m.lim) := (hb.cell (p := ⟨w.heap.size, 1, none⟩) zz).trans z1
   replace z2 : v2.cell? ⟨w.heap.size, 2, none⟩ = some (.bool m.dr) := (hb.cell (p := ⟨w.heap.size, 2, none⟩) zz).trans z2
   replace z3 : v2.cell? ⟨w.heap.size, 3, none⟩ = some (.slice oc m.c.length cc) := (hb.cell (p := ⟨w.heap.size, 3, none⟩) zz).trans z3
   replace z4 : v2.cell? ⟨w.heap.size, 4, none⟩ = some (.slice ot m.t.length ct) := (hb.cell (p := ⟨w.heap.size, 4, none⟩) zz).trans z4
   replace zz : w.heap.size < v2.heap.size := Nat.lt_of_lt_of_le zz hb.size
   replace HB := hide (HB.out.trans (hb.mono HB.out.size))
   clear hb
   go_wp2
   go_ret
   exact ⟨⟨_, rfl, by omega, by omega, by omega, by omega⟩, HB.out⟩
  ·rw [if_neg h2] at hs2
   go_enter Tryd.func4, Tryd.ntmps4
   have h3 : (0 : Int) ≤ 1048576 - (m.c.length : Int) - (m.t.length : Int) := by omega
   go_wp2_with fail
   refine (hs).mono ?_
   rintro e v1 ⟨rfl, hb⟩
   replace z0 : v1.cell? ⟨w.heap.size, 0, none⟩ = some (.int .i64 m.id) := (hb.cell (p := ⟨w.heap.size, 0, none⟩) zz).trans z0
   replace z1 : v1.cell? ⟨w.heap.size, 1, none⟩ = some (.int .i64 m.lim) := (hb.cell (p := ⟨w.heap.size, 1, none⟩) zz).trans z1
   replace z2 : v1.cell? ⟨w.heap.size, 2, none⟩ = some (.bool m.dr) := (hb.cell (p := ⟨w.heap.size, 2, none⟩) zz).trans z2
   replace z3 : v1.cell? ⟨w.heap.size, 3, none⟩ = some (.slice oc m.c.length cc) := (hb.cell (p := ⟨w.heap.size, 3, none⟩) zz).trans z3
   replace z4 : v1.cell? ⟨w.heap.size, 4, none⟩ = some (.slice ot m.t.length ct) := (hb.cell (p := ⟨w.heap.size, 4, none⟩) zz).trans z4
   replace zz : w.heap.size < v1.heap.size := Nat.lt_of_lt_of_le zz hb.size
   replace HB := hide (HB.out.trans (hb.mono HB.out.size))
   clear hb
   go_wp2_with fail
   refine (hs2 _).mono ?_
   rintro e v2 ⟨rfl, hb⟩
   replace z0 : v2.cell? ⟨w.heap.size, 0, none⟩ = some (.int .i64 m.id) := (hb.cell (p := ⟨w.heap.size, 0, none⟩) zz).trans z0
   replace z1 : v2.cell? ⟨w.heap.size, 1, none⟩ = some (.int .i64 m.lim) := (hb.cell (p := ⟨w.heap.size, 1, none⟩) zz).trans z1
   replace z2 : v2.cell? ⟨w.heap.size, 2, none⟩ = some (.bool m.dr) := (hb.cell (p := ⟨w.heap.size, 2, none⟩) zz).trans z2
   replace z3 : v2.cell? ⟨w.heap.size, 3, none⟩ = some (.slice oc m.c.length cc) := (hb.cell (p := ⟨w.heap.size, 3, none⟩) zz).trans z3
   replace z4 : v2.cell? ⟨w.heap.size, 4, none⟩ = some (.slice ot m.t.length ct) := (hb.cell (p := ⟨w.heap.size, 4, none⟩) zz).trans z4
   replace zz : w.heap.size < v2.heap.size := Nat.lt_of_lt_of_le zz hb.size
   replace HB := hide (HB.out.trans (hb.mono HB.out.size))
   clear hb
   go_wp2
   go_ret
   exact ⟨⟨_, rfl, by omega, by omega, by omega, by omega⟩, HB.out⟩

set_option maxHeartbeats 4000000 in
theorem toAgent_sh (v : Value) (m : Am) (w : World) (hR : RdA w.heap.size w v m) (hf : m.c.length + m.t.length ≤ 1048576) :
  Calls Tryd.prog 6 #[v] w fun e w' => ∃ v', e = .returned v' ∧ InA w.heap.size w'.heap.size w' v' m ∧ Below w.heap.size w w' := by
 obtain ⟨vc, vt, rfl, ⟨oc, cc, rfl, rc⟩, ⟨ot, ct, rfl, rt⟩⟩ := hR
 obtain ⟨W0, hW0⟩ : ∃ W, (((w.alloc (.cells #[.int .i64 m.id, .int .i64 m.lim, .bool m.dr, .slice oc m.c.length cc, .slice ot m.t.length ct] 26)).alloc (.cells #[.int .i64 0, .int .i64 0, .bool false, .slice none 0 0, .slice none 0 0] 34)).alloc (.cells #[.int .i64 0, .int .i64 0, .bool false, .slice none 0 0, .slice none 0 0] 34)) = W := ⟨_, rfl⟩
 have hb_W0 : Below w.heap.size w W0 := by rw [← hW0]; exact ((((Below.refl _ _).alloc (Nat.le_refl _) _).alloc (by simp <;> omega) _).alloc (by simp <;> omega) _)
 have HB := hide hb_W0
 clear hb_W0
 have zz : w.heap.size < W0.heap.size := by rw [← hW0]; simp <;> omega
 have z0 : W0.cell? ⟨w.heap.size, 0, none⟩ = some (.int .i64 m.id) := by rw [← hW0]; simp [go_sem]
 have z1 : W0.cell? ⟨w.heap.size, 1, none⟩ = some (.int .i64 m.lim) := by rw [← hW0]; simp [go_sem]
 have z2 : W0.cell? ⟨w.heap.size, 2, none⟩ = some (.bool m.dr) := by rw [← hW0]; simp [go_sem]
 have z3 : W0.cell? ⟨w.heap.size, 3, none⟩ = some (.slice oc m.c.length cc) := by rw [← hW0]; simp [go_sem]
 have z4 : W0.cell? ⟨w.heap.size, 4, none⟩ = some (.slice ot m.t.length ct) := by rw [← hW0]; simp [go_sem]
 have zr : w.heap.size + 1 < W0.heap.size := by rw [← hW0]; simp <;> omega
 have r0 : W0.cell? ⟨w.heap.size + 1, 0, none⟩ = some (.int .i64 0) := by rw [← hW0]; simp [go_sem]
 have r1 : W0.cell? ⟨w.heap.size + 1, 1, none⟩ = some (.int .i64 0) := by rw [← hW0]; simp [go_sem]
 have r2 : W0.cell? ⟨w.heap.size + 1, 2, none⟩ = some (.bool false) := by rw [← hW0]; simp [go_sem]
 have r3 : W0.cell? ⟨w.heap.size + 1, 3, none⟩ = some (.slice none 0 0) := by rw [← hW0]; simp [go_sem]
 have r4 : W0.cell? ⟨w.heap.size + 1, 4, none⟩ = some (.slice none 0 0) := by rw [← hW0]; simp [go_sem]
 have fr0 : W0.frozen? ⟨w.heap.size + 1, 0, none⟩ = false := by rw [← hW0]; simp [go_sem]
 have fr1 : W0.frozen? ⟨w.heap.size + 1, 1, none⟩ = false := by rw [← hW0]; simp [go_sem]
 have fr2 : W0.frozen? ⟨w.heap.size + 1, 2, none⟩ = false := by rw [← hW0]; simp [go_sem]
 have fr3 : W0.frozen? ⟨w.heap.size + 1, 3, none⟩ = false := by rw [← hW0]; simp [go_sem]
 have fr4 : W0.frozen? ⟨w.heap.size + 1, 4, none⟩ = false := by rw [← hW0]; simp [go_sem]
 have zo : w.heap.size + 1 + 1 < W0.heap.size := by rw [← hW0]; simp
 have o0 : W0.cell? ⟨w.heap.size + 1 + 1, 0, none⟩ = some (.int .i64 0) := by rw [← hW0]; simp [go_sem]
 have o1 : W0.cell? ⟨w.heap.size + 1 + 1, 1, none⟩ = some (.int .i64 0) := by rw [← hW0]; simp [go_sem]
 have o2 : W0.cell? ⟨w.heap.size + 1 + 1, 2, none⟩ = some (.bool false) := by rw [← hW0]; simp [go_sem]
 have o3 : W0.cell? ⟨w.heap.size + 1 + 1, 3, none⟩ = some (.slice none 0 0) := by rw [← hW0]; simp [go_sem]
 have o4 : W0.cell? ⟨w.heap.size + 1 + 1, 4, none⟩ = some (.slice none 0 0) := by rw [← hW0]; simp [go_sem]
 have fo0 : W0.frozen? ⟨w.heap.size + 1 + 1, 0, none⟩ = false := by rw [← hW0]; simp [go_sem]
 have fo1 : W0.frozen? ⟨w.heap.size + 1 + 1, 1, none⟩ = false := by rw [← hW0]; simp [go_sem]
 have fo2 : W0.frozen? ⟨w.heap.size + 1 + 1, 2, none⟩ = false := by rw [← hW0]; simp [go_sem]
 have fo3 : W0.frozen? ⟨w.heap.size + 1 + 1, 3, none⟩ = false := by rw [← hW0]; simp [go_sem]
 have fo4 : W0.frozen? ⟨w.heap.size + 1 + 1, 4, none⟩ = false := by rw [← hW0]; simp [go_sem]
 have rc' : ∀ W, Below w.heap.size w W → RdT W.heap.size W (tab (.slice oc m.c.length cc)) m.c := fun W h => ⟨_, rfl, oc, cc, rfl, (rc.kept h (Nat.le_refl _)).le h.size⟩
 have rt' : ∀ W, Below w.heap.size w W → RdT W.heap.size W (tab (.slice ot m.t.length ct)) m.t := fun W h => ⟨_, rfl, ot, ct, rfl, (rt.kept h (Nat.le_refl _)).le h.size⟩
 have HRC := hide rc'
 have HRT := hide rt'
 clear rc rt rc' rt'
 go_enter Tryd.func6, Tryd.ntmps6
 go_wp2_with fail
 obtain ⟨W1, hW1⟩ : ∃ W, (((W0.setCell ⟨w.heap.size + 1 + 1, 0, none⟩ (.int .i64 m.id)).setCell ⟨w.heap.size + 1 + 1, 1, none⟩ (.int .i64 m.lim)).setCell ⟨w.heap.size + 1 + 1, 2, none⟩ (.bool m.dr)) = W := ⟨_, rfl⟩
 have hq : Below (w.heap.size + 1 + 1) W0 W1 := by rw [← hW1]; exact ((((Below.refl _ _).setCell (p := ⟨w.heap.size + 1 + 1, 0, none⟩) (Nat.le_refl _) _).setCell (p := ⟨w.heap.size + 1 + 1, 1, none⟩) (Nat.le_refl _) _).setCell (p := ⟨w.heap.size + 1 + 1, 2, none⟩) (Nat.le_refl _) _)
 have hst : Stp (w.heap.size + 1 + 1) (w.heap.size + 1 + 1 + 1) W0 W1 := by rw [← hW1]; exact ((stp_set1 W0 (w.heap.size + 1 + 1) 0 _).trans (stp_set1 _ (w.heap.size + 1 + 1) 1 _)).trans (stp_set1 _ (w.heap.size + 1 + 1) 2 _)
 rw [hW1]
 have o0' : W1.cell? ⟨w.heap.size + 1 + 1, 0, none⟩ = some (.int .i64 m.id) := by rw [← hW1]; simp [go_sem, o0, o1, o2, o3, o4]
 have fo0' : W1.frozen? ⟨w.heap.size + 1 + 1, 0, none⟩ = false := by rw [← hW1]; simp [go_sem, fo0, fo1, fo2, fo3, fo4]
 have o1' : W1.cell? ⟨w.heap.size + 1 + 1, 1, none⟩ = some (.int .i64 m.lim) := by rw [← hW1]; simp [go_sem, o0, o1, o2, o3, o4]
 have fo1' : W1.frozen? ⟨w.heap.size + 1 + 1, 1, none⟩ = false := by rw [← hW1]; simp [go_sem, fo0, fo1, fo2, fo3, fo4]
 have o2' : W1.cell? ⟨w.heap.size + 1 + 1, 2, none⟩ = some (.bool m.dr) := by rw [← hW1]; simp [go_sem, o0, o1, o2, o3, o4]
 have fo2' : W1.frozen? ⟨w.heap.size + 1 + 1, 2, none⟩ = false := by rw [← hW1]; simp [go_sem, fo0, fo1, fo2, fo3, fo4]
 have o3' : W1.cell? ⟨w.heap.size + 1 + 1, 3, none⟩ = some (.slice none 0 0) := by rw [← hW1]; simp [go_sem, o0, o1, o2, o3, o4]
 have fo3' : W1.frozen? ⟨w.heap.size + 1 + 1, 3, none⟩ = false := by rw [← hW1]; simp [go_sem, fo0, fo1, fo2, fo3, fo4]
 have o4' : W1.cell? ⟨w.heap.size + 1 + 1, 4, none⟩ = some (.slice none 0 0) := by rw [← hW1]; simp [go_sem, o0, o1, o2, o3, o4]
 have fo4' : W1.frozen? ⟨w.heap.size + 1 + 1, 4, none⟩ = false := by rw [← hW1]; simp [go_sem, fo0, fo1, fo2, fo3, fo4]
 replace o0 := o0'
 replace fo0 := fo0'
 replace o1 := o1'
 replace fo1 := fo1'
 replace o2 := o2'
 replace fo2 := fo2'
 replace o3 := o3'
 replace fo3 := fo3'
 replace o4 := o4'
 replace fo4 := fo4'
 replace zo : w.heap.size + 1 + 1 < W1.heap.size := Nat.lt_of_lt_of_le zo hq.size
 replace z0 : W1.cell? ⟨w.heap.size, 0, none⟩ = some (.int .i64 m.id) := (hq.cell (p := ⟨w.heap.size, 0, none⟩) (show w.heap.size < w.heap.size + 1 + 1 by omega)).trans z0
 replace z1 : W1.cell? ⟨w.heap.size, 1, none⟩ = some (.int .i64 m.lim) := (hq.cell (p := ⟨w.heap.size, 1, none⟩) (show w.heap.size < w.heap.size + 1 + 1 by omega)).trans z1
 replace z2 : W1.cell? ⟨w.heap.size, 2, none⟩ = some (.bool m.dr) := (hq.cell (p := ⟨w.heap.size, 2, none⟩) (show w.heap.size < w.heap.size + 1 + 1 by omega)).trans z2
 replace z3 : W1.cell? ⟨w.heap.size, 3, none⟩ = some (.slice oc m.c.length cc) := (hq.cell (p := ⟨w.heap.size, 3, none⟩) (show w.heap.size < w.heap.size + 1 + 1 by omega)).trans z3
 replace z4 : W1.cell? ⟨w.heap.size, 4, none⟩ = some (.slice ot m.t.length ct) := (hq.cell (p := ⟨w.heap.size, 4, none⟩) (show w.heap.size < w.heap.size + 1 + 1 by omega)).trans z4
 replace zz : w.heap.size < W1.heap.size := Nat.lt_of_lt_of_le zz hq.size
 replace r0 : W1.cell? ⟨w.heap.size + 1, 0, none⟩ = some (.int .i64 0) := (hq.cell (p := ⟨w.heap.size + 1, 0, none⟩) (show w.heap.size + 1 < w.heap.size + 1 + 1 by omega)).trans r0
 replace r1 : W1.cell? ⟨w.heap.size + 1, 1, none⟩ = some (.int .i64 0) := (hq.cell (p := ⟨w.heap.size + 1, 1, none⟩) (show w.heap.size + 1 < w.heap.size + 1 + 1 by omega)).trans r1
 replace r2 : W1.cell? ⟨w.heap.size + 1, 2, none⟩ = some (.bool false) := (hq.cell (p := ⟨w.heap.size + 1, 2, none⟩) (show w.heap.size + 1 < w.heap.size + 1 + 1 by omega)).trans r2
 replace r3 : W1.cell? ⟨w.heap.size + 1, 3, none⟩ = some (.slice none 0 0) := (hq.cell (p := ⟨w.heap.size + 1, 3, none⟩) (show w.heap.size + 1 < w.heap.size + 1 + 1 by omega)).trans r3
 replace r4 : W1.cell? ⟨w.heap.size + 1, 4, none⟩ = some (.slice none 0 0) := (hq.cell (p := ⟨w.heap.size + 1, 4, none⟩) (show w.heap.size + 1 < w.heap.size + 1 + 1 by omega)).trans r4
 replace fr0 : W1.frozen? ⟨w.heap.size + 1, 0, none⟩ = false := (hq.frozen (p := ⟨w.heap.size + 1, 0, none⟩) (show w.heap.size + 1 < w.heap.size + 1 + 1 by omega)).trans fr0
 replace fr1 : W1.frozen? ⟨w.heap.size + 1, 1, none⟩ = false := (hq.frozen (p := ⟨w.heap.size + 1, 1, none⟩) (show w.heap.size + 1 < w.heap.size + 1 + 1 by omega)).trans fr1
 replace fr2 : W1.frozen? ⟨w.heap.size + 1, 2, none⟩ = false := (hq.frozen (p := ⟨w.heap.size + 1, 2, none⟩) (show w.heap.size + 1 < w.heap.size + 1 + 1 by omega)).trans fr2
 replace fr3 : W1.frozen? ⟨w.heap.size + 1, 3, none⟩ = false := (hq.frozen (p := ⟨w.heap.size + 1, 3, none⟩) (show w.heap.size + 1 < w.heap.size + 1 + 1 by omega)).trans fr3
 replace fr4 : W1.frozen? ⟨w.heap.size + 1, 4, none⟩ = false := (hq.frozen (p := ⟨w.heap.size + 1, 4, none⟩) (show w.heap.size + 1 < w.heap.size + 1 + 1 by omega)).trans fr4
 replace zr : w.heap.size + 1 < W1.heap.size := Nat.lt_of_lt_of_le zr hq.size
 replace HB := hide (HB.out.trans (hq.mono (by omega)))
 clear hq hst
 have hW1s : w.heap.size + 1 + 1 < W1.heap.size := zo
 refine (toTable_sh _ m.c W1 (HRC.out W1 HB.out) (by omega)).mono ?_
 rintro e v1 ⟨x1, rfl, hi1, hb⟩
 obtain ⟨y1, rfl, p1, c1, rfl, _⟩ := hi1.rd
 have HI := hide hi1
 have hs1 := hb.size
 clear hi1
 replace z0 : v1.cell? ⟨w.heap.size, 0, none⟩ = some (.int .i64 m.id) := (hb.cell (p := ⟨w.heap.size, 0, none⟩) zz).trans z0
 replace z1 : v1.cell? ⟨w.heap.size, 1, none⟩ = some (.int .i64 m.lim) := (hb.cell (p := ⟨w.heap.size, 1, none⟩) zz).trans z1
 replace z2 : v1.cell? ⟨w.heap.size, 2, none⟩ = some (.bool m.dr) := (hb.cell (p := ⟨w.heap.size, 2, none⟩) zz).trans z2
 replace z3 : v1.cell? ⟨w.heap.size, 3, none⟩ = some (.slice oc m.c.length cc) := (hb.cell (p := ⟨w.heap.size, 3, none⟩) zz).trans z3
 replace z4 : v1.cell? ⟨w.heap.size, 4, none⟩ = some (.slice ot m.t.length ct) := (hb.cell (p := ⟨w.heap.size, 4, none⟩) zz).trans z4
 replace zz : w.heap.size < v1.heap.size := Nat.lt_of_lt_of_le zz hb.size
 replace r0 : v1.cell? ⟨w.heap.size + 1, 0, none⟩ = some (.int .i64 0) := (hb.cell (p := ⟨w.heap.size + 1, 0, none⟩) zr).trans r0
 replace r1 : v1.cell? ⟨w.heap.size + 1, 1, none⟩ = some (.int .i64 0) := (hb.cell (p := ⟨w.heap.size + 1, 1, none⟩) zr).trans r1
 replace r2 : v1.cell? ⟨w.heap.size + 1, 2, none⟩ = some (.bool false) := (hb.cell (p := ⟨w.heap.size + 1, 2, none⟩) zr).trans r2
 replace r3 : v1.cell? ⟨w.heap.size + 1, 3, none⟩ = some (.slice none 0 0) := (hb.cell (p := ⟨w.heap.size + 1, 3, none⟩) zr).trans r3
 replace r4 : v1.cell? ⟨w.heap.size + 1, 4, none⟩ = some (.slice none 0 0) := (hb.cell (p := ⟨w.heap.size + 1, 4, none⟩) zr).trans r4
 replace fr0 : v1.frozen? ⟨w.heap.size + 1, 0, none⟩ = false := (hb.frozen (p := ⟨w.heap.size + 1, 0, none⟩) zr).trans fr0
 replace fr1 : v1.frozen? ⟨w.heap.size + 1, 1, none⟩ = false := (hb.frozen (p := ⟨w.heap.size + 1, 1, none⟩) zr).trans fr1
 replace fr2 : v1.frozen? ⟨w.heap.size + 1, 2, none⟩ = false := (hb.frozen (p := ⟨w.heap.size + 1, 2, none⟩) zr).trans fr2
 replace fr3 : v1.frozen? ⟨w.heap.size + 1, 3, none⟩ = false := (hb.frozen (p := ⟨w.heap.size + 1, 3, none⟩) zr).trans fr3
 replace fr4 : v1.frozen? ⟨w.heap.size + 1, 4, none⟩ = false := (hb.frozen (p := ⟨w.heap.size + 1, 4, none⟩) zr).trans fr4
 replace zr : w.heap.size + 1 < v1.heap.size := Nat.lt_of_lt_of_le zr hb.size
 replace o0 : v1.cell? ⟨w.heap.size + 1 + 1, 0, none⟩ = some (.int .i64 m.id) := (hb.cell (p := ⟨w.heap.size + 1 + 1, 0, none⟩) zo).trans o0
 replace o1 : v1.cell? ⟨w.heap.size + 1 + 1, 1, none⟩ = some (.int .i64 m.lim) := (hb.cell (p := ⟨w.heap.size + 1 + 1, 1, none⟩) zo).trans o1
 replace o2 : v1.cell? ⟨w.heap.size + 1 + 1, 2, none⟩ = some (.bool m.dr) := (hb.cell (p := ⟨w.heap.size + 1 + 1, 2, none⟩) zo).trans o2
 replace o3 : v1.cell? ⟨w.heap.size + 1 + 1, 3, none⟩ = some (.slice none 0 0) := (hb.cell (p := ⟨w.heap.size + 1 + 1, 3, none⟩) zo).trans o3
 replace o4 : v1.cell? ⟨w.heap.size + 1 + 1, 4, none⟩ = some (.slice none 0 0) := (hb.cell (p := ⟨w.heap.size + 1 + 1, 4, none⟩) zo).trans o4
 replace fo0 : v1.frozen? ⟨w.heap.size + 1 + 1, 0, none⟩ = false := (hb.frozen (p := ⟨w.heap.size + 1 + 1, 0, none⟩) zo).trans fo0
 replace fo1 : v1.frozen? ⟨w.heap.size + 1 + 1, 1, none⟩ = false := (hb.frozen (p := ⟨w.heap.size + 1 + 1, 1, none⟩) zo).trans fo1
 replace fo2 : v1.frozen? ⟨w.heap.size + 1 + 1, 2, none⟩ = false := (hb.frozen (p := ⟨w.heap.size + 1 + 1, 2, none⟩) zo).trans fo2
 replace fo3 : v1.frozen? ⟨w.heap.size + 1 + 1, 3, none⟩ = false := (hb.frozen (p := ⟨w.heap.size + 1 + 1, 3, none⟩) zo).trans fo3
 replace fo4 : v1.frozen? ⟨w.heap.size + 1 + 1, 4, none⟩ = false := (hb.frozen (p := ⟨w.heap.size + 1 + 1, 4, none⟩) zo).trans fo4
 replace zo : w.heap.size + 1 + 1 < v1.heap.size := Nat.lt_of_lt_of_le zo hb.size
 replace HB := hide (HB.out.trans (hb.mono HB.out.size))
 clear hb
 clear hW1 hW0
 go_wp2_with fail
 obtain ⟨W2, hW2⟩ : ∃ W, (v1.setCell ⟨w.heap.size + 1 + 1, 3, none⟩ (.slice p1 m.c.length c1)) = W := ⟨_, rfl⟩
 have hq : Below (w.heap.size + 1 + 1) v1 W2 := by rw [← hW2]; exact ((Below.refl _ _).setCell (p := ⟨w.heap.size + 1 + 1, 3, none⟩) (Nat.le_refl _) _)
 have hst : Stp (w.heap.size + 1 + 1) (w.heap.size + 1 + 1 + 1) v1 W2 := by rw [← hW2]; exact stp_set1 v1 (w.heap.size + 1 + 1) 3 _
 rw [hW2]
 have o0' : W2.cell? ⟨w.heap.size + 1 + 1, 0, none⟩ = some (.int .i64 m.id) := by rw [← hW2]; simp [go_sem, o0, o1, o2, o3, o4]
 have fo0' : W2.frozen? ⟨w.heap.size + 1 + 1, 0, none⟩ = false := by rw [← hW2]; simp [go_sem, fo0, fo1, fo2, fo3, fo4]
 have o1' : W2.cell? ⟨w.heap.size + 1 + 1, 1, none⟩ = some (.int .i64 m.lim) := by rw [← hW2]; simp [go_sem, o0, o1, o2, o3, o4]
 have fo1' : W2.frozen? ⟨w.heap.size + 1 + 1, 1, none⟩ = false := by rw [← hW2]; simp [go_sem, fo0, fo1, fo2, fo3, fo4]
 have o2' : W2.cell? ⟨w.heap.size + 1 + 1, 2, none⟩ = some (.bool m.dr) := by rw [← hW2]; simp [go_sem, o0, o1, o2, o3, o4]
 have fo2' : W2.frozen? ⟨w.heap.size + 1 + 1, 2, none⟩ = false := by rw [← hW2]; simp [go_sem, fo0, fo1, fo2, fo3, fo4]
 have o3' : W2.cell? ⟨w.heap.size + 1 + 1, 3, none⟩ = some (.slice p1 m.c.length c1) := by rw [← hW2]; simp [go_sem, o0, o1, o2, o3, o4]
 have fo3' : W2.frozen? ⟨w.heap.size + 1 + 1, 3, none⟩ = false := by rw [← hW2]; simp [go_sem, fo0, fo1, fo2, fo3, fo4]
 have o4' : W2.cell? ⟨w.heap.size + 1 + 1, 4, none⟩ = some (.slice none 0 0) := by rw [← hW2]; simp [go_sem, o0, o1, o2, o3, o4]
 have fo4' : W2.frozen? ⟨w.heap.size + 1 + 1, 4, none⟩ = false := by rw [← hW2]; simp [go_sem, fo0, fo1, fo2, fo3, fo4]
 replace o0 := o0'
 replace fo0 := fo0'
 replace o1 := o1'
 replace fo1 := fo1'
 replace o2 := o2'
 replace fo2 := fo2'
 replace o3 := o3'
 replace fo3 := fo3'
 replace o4 := o4'
 replace fo4 := fo4'
 replace zo : w.heap.size + 1 + 1 < W2.heap.size := Nat.lt_of_lt_of_le zo hq.size
 replace z0 : W2.cell? ⟨w.heap.size, 0, none⟩ = some (.int .i64 m.id) := (hq.cell (p := ⟨w.heap.size, 0, none⟩) (show w.heap.size < w.heap.size + 1 + 1 by omega)).trans z0
 replace z1 : W2.cell? ⟨w.heap.size, 1, none⟩ = some (.int .i64 m.lim) := (hq.cell (p := ⟨w.heap.size, 1, none⟩) (show w.heap.size < w.heap.size + 1 + 1 by omega)).trans z1
 replace z2 : W2.cell? ⟨w.heap.size, 2, none⟩ = some (.bool m.dr) := (hq.cell (p := ⟨w.heap.size, 2, none⟩) (show w.heap.size < w.heap.size + 1 + 1 by omega)).trans z2
 replace z3 : W2.cell? ⟨w.heap.size, 3, none⟩ = some (.slice oc m.c.length cc) := (hq.cell (p := ⟨w.heap.size, 3, none⟩) (show w.heap.size < w.heap.size + 1 + 1 by omega)).trans z3
 replace z4 : W2.cell? ⟨w.heap.size, 4, none⟩ = some (.slice ot m.t.length ct) := (hq.cell (p := ⟨w.heap.size, 4, none⟩) (show w.heap.size < w.heap.size + 1 + 1 by omega)).trans z4
 replace zz : w.heap.size < W2.heap.size := Nat.lt_of_lt_of_le zz hq.size
 replace r0 : W2.cell? ⟨w.heap.size + 1, 0, none⟩ = some (.int .i64 0) := (hq.cell (p := ⟨w.heap.size + 1, 0, none⟩) (show w.heap.size + 1 < w.heap.size + 1 + 1 by omega)).trans r0
 replace r1 : W2.cell? ⟨w.heap.size + 1, 1, none⟩ = some (.int .i64 0) := (hq.cell (p := ⟨w.heap.size + 1, 1, none⟩) (show w.heap.size + 1 < w.heap.size + 1 + 1 by omega)).trans r1
 replace r2 : W2.cell? ⟨w.heap.size + 1, 2, none⟩ = some (.bool false) := (hq.cell (p := ⟨w.heap.size + 1, 2, none⟩) (show w.heap.size + 1 < w.heap.size + 1 + 1 by omega)).trans r2
 replace r3 : W2.cell? ⟨w.heap.size + 1, 3, none⟩ = some (.slice none 0 0) := (hq.cell (p := ⟨w.heap.size + 1, 3, none⟩) (show w.heap.size + 1 < w.heap.size + 1 + 1 by omega)).trans r3
 replace r4 : W2.cell? ⟨w.heap.size + 1, 4, none⟩ = some (.slice none 0 0) := (hq.cell (p := ⟨w.heap.size + 1, 4, none⟩) (show w.heap.size + 1 < w.heap.size + 1 + 1 by omega)).trans r4
 replace fr0 : W2.frozen? ⟨w.heap.size + 1, 0, none⟩ = false := (hq.frozen (p := ⟨w.heap.size + 1, 0, none⟩) (show w.heap.size + 1 < w.heap.size + 1 + 1 by omega)).trans fr0
 replace fr1 : W2.frozen? ⟨w.heap.size + 1, 1, none⟩ = false := (hq.frozen (p := ⟨w.heap.size + 1, 1, none⟩) (show w.heap.size + 1 < w.heap.size + 1 + 1 by omega)).trans fr1
 replace fr2 : W2.frozen? ⟨w.heap.size + 1, 2, none⟩ = false := (hq.frozen (p := ⟨w.heap.size + 1, 2, none⟩) (show w.heap.size + 1 < w.heap.size + 1 + 1 by omega)).trans fr2
 replace fr3 : W2.frozen? ⟨w.heap.size + 1, 3, none⟩ = false := (hq.frozen (p := ⟨w.heap.size + 1, 3, none⟩) (show w.heap.size + 1 < w.heap.size + 1 + 1 by omega)).trans fr3
 replace fr4 : W2.frozen? ⟨w.heap.size + 1, 4, none⟩ = false := (hq.frozen (p := ⟨w.heap.size + 1, 4, none⟩) (show w.heap.size + 1 < w.heap.size + 1 + 1 by omega)).trans fr4
 replace zr : w.heap.size + 1 < W2.heap.size := Nat.lt_of_lt_of_le zr hq.size
 replace HI := hide (HI.out.step hst (.inl (by omega)))
 have hs2 : W1.heap.size ≤ W2.heap.size := by have := hq.size; omega
 have hs3 : v1.heap.size ≤ W2.heap.size := hq.size
 replace HB := hide (HB.out.trans (hq.mono (by omega)))
 clear hq hst
 refine (toTable_sh _ m.t W2 (HRT.out W2 HB.out) (by omega)).mono ?_
 rintro e v2 ⟨x2, rfl, hi2, hb⟩
 obtain ⟨y2, rfl, p2, c2, rfl, _⟩ := hi2.rd
 have HJ := hide hi2
 have hs4 := hb.size
 replace HI := hide (HI.out.step (Stp.of (lo := 0) (hi := 0) hb) (.inl (Nat.zero_le _)))
 clear hi2
 replace z0 : v2.cell? ⟨w.heap.size, 0, none⟩ = some (.int .i64 m.id) := (hb.cell (p := ⟨w.heap.size, 0, none⟩) zz).trans z0
 replace z1 : v2.cell? ⟨w.heap.size, 1, none⟩ = some (.int .i64 m.lim) := (hb.cell (p := ⟨w.heap.size, 1, none⟩) zz).trans z1
 replace z2 : v2.cell? ⟨w.heap.size, 2, none⟩ = some (.bool m.dr) := (hb.cell (p := ⟨w.heap.size, 2, none⟩) zz).trans z2
 replace z3 : v2.cell? ⟨w.heap.size, 3, none⟩ = some (.slice oc m.c.length cc) := (hb.cell (p := ⟨w.heap.size, 3, none⟩) zz).trans z3
 replace z4 : v2.cell? ⟨w.heap.size, 4, none⟩ = some (.slice ot m.t.length ct) := (hb.cell (p := ⟨w.heap.size, 4, none⟩) zz).trans z4
 replace zz : w.heap.size < v2.heap.size := Nat.lt_of_lt_of_le zz hb.size
 replace r0 : v2.cell? ⟨w.heap.size + 1, 0, none⟩ = some (.int .i64 0) := (hb.cell (p := ⟨w.heap.size + 1, 0, none⟩) zr).trans r0
 replace r1 : v2.cell? ⟨w.heap.size + 1, 1, none⟩ = some (.int .i64 0) := (hb.cell (p := ⟨w.heap.size + 1, 1, none⟩) zr).trans r1
 replace r2 : v2.cell? ⟨w.heap.size + 1, 2, none⟩ = some (.bool false) := (hb.cell (p := ⟨w.heap.size + 1, 2, none⟩) zr).trans r2
 replace r3 : v2.cell? ⟨w.heap.size + 1, 3, none⟩ = some (.slice none 0 0) := (hb.cell (p := ⟨w.heap.size + 1, 3, none⟩) zr).trans r3
 replace r4 : v2.cell? ⟨w.heap.size + 1, 4, none⟩ = some (.slice none 0 0) := (hb.cell (p := ⟨w.heap.size + 1, 4, none⟩) zr).trans r4
 replace fr0 : v2.frozen? ⟨w.heap.size + 1, 0, none⟩ = false := (hb.frozen (p := ⟨w.heap.size + 1, 0, none⟩) zr).trans fr0
 replace fr1 : v2.frozen? ⟨w.heap.size + 1, 1, none⟩ = false := (hb.frozen (p := ⟨w.heap.size + 1, 1, none⟩) zr).trans fr1
 replace fr2 : v2.frozen? ⟨w.heap.size + 1, 2, none⟩ = false := (hb.frozen (p := ⟨w.heap.size + 1, 2, none⟩) zr).trans fr2
 replace fr3 : v2.frozen? ⟨w.heap.size + 1, 3, none⟩ = false := (hb.frozen (p := ⟨w.heap.size + 1, 3, none⟩) zr).trans fr3
 replace fr4 : v2.frozen? ⟨w.heap.size + 1, 4, none⟩ = false := (hb.frozen (p := ⟨w.heap.size + 1, 4, none⟩) zr).trans fr4
 replace zr : w.heap.size + 1 < v2.heap.size := Nat.lt_of_lt_of_le zr hb.size
 replace o0 : v2.cell? ⟨w.heap.size + 1 + 1, 0, none⟩ = some (.int .i64 m.id) := (hb.cell (p := ⟨w.heap.size + 1 + 1, 0, none⟩) zo).trans o0
 replace o1 : v2.cell? ⟨w.heap.size + 1 + 1, 1, none⟩ = some (.int .i64 m.lim) := (hb.cell (p := ⟨w.heap.size + 1 + 1, 1, none⟩) zo).trans o1
 replace o2 : v2.cell? ⟨w.heap.size + 1 + 1, 2, none⟩ = some (.bool m.dr) := (hb.cell (p := ⟨w.heap.size + 1 + 1, 2, none⟩) zo).trans o2
 replace o3 : v2.cell? ⟨w.heap.size + 1 + 1, 3, none⟩ = some (.slice p1 m.c.length c1) := (hb.cell (p := ⟨w.heap.size + 1 + 1, 3, none⟩) zo).trans o3
 replace o4 : v2.cell? ⟨w.heap.size + 1 + 1, 4, none⟩ = some (.slice none 0 0) := (hb.cell (p := ⟨w.heap.size + 1 + 1, 4, none⟩) zo).trans o4
 replace fo0 : v2.frozen? ⟨w.heap.size + 1 + 1, 0, none⟩ = false := (hb.frozen (p := ⟨w.heap.size + 1 + 1, 0, none⟩) zo).trans fo0
 replace fo1 : v2.frozen? ⟨w.heap.size + 1 + 1, 1, none⟩ = false := (hb.frozen (p := ⟨w.heap.size + 1 + 1, 1, none⟩) zo).trans fo1
 replace fo2 : v2.frozen? ⟨w.heap.size + 1 + 1, 2, none⟩ = false := (hb.frozen (p := ⟨w.heap.size + 1 + 1, 2, none⟩) zo).trans fo2
 replace fo3 : v2.frozen? ⟨w.heap.size + 1 + 1, 3, none⟩ = false := (hb.frozen (p := ⟨w.heap.size + 1 + 1, 3, none⟩) zo).trans fo3
 replace fo4 : v2.frozen? ⟨w.heap.size + 1 + 1, 4, none⟩ = false := (hb.frozen (p := ⟨w.heap.size + 1 + 1, 4, none⟩) zo).trans fo4
 replace zo : w.heap.size + 1 + 1 < v2.heap.size := Nat.lt_of_lt_of_le zo hb.size
 replace HB := hide (HB.out.trans (hb.mono HB.out.size))
 clear hb
 clear hW2
 go_wp2
 refine bodyPost_ret (v := agt m.id m.lim m.dr (.slice p1 m.c.length c1) (.slice p2 m.t.length c2)) (by simp [results, Tryd.results6, go_sem, r0, r1, r2, r3, r4]) rfl ⟨_, rfl, ?_, ?_⟩
 ·have a1 := (HI.out.step (stp_set1 v2 (w.heap.size + 1 + 1) 4 (.slice p2 m.t.length c2)) (.inl (by omega))).step (stp_set5v _ (w.heap.size + 1) (.int .i64 m.id) (.int .i64 m.lim) (.bool m.dr) (.slice p1 m.c.length c1) (.slice p2 m.t.length c2)) (.inl (by omega))
  have a2 := (HJ.out.step (stp_set1 v2 (w.heap.size + 1 + 1) 4 (.slice p2 m.t.length c2)) (.inl (by omega))).step (stp_set5v _ (w.heap.size + 1) (.int .i64 m.id) (.int .i64 m.lim) (.bool m.dr) (.slice p1 m.c.length c1) (.slice p2 m.t.length c2)) (.inl (by omega))
  exact ⟨_, _, W2.heap.size, rfl, InRow.mono a1.row (by omega) (by omega), InRow.mono a2.row (Nat.le_refl _) (by simp), by omega, by simp; omega⟩
 ·exact below_set5v (HB.out.setCell (p := ⟨w.heap.size + 1 + 1, 4, none⟩) (show w.heap.size ≤ w.heap.size + 1 + 1 by omega) _) (by omega) _ _ _ _ _

set_option maxHeartbeats 2000000 in
theorem eqAgent_sh (u1 u2 : Value) (m : Am) (w : World) (h1 : RdA w.heap.size w u1 m) (h2 : RdA w.heap.size w u2 m) (hf : m.c.length + m.t.length ≤ 1048576) :
  Calls Tryd.prog 9 #[u1, u2] w fun e w' => e = .returned (.bool true) ∧ Below w.heap.size w w' := by
 obtain ⟨vc, vt, rfl, ⟨oc, cc, rfl, rc⟩, ⟨ot, ct, rfl, rt⟩⟩ := h1
 obtain ⟨vc2, vt2, rfl, ⟨oc2, cc2, rfl, sc⟩, ⟨ot2, ct2, rfl, st⟩⟩ := h2
 obtain ⟨W0, hW0⟩ : ∃ W, ((w.alloc (.cells #[.int .i64 m.id, .int .i64 m.lim, .bool m.dr, .slice oc m.c.length cc, .slice ot m.t.length ct] 34)).alloc (.cells #[.int .i64 m.id, .int .i64 m.lim, .bool m.dr, .slice oc2 m.c.length cc2, .slice ot2 m.t.length ct2] 34)) = W := ⟨_, rfl⟩
 have hb_W0 : Below w.heap.size w W0 := by rw [← hW0]; exact (((Below.refl _ _).alloc (Nat.le_refl _) _).alloc (by simp <;> omega) _)
 have HB := hide hb_W0
 clear hb_W0
 have zx : w.heap.size < W0.heap.size := by rw [← hW0]; simp <;> omega
 have x0 : W0.cell? ⟨w.heap.size, 0, none⟩ = some (.int .i64 m.id) := by rw [← hW0]; simp [go_sem]
 have x1 : W0.cell? ⟨w.heap.size, 1, none⟩ = some (.int .i64 m.lim) := by rw [← hW0]; simp [go_sem]
 have x2 : W0.cell? ⟨w.heap.size, 2, none⟩ = some (.bool m.dr) := by rw [← hW0]; simp [go_sem]
 have x3 : W0.cell? ⟨w.heap.size, 3, none⟩ = some (.slice oc m.c.length cc) := by rw [← hW0]; simp [go_sem]
 have x4 : W0.cell? ⟨w.heap.size, 4, none⟩ = some (.slice ot m.t.length ct) := by rw [← hW0]; simp [go_sem]
 have zy : w.heap.size + 1 < W0.heap.size := by rw [← hW0]; simp
 have y0 : W0.cell? ⟨w.heap.size + 1, 0, none⟩ = some (.int .i64 m.id) := by rw [← hW0]; simp [go_sem]
 have y1 : W0.cell? ⟨w.heap.size + 1, 1, none⟩ = some (.int .i64 m.lim) := by rw [← hW0]; simp [go_sem]
 have y2 : W0.cell? ⟨w.heap.size + 1, 2, none⟩ = some (.bool m.dr) := by rw [← hW0]; simp [go_sem]
 have y3 : W0.cell? ⟨w.heap.size + 1, 3, none⟩ = some (.slice oc2 m.c.length cc2) := by rw [← hW0]; simp [go_sem]
 have y4 : W0.cell? ⟨w.heap.size + 1, 4, none⟩ = some (.slice ot2 m.t.length ct2) := by rw [← hW0]; simp [go_sem]
 have hc := eqTable_sh (tab (.slice oc m.c.length cc)) (tab (.slice oc2 m.c.length cc2)) m.c W0 ⟨_, rfl, oc, cc, rfl, (rc.kept HB.out (Nat.le_refl _)).le HB.out.size⟩ ⟨_, rfl, oc2, cc2, rfl, (sc.kept HB.out (Nat.le_refl _)).le HB.out.size⟩ (by omega)
 have ht := fun W (h : Below w.heap.size w W) => eqTable_sh (tab (.slice ot m.t.length ct)) (tab (.slice ot2 m.t.length ct2)) m.t W ⟨_, rfl, ot, ct, rfl, (rt.kept h (Nat.le_refl _)).le h.size⟩ ⟨_, rfl, ot2, ct2, rfl, (st.kept h (Nat.le_refl _)).le h.size⟩ (by omega)
 have HT := hide ht
 clear ht rc rt sc st
 go_enter Tryd.func9, Tryd.ntmps9
 go_wp2_with fail
 refine (hc).mono ?_
 rintro e v1 ⟨rfl, hb⟩
 replace x0 : v1.cell? ⟨w.heap.size, 0, none⟩ = some (.int .i64 m.id) := (hb.cell (p := ⟨w.heap.size, 0, none⟩) zx).trans x0
 replace x1 : v1.cell? ⟨w.heap.size, 1, none⟩ = some (.int .i64 m.lim) := (hb.cell (p := ⟨w.heap.size, 1, none⟩) zx).trans x1
 replace x2 : v1.cell? ⟨w.heap.size, 2, none⟩ = some (.bool m.dr) := (hb.cell (p := ⟨w.heap.size, 2, none⟩) zx).trans x2
 replace x3 : v1.cell? ⟨w.heap.size, 3, none⟩ = some (.slice oc m.c.length cc) := (hb.cell (p := ⟨w.heap.size, 3, none⟩) zx).trans x3
 replace x4 : v1.cell? ⟨w.heap.size, 4, none⟩ = some (.slice ot m.t.length ct) := (hb.cell (p := ⟨w.heap.size, 4, none⟩) zx).trans x4
 replace zx : w.heap.size < v1.heap.size := Nat.lt_of_lt_of_le zx hb.size
 replace y0 : v1.cell? ⟨w.heap.size + 1, 0, none⟩ = some (.int .i64 m.id) := (hb.cell (p := ⟨w.heap.size + 1, 0, none⟩) zy).trans y0
 replace y1 : v1.cell? ⟨w.heap.size + 1, 1, none⟩ = some (.int .i64 m.lim) := (hb.cell (p := ⟨w.heap.size + 1, 1, none⟩) zy).trans y1
 replace y2 : v1.cell? ⟨w.heap.size + 1, 2, none⟩ = some (.bool m.dr) := (hb.cell (p := ⟨w.heap.size + 1, 2, none⟩) zy).trans y2
 replace y3 : v1.cell? ⟨w.heap.size + 1, 3, none⟩ = some (.slice oc2 m.c.length cc2) := (hb.cell (p := ⟨w.heap.size + 1, 3, none⟩) zy).trans y3
 replace y4 : v1.cell? ⟨w.heap.size + 1, 4, none⟩ = some (.slice ot2 m.t.length ct2) := (hb.cell (p := ⟨w.heap.size + 1, 4, none⟩) zy).trans y4
 replace zy : w.heap.size + 1 < v1.heap.size := Nat.lt_of_lt_of_le zy hb.size
 replace HB := hide (HB.out.trans (hb.mono HB.out.size))
 clear hb
 go_wp2_with fail
 refine (HT.out v1 HB.out).mono ?_
 rintro e v2 ⟨rfl, hb⟩
 replace x0 : v2.cell? ⟨w.heap.size, 0, none⟩ = some (.int .i64 m.id) := (hb.cell (p := ⟨w.heap.size, 0, none⟩) zx).trans x0
 replace x1 : v2.cell? ⟨w.heap.size, 1, none⟩ = some (.int .i64 m.lim) := (hb.cell (p := ⟨w.heap.size, 1, none⟩) zx).trans x1
 replace x2 : v2.cell? ⟨w.heap.size, 2, none⟩ = some (.bool m.dr) := (hb.cell (p := ⟨w.heap.size, 2, none⟩) zx).trans x2
 replace x3 : v2.cell? ⟨w.heap.size, 3, none⟩ = some (.slice oc m.c.length cc) := (hb.cell (p := ⟨w.heap.size, 3, none⟩) zx).trans x3
 replace x4 : v2.cell? ⟨w.heap.size, 4, none⟩ = some (.slice ot m.t.length ct) := (hb.cell (p := ⟨w.heap.size, 4, none⟩) zx).trans x4
 replace zx : w.heap.size < v2.heap.size := Nat.lt_of_lt_of_le zx hb.size
 replace y0 : v2.cell? ⟨w.heap.size + 1, 0, none⟩ = some (.int .i64 m.id) := (hb.cell (p := ⟨w.heap.size + 1, 0, none⟩) zy).trans y0
 replace y1 : v2.cell? ⟨w.heap.size + 1, 1, none⟩ = some (.int .i64 m.lim) := (hb.cell (p := ⟨w.heap.size + 1, 1, none⟩) zy).trans y1
 replace y2 : v2.cell? ⟨w.heap.size + 1, 2, none⟩ = some (.bool m.dr) := (hb.cell (p := ⟨w.heap.size + 1, 2, none⟩) zy).trans y2
 replace y3 : v2.cell? ⟨w.heap.size + 1, 3, none⟩ = some (.slice oc2 m.c.length cc2) := (hb.cell (p := ⟨w.heap.size + 1, 3, none⟩) zy).trans y3
 replace y4 : v2.cell? ⟨w.heap.size + 1, 4, none⟩ = some (.slice ot2 m.t.length ct2) := (hb.cell (p := ⟨w.heap.size + 1, 4, none⟩) zy).trans y4
 replace zy : w.heap.size + 1 < v2.heap.size := Nat.lt_of_lt_of_le zy hb.size
 replace HB := hide (HB.out.trans (hb.mono HB.out.size))
 clear hb
 go_wp2
 go_ret
 exact ⟨rfl, HB.out⟩

/-- The marks of an agent. -/
def mkA (k : Int) (m : Am) : Am := { m with c := mkTb k m.c, t := mkTb (k + 5 * m.c.length) m.t }
theorem InRow.tight {lo hi : Nat} {w : World} {e : TypeId} {size : Nat} {v : Value} {n : Nat} {xs : List Value} (h : InRow lo hi w e size v n xs) : InRow lo (min hi w.heap.size) w e size v n xs :=
 ⟨h.1, fun b e => by have h1 := h.2 b e; have h2 := (h.1.lt b e).2; omega⟩
theorem Stp.wide {a b lo hi : Nat} {w w' : World} (h : Stp a b w w') (h1 : lo ≤ a) (h2 : b ≤ hi) : Stp lo hi w w' := ⟨h.os, h.tape, h.output, h.size, fun k hk hn => h.block k hk (by omega)⟩
set_option maxHeartbeats 2000000 in
theorem markAgent_sh (lo hi : Nat) (v : Value) (m : Am) (k : Int) (w : World) (hv : InA lo hi w v m) (h0 : 0 ≤ k) (h1 : k ≤ 1000000) (hf : m.c.length + m.t.length ≤ 1048576) :
  Calls Tryd.prog 10 #[v, .int .i64 k] w fun e w' => e = .returned (.int .i64 (k + 5 * m.c.length + 5 * m.t.length)) ∧ InA lo hi w' v (mkA k m) ∧ Stp lo hi w w' := by
 obtain ⟨vc, vt, mid, rfl, ic, it, hm1, hm2⟩ := hv
 obtain ⟨oc, cc, rfl, _⟩ := InL.rd (L := layS) ic
 obtain ⟨ot, ct, rfl, _⟩ := InL.rd (L := layS) it
 obtain ⟨W0, hW0⟩ : ∃ W, w.alloc (.cells #[.int .i64 m.id, .int .i64 m.lim, .bool m.dr, .slice oc m.c.length cc, .slice ot m.t.length ct] 34) = W := ⟨_, rfl⟩
 have hb0 : Below w.heap.size w W0 := by rw [← hW0]; exact (Below.refl _ _).alloc (Nat.le_refl _) _
 have HB := hide hb0
 have bx : W0.heap[w.heap.size]? = some (.cells #[.int .i64 m.id, .int .i64 m.lim, .bool m.dr, .slice oc m.c.length cc, .slice ot m.t.length ct] 34 (0, 0)) := by rw [← hW0]; exact World.alloc_heap_new w _
 have tc : InTb lo (min mid w.heap.size) W0 (tab (.slice oc m.c.length cc)) m.c := ⟨_, rfl, InRow.step ic.tight (Stp.of (lo := 0) (hi := 0) hb0) (.inl (Nat.zero_le _))⟩
 have tt : InTb mid (min hi w.heap.size) W0 (tab (.slice ot m.t.length ct)) m.t := ⟨_, rfl, InRow.step it.tight (Stp.of (lo := 0) (hi := 0) hb0) (.inl (Nat.zero_le _))⟩
 have z3 : W0.cell? ⟨w.heap.size, 3, none⟩ = some (.slice oc m.c.length cc) := block_cell1 bx 3 _ rfl
 have HX := hide bx
 have HC := hide tc
 have HT := hide tt
 clear bx tc tt ic it hb0
 go_enter Tryd.func10, Tryd.ntmps10
 go_wp2_with fail
 refine (markTable_sh lo (min mid w.heap.size) _ m.c k W0 HC.out h0 (by omega) (by omega)).mono ?_
 rintro e w2 ⟨rfl, tc2, sp⟩
 have HX2 := hide (sp.box HX.out (.inr (Nat.min_le_right _ _)))
 have HT2 := hide (HT.out.step sp (.inl (Nat.min_le_left _ _)))
 have HC2 := hide tc2
 have HS2 : Hid (Stp lo hi w w2) := (Stp.of HB.out).trans (sp.wide (Nat.le_refl _) (by omega))
 have z4 : w2.cell? ⟨w.heap.size, 4, none⟩ = some (.slice ot m.t.length ct) := block_cell1 HX2.out 4 _ rfl
 clear HX HC HT tc2 sp z3 hW0
 go_wp2_with fail
 refine (markTable_sh mid (min hi w.heap.size) _ m.t (k + 5 * m.c.length) w2 HT2.out (by omega) (by omega) (by omega)).mono ?_
 rintro e w3 ⟨rfl, tt3, sp⟩
 have HC3 := hide (HC2.out.step sp (.inr (Nat.min_le_left _ _)))
 have HT3 := hide tt3
 have HS3 : Hid (Stp lo hi w w3) := HS2.out.trans (sp.wide hm1 (by omega))
 clear z4 HX2 HC2 HT2 HS2 tt3 sp
 go_wp2
 go_ret
 exact ⟨rfl, ⟨_, _, mid, by simp [mkA, mkTb], InRow.mono HC3.out.row (Nat.le_refl _) (Nat.min_le_left _ _), InRow.mono HT3.out.row (Nat.le_refl _) (Nat.min_le_left _ _), hm1, hm2⟩, HS3.out⟩
end Go.Proofs.YtljogkoaaidlcaaDoor

