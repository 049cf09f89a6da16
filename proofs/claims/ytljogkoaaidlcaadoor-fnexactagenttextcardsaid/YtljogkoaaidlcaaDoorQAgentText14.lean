/- Several texts in one: SAg, SAg2, SPut, DropMath, WayMath, WayMath2, DueMath. -/
import Derived.Test.YtljogkoaaidlcaaDoorQAgentText06
import Derived.Test.YtljogkoaaidlcaaDoorQAgentText12
import Derived.Test.YtljogkoaaidlcaaDoorQAgentText13
import Derived.Test.YtljogkoaaidlcaaDoorQAgentText10
/- Agents that may be, on both sides; the program's agent, from one and back. -/
namespace Go.Proofs.YtljogkoaaidlcaaDoor
open Go.ChangeShapes Go.WideShapes Go.ChangeAt Go.RowKit Go.Joins
set_option linter.unusedVariables false
set_option linter.unusedSimpArgs false

/-- An agent that may be. -/
def agentOkB (m : Am) : Bool := decide (0 ≤ m.id) && decide (m.id < 6) && decide (0 ≤ m.lim) && decide (m.lim ≤ 16) && tableOkB m.c && tableOkB m.t
theorem agentOkB_parts {m : Am} : agentOkB m = true ↔ (0 ≤ m.id ∧ m.id < 6 ∧ 0 ≤ m.lim ∧ m.lim ≤ 16 ∧ tableOkB m.c = true ∧ tableOkB m.t = true ∧ True) := by simp [agentOkB, and_assoc]
theorem agentOkB_tabs {m : Am} (h1 : 0 ≤ m.id) (h2 : m.id < 6) (h3 : 0 ≤ m.lim) (h4 : m.lim ≤ 16) : agentOkB m = (tableOkB m.c && tableOkB m.t) := by simp [agentOkB, h1, h2, h3, h4]
theorem agentOkB_four (m : Am) : agentOkB m = ((decide (0 ≤ m.id) && decide (m.id < 6)) && (decide (0 ≤ m.lim) && decide (m.lim ≤ 16)) && (tableOkB m.c && tableOkB m.t)) := by simp [agentOkB, Bool.and_assoc]

set_option maxHeartbeats 2000000 in
theorem specAgentOk_sh (v : Value) (m : Am) (w : World) (hR : RdA w.heap.size w v m) (hf : m.c.length + m.t.length ≤ 1048576) :
  Calls Tryd.prog 14 #[v] w fun e w' => e = .returned (.bool (agentOkB m)) ∧ Below w.heap.size w w' := by
 obtain ⟨vc, vt, rfl, ⟨oc, cc, rfl, rc⟩, ⟨ot, ct, rfl, rt⟩⟩ := hR
 obtain ⟨W0, hW0⟩ : ∃ W, (w.alloc (.cells #[.int .i64 m.id, .int .i64 m.lim, .bool m.dr, .slice oc m.c.length cc, .slice ot m.t.length ct] 34)) = W := ⟨_, rfl⟩
 have hb_W0 : Below w.heap.size w W0 := by rw [← hW0]; exact ((Below.refl _ _).alloc (Nat.le_refl _) _)
 have HB := hide hb_W0
 clear hb_W0
 have zz : w.heap.size < W0.heap.size := by rw [← hW0]; simp
 have z0 : W0.cell? ⟨w.heap.size, 0, none⟩ = some (.int .i64 m.id) := by rw [← hW0]; simp [go_sem]
 have z1 : W0.cell? ⟨w.heap.size, 1, none⟩ = some (.int .i64 m.lim) := by rw [← hW0]; simp [go_sem]
 have z2 : W0.cell? ⟨w.heap.size, 2, none⟩ = some (.bool m.dr) := by rw [← hW0]; simp [go_sem]
 have z3 : W0.cell? ⟨w.heap.size, 3, none⟩ = some (.slice oc m.c.length cc) := by rw [← hW0]; simp [go_sem]
 have z4 : W0.cell? ⟨w.heap.size, 4, none⟩ = some (.slice ot m.t.length ct) := by rw [← hW0]; simp [go_sem]
 have hcc := specTableOk_any oc cc m.c W0 ((rc.kept HB.out (Nat.le_refl _)).le HB.out.size) (by omega)
 have hct := fun W (h : Below w.heap.size w W) => specTableOk_any ot ct m.t W ((rt.kept h (Nat.le_refl _)).le h.size) (by omega)
 have HCT := hide hct
 clear hct rc rt
 by_cases h1 : 0 ≤ m.id
 ·by_cases h2 : m.id < 6
  ·by_cases h3 : 0 ≤ m.lim
   ·by_cases h4 : m.lim ≤ 16
    ·have HE := hide (agentOkB_tabs h1 h2 h3 h4)
     generalize tableOkB m.c = t1 at *
     cases t1 with
     | false =>
      go_enter Tryd.func14, Tryd.ntmps14
      go_wp2_with fail
      refine (hcc).mono ?_
      rintro e v1 ⟨rfl, hb⟩
      replace z0 : v1.cell? ⟨w.heap.size, 0, none⟩ = some (.int .i64 m.id) := (hb.cell (p := ⟨w.heap.size, 0, none⟩) zz).trans z0
      replace z1 : v1.cell? ⟨w.heap.size, 1, none⟩ = some (.int .i64 m.lim) := (hb.cell (p := ⟨w.heap.size, 1, none⟩) zz).trans z1
      replace z2 : v1.cell? ⟨w.heap.size, 2, none⟩ = some (.bool m.dr) := (hb.cell (p := ⟨w.heap.size, 2, none⟩) zz).trans z2
      replace z3 : v1.cell? ⟨w.heap.size, 3, none⟩ = some (.slice oc m.c.length cc) := (hb.cell (p := ⟨w.heap.size, 3, none⟩) zz).trans z3
      replace z4 : v1.cell? ⟨w.heap.size, 4, none⟩ = some (.slice ot m.t.length ct) := (hb.cell (p := ⟨w.heap.size, 4, none⟩) zz).trans z4
      replace zz : w.heap.size < v1.heap.size := Nat.lt_of_lt_of_le zz hb.size
      replace HB := hide (HB.out.trans (hb.mono HB.out.size))
      clear hb
      go_wp2
      go_ret
      exact ⟨by rw [HE.out]; rfl, HB.out⟩
     | true =>
      go_enter Tryd.func14, Tryd.ntmps14
      go_wp2_with fail
      refine (hcc).mono ?_
      rintro e v1 ⟨rfl, hb⟩
      replace z0 : v1.cell? ⟨w.heap.size, 0, none⟩ = some (.int .i64 m.id) := (hb.cell (p := ⟨w.heap.size, 0, none⟩) zz).trans z0
      replace z1 : v1.cell? ⟨w.heap.size, 1, none⟩ = some (.int .i64 m.lim) := (hb.cell (p := ⟨w.heap.size, 1, none⟩) zz).trans z1
      replace z2 : v1.cell? ⟨w.heap.size, 2, none⟩ = some (.bool m.dr) := (hb.cell (p := ⟨w.heap.size, 2, none⟩) zz).trans z2
      replace z3 : v1.cell? ⟨w.heap.size, 3, none⟩ = some (.slice oc m.c.length cc) := (hb.cell (p := ⟨w.heap.size, 3, none⟩) zz).trans z3
      replace z4 : v1.cell? ⟨w.heap.size, 4, none⟩ = some (.slice ot m.t.length ct) := (hb.cell (p := ⟨w.heap.size, 4, none⟩) zz).trans z4
      replace zz : w.heap.size < v1.heap.size := Nat.lt_of_lt_of_le zz hb.size
      replace HB := hide (HB.out.trans (hb.mono HB.out.size))
      clear hb
      go_wp2_with fail
      refine (HCT.out v1 HB.out).mono ?_
      rintro e v2 ⟨rfl, hb⟩
      replace z0 : v2.cell? ⟨w.heap.size, 0, none⟩ = some (.int .i64 m.id) := (hb.cell (p := ⟨w.heap.size, 0, none⟩) zz).trans z0
      replace z1 : v2.cell? ⟨w.heap.size, 1, none⟩ = some (.int .i64 m.lim) := (hb.cell (p := ⟨w.heap.size, 1, none⟩) zz).trans z1
      replace z2 : v2.cell? ⟨w.heap.size, 2, none⟩ = some (.bool m.dr) := (hb.cell (p := ⟨w.heap.size, 2, none⟩) zz).trans z2
      replace z3 : v2.cell? ⟨w.heap.size, 3, none⟩ = some (.slice oc m.c.length cc) := (hb.cell (p := ⟨w.heap.size, 3, none⟩) zz).trans z3
      replace z4 : v2.cell? ⟨w.heap.size, 4, none⟩ = some (.slice ot m.t.length ct) := (hb.cell (p := ⟨w.heap.size, 4, none⟩) zz).trans z4
      replace zz : w.heap.size < v2.heap.size := Nat.lt_of_lt_of_le zz hb.size
      replace HB := hide (HB.out.trans (hb.mono HB.out.size))
      clear hb
      go_wp2
      all_goals go_ret
      all_goals exact ⟨by rw [HE.out]; first | rfl | simp, HB.out⟩
    ·have HN := hide (bool_no (agentOkB_parts (m := m)) (fun q => h4 q.2.2.2.1))
     clear hcc HCT
     go_enter Tryd.func14, Tryd.ntmps14
     go_wp2
     all_goals go_ret
     all_goals exact ⟨ret_bool HN.out, HB.out⟩
   ·have HN := hide (bool_no (agentOkB_parts (m := m)) (fun q => h3 q.2.2.1))
    clear hcc HCT
    go_enter Tryd.func14, Tryd.ntmps14
    go_wp2
    all_goals go_ret
    all_goals exact ⟨ret_bool HN.out, HB.out⟩
  ·have HN := hide (bool_no (agentOkB_parts (m := m)) (fun q => h2 q.2.1))
   clear hcc HCT
   go_enter Tryd.func14, Tryd.ntmps14
   go_wp2
   all_goals go_ret
   all_goals exact ⟨ret_bool HN.out, HB.out⟩
 ·have HN := hide (bool_no (agentOkB_parts (m := m)) (fun q => h1 q.1))
  clear hcc HCT
  go_enter Tryd.func14, Tryd.ntmps14
  go_wp2
  all_goals go_ret
  all_goals exact ⟨ret_bool HN.out, HB.out⟩

theorem isBackA_any (n : Int) (w : World) : Calls Tryd.prog 41 #[.int .i64 n] w fun e w' => e = .returned (.bool (decide (0 ≤ n) && decide (n < 6))) ∧ w = w' := by
 go_enter Tryd.func41, Tryd.ntmps41
 go_wp2
 all_goals go_ret
 all_goals refine ⟨ret_bool ?_, rfl⟩
 all_goals first | (simp [*]; done) | (simp; omega)
theorem isLimit_any (n : Int) (w : World) : Calls Tryd.prog 42 #[.int .i64 n] w fun e w' => e = .returned (.bool (decide (0 ≤ n) && decide (n ≤ 16))) ∧ w = w' := by
 go_enter Tryd.func42, Tryd.ntmps42
 go_wp2
 all_goals go_ret
 all_goals refine ⟨ret_bool ?_, rfl⟩
 all_goals first | (simp [*]; done) | (simp; omega)

/-- The program's agent: its two rows of cells, and what else it is. -/
abbrev agi (vc vt : Value) (i l : Int) (d : Bool) : Value := .agg #[vc, vt, .int .i64 i, .int .i64 l, .bool d]
def OwnG (lo hi : Nat) (w : World) (v : Value) (m : Am) : Prop := ∃ g h mid, v = agi (.slice (some ⟨g, 0, none⟩) m.c.length m.c.length) (.slice (some ⟨h, 0, none⟩) m.t.length m.t.length) m.id m.lim m.dr ∧ InC5 lo mid w (.slice (some ⟨g, 0, none⟩) m.c.length m.c.length) m.c ∧ InC5 mid hi w (.slice (some ⟨h, 0, none⟩) m.t.length m.t.length) m.t ∧ lo ≤ mid ∧ mid ≤ hi
theorem OwnG.step {a b lo hi : Nat} {w w' : World} {v : Value} {m : Am} (h : OwnG a b w v m) (s : Stp lo hi w w') (hd : hi ≤ a ∨ b ≤ lo) : OwnG a b w' v m := by
 obtain ⟨g, h', mid, e, h1, h2, h3, h4⟩ := h
 exact ⟨g, h', mid, e, InRow.step h1 s (by omega), InRow.step h2 s (by omega), h3, h4⟩
theorem OwnG.mono {a b a' b' : Nat} {w : World} {v : Value} {m : Am} (h : OwnG a b w v m) (h1 : a' ≤ a) (h2 : b ≤ b') : OwnG a' b' w v m := by
 obtain ⟨g, h', mid, e, i1, i2, h3, h4⟩ := h
 exact ⟨g, h', mid, e, InRow.mono i1 h1 (Nat.le_refl _), InRow.mono i2 (Nat.le_refl _) h2, Nat.le_trans h1 h3, Nat.le_trans h4 h2⟩

set_option maxHeartbeats 8000000 in
theorem agentFrom_any (v : Value) (m : Am) (w : World) (hR : RdA w.heap.size w v m) (hf : m.c.length + m.t.length ≤ 1048576) :
  Calls Tryd.prog 29 #[v] w fun e w' => ∃ o1 n1 c1 o2 n2 c2 i l d, e = .returned (.tuple #[agi (.slice o1 n1 c1) (.slice o2 n2 c2) i l d, .bool (agentOkB m)]) ∧ (agentOkB m = true → OwnG w.heap.size w'.heap.size w' (agi (.slice o1 n1 c1) (.slice o2 n2 c2) i l d) m) ∧ Below w.heap.size w w' := by
 obtain ⟨vc, vt, rfl, ⟨oc, cc, rfl, rc⟩, ⟨ot, ct, rfl, rt⟩⟩ := hR
 obtain ⟨W0, hW0⟩ : ∃ W, ((w.alloc (.cells #[.int .i64 m.id, .int .i64 m.lim, .bool m.dr, .slice oc m.c.length cc, .slice ot m.t.length ct] 34)).alloc (.cells #[.slice none 0 0, .slice none 0 0, .int .i64 0, .int .i64 0, .bool false] 66)) = W := ⟨_, rfl⟩
 have hb_W0 : Below w.heap.size w W0 := by rw [← hW0]; exact (((Below.refl _ _).alloc (Nat.le_refl _) _).alloc (by simp <;> omega) _)
 have HB := hide hb_W0
 clear hb_W0
 have zz : w.heap.size < W0.heap.size := by rw [← hW0]; simp <;> omega
 have z0 : W0.cell? ⟨w.heap.size, 0, none⟩ = some (.int .i64 m.id) := by rw [← hW0]; simp [go_sem]
 have z1 : W0.cell? ⟨w.heap.size, 1, none⟩ = some (.int .i64 m.lim) := by rw [← hW0]; simp [go_sem]
 have z2 : W0.cell? ⟨w.heap.size, 2, none⟩ = some (.bool m.dr) := by rw [← hW0]; simp [go_sem]
 have z3 : W0.cell? ⟨w.heap.size, 3, none⟩ = some (.slice oc m.c.length cc) := by rw [← hW0]; simp [go_sem]
 have z4 : W0.cell? ⟨w.heap.size, 4, none⟩ = some (.slice ot m.t.length ct) := by rw [← hW0]; simp [go_sem]
 have zr : w.heap.size + 1 < W0.heap.size := by rw [← hW0]; simp
 have r0 : W0.cell? ⟨w.heap.size + 1, 0, none⟩ = some (.slice none 0 0) := by rw [← hW0]; simp [go_sem]
 have r1 : W0.cell? ⟨w.heap.size + 1, 1, none⟩ = some (.slice none 0 0) := by rw [← hW0]; simp [go_sem]
 have r2 : W0.cell? ⟨w.heap.size + 1, 2, none⟩ = some (.int .i64 0) := by rw [← hW0]; simp [go_sem]
 have r3 : W0.cell? ⟨w.heap.size + 1, 3, none⟩ = some (.int .i64 0) := by rw [← hW0]; simp [go_sem]
 have r4 : W0.cell? ⟨w.heap.size + 1, 4, none⟩ = some (.bool false) := by rw [← hW0]; simp [go_sem]
 have fr0 : W0.frozen? ⟨w.heap.size + 1, 0, none⟩ = false := by rw [← hW0]; simp [go_sem]
 have fr1 : W0.frozen? ⟨w.heap.size + 1, 1, none⟩ = false := by rw [← hW0]; simp [go_sem]
 have fr2 : W0.frozen? ⟨w.heap.size + 1, 2, none⟩ = false := by rw [← hW0]; simp [go_sem]
 have fr3 : W0.frozen? ⟨w.heap.size + 1, 3, none⟩ = false := by rw [← hW0]; simp [go_sem]
 have fr4 : W0.frozen? ⟨w.heap.size + 1, 4, none⟩ = false := by rw [← hW0]; simp [go_sem]
 have hz00 : w.heap.size + 1 < W0.heap.size := zr
 have h1 := tableFrom_any oc cc m.c W0 ((rc.kept HB.out (Nat.le_refl _)).le HB.out.size) (by omega)
 have h2 := fun W (h : Below w.heap.size w W) => tableFrom_any ot ct m.t W ((rt.kept h (Nat.le_refl _)).le h.size) (by omega)
 have H2 := hide h2
 have hbk := fun W => isBackA_any m.id W
 have hli := fun W => isLimit_any m.lim W
 have HE := hide (agentOkB_four m)
 clear h2 rc rt
 generalize (decide (0 ≤ m.id) && decide (m.id < 6)) = bk at *
 generalize (decide (0 ≤ m.lim) && decide (m.lim ≤ 16)) = bl at *
 generalize tableOkB m.c = t1 at *
 generalize tableOkB m.t = t2 at *
 by_cases hall : (bk && bl && (t1 && t2)) = true
 ·obtain ⟨rfl, rfl, rfl, rfl⟩ : bk = true ∧ bl = true ∧ t1 = true ∧ t2 = true := by cases bk <;> cases bl <;> cases t1 <;> cases t2 <;> simp_all
  go_enter Tryd.func29, Tryd.ntmps29
  go_wp2_with fail
  refine (h1).mono ?_
  rintro e v1 ⟨o1, n1, c1, rfl, hv1, hb⟩
  obtain ⟨g, rfl, rfl, rfl, hown⟩ := hv1 (by simp)
  have HO := hide hown
  have hg0 := (hown.lt g rfl).1
  have hg1 := (hown.lt g rfl).2
  clear hown hv1
  replace z0 : v1.cell? ⟨w.heap.size, 0, none⟩ = some (.int .i64 m.id) := (hb.cell (p := ⟨w.heap.size, 0, none⟩) zz).trans z0
  replace z1 : v1.cell? ⟨w.heap.size, 1, none⟩ = some (.int .i64 m.lim) := (hb.cell (p := ⟨w.heap.size, 1, none⟩) zz).trans z1
  replace z2 : v1.cell? ⟨w.heap.size, 2, none⟩ = some (.bool m.dr) := (hb.cell (p := ⟨w.heap.size, 2, none⟩) zz).trans z2
  replace z3 : v1.cell? ⟨w.heap.size, 3, none⟩ = some (.slice oc m.c.length cc) := (hb.cell (p := ⟨w.heap.size, 3, none⟩) zz).trans z3
  replace z4 : v1.cell? ⟨w.heap.size, 4, none⟩ = some (.slice ot m.t.length ct) := (hb.cell (p := ⟨w.heap.size, 4, none⟩) zz).trans z4
  replace zz : w.heap.size < v1.heap.size := Nat.lt_of_lt_of_le zz hb.size
  replace r0 : v1.cell? ⟨w.heap.size + 1, 0, none⟩ = some (.slice none 0 0) := (hb.cell (p := ⟨w.heap.size + 1, 0, none⟩) zr).trans r0
  replace r1 : v1.cell? ⟨w.heap.size + 1, 1, none⟩ = some (.slice none 0 0) := (hb.cell (p := ⟨w.heap.size + 1, 1, none⟩) zr).trans r1
  replace r2 : v1.cell? ⟨w.heap.size + 1, 2, none⟩ = some (.int .i64 0) := (hb.cell (p := ⟨w.heap.size + 1, 2, none⟩) zr).trans r2
  replace r3 : v1.cell? ⟨w.heap.size + 1, 3, none⟩ = some (.int .i64 0) := (hb.cell (p := ⟨w.heap.size + 1, 3, none⟩) zr).trans r3
  replace r4 : v1.cell? ⟨w.heap.size + 1, 4, none⟩ = some (.bool false) := (hb.cell (p := ⟨w.heap.size + 1, 4, none⟩) zr).trans r4
  replace fr0 : v1.frozen? ⟨w.heap.size + 1, 0, none⟩ = false := (hb.frozen (p := ⟨w.heap.size + 1, 0, none⟩) zr).trans fr0
  replace fr1 : v1.frozen? ⟨w.heap.size + 1, 1, none⟩ = false := (hb.frozen (p := ⟨w.heap.size + 1, 1, none⟩) zr).trans fr1
  replace fr2 : v1.frozen? ⟨w.heap.size + 1, 2, none⟩ = false := (hb.frozen (p := ⟨w.heap.size + 1, 2, none⟩) zr).trans fr2
  replace fr3 : v1.frozen? ⟨w.heap.size + 1, 3, none⟩ = false := (hb.frozen (p := ⟨w.heap.size + 1, 3, none⟩) zr).trans fr3
  replace fr4 : v1.frozen? ⟨w.heap.size + 1, 4, none⟩ = false := (hb.frozen (p := ⟨w.heap.size + 1, 4, none⟩) zr).trans fr4
  replace zr : w.heap.size + 1 < v1.heap.size := Nat.lt_of_lt_of_le zr hb.size
  replace HB := hide (HB.out.trans (hb.mono HB.out.size))
  clear hb
  obtain ⟨W2, hW2⟩ : ∃ W, (v1.alloc (.cells #[.slice (some ⟨g, 0, none⟩) m.c.length m.c.length] 61)) = W := ⟨_, rfl⟩
  have hb_W2 : Below v1.heap.size v1 W2 := by rw [← hW2]; exact ((Below.refl _ _).alloc (Nat.le_refl _) _)
  replace z0 : W2.cell? ⟨w.heap.size, 0, none⟩ = some (.int .i64 m.id) := (hb_W2.cell (p := ⟨w.heap.size, 0, none⟩) zz).trans z0
  replace z1 : W2.cell? ⟨w.heap.size, 1, none⟩ = some (.int .i64 m.lim) := (hb_W2.cell (p := ⟨w.heap.size, 1, none⟩) zz).trans z1
  replace z2 : W2.cell? ⟨w.heap.size, 2, none⟩ = some (.bool m.dr) := (hb_W2.cell (p := ⟨w.heap.size, 2, none⟩) zz).trans z2
  replace z3 : W2.cell? ⟨w.heap.size, 3, none⟩ = some (.slice oc m.c.length cc) := (hb_W2.cell (p := ⟨w.heap.size, 3, none⟩) zz).trans z3
  replace z4 : W2.cell? ⟨w.heap.size, 4, none⟩ = some (.slice ot m.t.length ct) := (hb_W2.cell (p := ⟨w.heap.size, 4, none⟩) zz).trans z4
  replace zz : w.heap.size < W2.heap.size := Nat.lt_of_lt_of_le zz hb_W2.size
  replace r0 : W2.cell? ⟨w.heap.size + 1, 0, none⟩ = some (.slice none 0 0) := (hb_W2.cell (p := ⟨w.heap.size + 1, 0, none⟩) zr).trans r0
  replace r1 : W2.cell? ⟨w.heap.size + 1, 1, none⟩ = some (.slice none 0 0) := (hb_W2.cell (p := ⟨w.heap.size + 1, 1, none⟩) zr).trans r1
  replace r2 : W2.cell? ⟨w.heap.size + 1, 2, none⟩ = some (.int .i64 0) := (hb_W2.cell (p := ⟨w.heap.size + 1, 2, none⟩) zr).trans r2
  replace r3 : W2.cell? ⟨w.heap.size + 1, 3, none⟩ = some (.int .i64 0) := (hb_W2.cell (p := ⟨w.heap.size + 1, 3, none⟩) zr).trans r3
  replace r4 : W2.cell? ⟨w.heap.size + 1, 4, none⟩ = some (.bool false) := (hb_W2.cell (p := ⟨w.heap.size + 1, 4, none⟩) zr).trans r4
  replace fr0 : W2.frozen? ⟨w.heap.size + 1, 0, none⟩ = false := (hb_W2.frozen (p := ⟨w.heap.size + 1, 0, none⟩) zr).trans fr0
  replace fr1 : W2.frozen? ⟨w.heap.size + 1, 1, none⟩ = false := (hb_W2.frozen (p := ⟨w.heap.size + 1, 1, none⟩) zr).trans fr1
  replace fr2 : W2.frozen? ⟨w.heap.size + 1, 2, none⟩ = false := (hb_W2.frozen (p := ⟨w.heap.size + 1, 2, none⟩) zr).trans fr2
  replace fr3 : W2.frozen? ⟨w.heap.size + 1, 3, none⟩ = false := (hb_W2.frozen (p := ⟨w.heap.size + 1, 3, none⟩) zr).trans fr3
  replace fr4 : W2.frozen? ⟨w.heap.size + 1, 4, none⟩ = false := (hb_W2.frozen (p := ⟨w.heap.size + 1, 4, none⟩) zr).trans fr4
  replace zr : w.heap.size + 1 < W2.heap.size := Nat.lt_of_lt_of_le zr hb_W2.size
  replace HO := hide (own_kept HO.out hb_W2)
  replace HB := hide (HB.out.trans (hb_W2.mono HB.out.size))
  clear hb_W2
  have zx : v1.heap.size < W2.heap.size := by rw [← hW2]; simp
  have x0 : W2.cell? ⟨v1.heap.size, 0, none⟩ = some (.slice (some ⟨g, 0, none⟩) m.c.length m.c.length) := by rw [← hW2]; simp [go_sem]
  go_wp2_with fail
  refine (H2.out W2 HB.out).mono ?_
  rintro e v2 ⟨o2, n2, c2, rfl, hv2, hb⟩
  obtain ⟨h, rfl, rfl, rfl, hown⟩ := hv2 (by simp)
  have HP := hide hown
  have hh0 := (hown.lt h rfl).1
  clear hown hv2
  have hgm : g < W2.heap.size := by have h := hg1; rw [← hW2]; simp; omega
  replace z0 : v2.cell? ⟨w.heap.size, 0, none⟩ = some (.int .i64 m.id) := (hb.cell (p := ⟨w.heap.size, 0, none⟩) zz).trans z0
  replace z1 : v2.cell? ⟨w.heap.size, 1, none⟩ = some (.int .i64 m.lim) := (hb.cell (p := ⟨w.heap.size, 1, none⟩) zz).trans z1
  replace z2 : v2.cell? ⟨w.heap.size, 2, none⟩ = some (.bool m.dr) := (hb.cell (p := ⟨w.heap.size, 2, none⟩) zz).trans z2
  replace z3 : v2.cell? ⟨w.heap.size, 3, none⟩ = some (.slice oc m.c.length cc) := (hb.cell (p := ⟨w.heap.size, 3, none⟩) zz).trans z3
  replace z4 : v2.cell? ⟨w.heap.size, 4, none⟩ = some (.slice ot m.t.length ct) := (hb.cell (p := ⟨w.heap.size, 4, none⟩) zz).trans z4
  replace zz : w.heap.size < v2.heap.size := Nat.lt_of_lt_of_le zz hb.size
  replace r0 : v2.cell? ⟨w.heap.size + 1, 0, none⟩ = some (.slice none 0 0) := (hb.cell (p := ⟨w.heap.size + 1, 0, none⟩) zr).trans r0
  replace r1 : v2.cell? ⟨w.heap.size + 1, 1, none⟩ = some (.slice none 0 0) := (hb.cell (p := ⟨w.heap.size + 1, 1, none⟩) zr).trans r1
  replace r2 : v2.cell? ⟨w.heap.size + 1, 2, none⟩ = some (.int .i64 0) := (hb.cell (p := ⟨w.heap.size + 1, 2, none⟩) zr).trans r2
  replace r3 : v2.cell? ⟨w.heap.size + 1, 3, none⟩ = some (.int .i64 0) := (hb.cell (p := ⟨w.heap.size + 1, 3, none⟩) zr).trans r3
  replace r4 : v2.cell? ⟨w.heap.size + 1, 4, none⟩ = some (.bool false) := (hb.cell (p := ⟨w.heap.size + 1, 4, none⟩) zr).trans r4
  replace fr0 : v2.frozen? ⟨w.heap.size + 1, 0, none⟩ = false := (hb.frozen (p := ⟨w.heap.size + 1, 0, none⟩) zr).trans fr0
  replace fr1 : v2.frozen? ⟨w.heap.size + 1, 1, none⟩ = false := (hb.frozen (p := ⟨w.heap.size + 1, 1, none⟩) zr).trans fr1
  replace fr2 : v2.frozen? ⟨w.heap.size + 1, 2, none⟩ = false := (hb.frozen (p := ⟨w.heap.size + 1, 2, none⟩) zr).trans fr2
  replace fr3 : v2.frozen? ⟨w.heap.size + 1, 3, none⟩ = false := (hb.frozen (p := ⟨w.heap.size + 1, 3, none⟩) zr).trans fr3
  replace fr4 : v2.frozen? ⟨w.heap.size + 1, 4, none⟩ = false := (hb.frozen (p := ⟨w.heap.size + 1, 4, none⟩) zr).trans fr4
  replace zr : w.heap.size + 1 < v2.heap.size := Nat.lt_of_lt_of_le zr hb.size
  replace x0 : v2.cell? ⟨v1.heap.size, 0, none⟩ = some (.slice (some ⟨g, 0, none⟩) m.c.length m.c.length) := (hb.cell (p := ⟨v1.heap.size, 0, none⟩) zx).trans x0
  replace zx : v1.heap.size < v2.heap.size := Nat.lt_of_lt_of_le zx hb.size
  replace HO := hide (own_kept HO.out hb)
  replace HB := hide (HB.out.trans (hb.mono HB.out.size))
  clear hb
  obtain ⟨W4, hW4⟩ : ∃ W, (v2.alloc (.cells #[.slice (some ⟨h, 0, none⟩) m.t.length m.t.length] 61)) = W := ⟨_, rfl⟩
  have hb_W4 : Below v2.heap.size v2 W4 := by rw [← hW4]; exact ((Below.refl _ _).alloc (Nat.le_refl _) _)
  replace z0 : W4.cell? ⟨w.heap.size, 0, none⟩ = some (.int .i64 m.id) := (hb_W4.cell (p := ⟨w.heap.size, 0, none⟩) zz).trans z0
  replace z1 : W4.cell? ⟨w.heap.size, 1, none⟩ = some (.int .i64 m.lim) := (hb_W4.cell (p := ⟨w.heap.size, 1, none⟩) zz).trans z1
  replace z2 : W4.cell? ⟨w.heap.size, 2, none⟩ = some (.bool m.dr) := (hb_W4.cell (p := ⟨w.heap.size, 2, none⟩) zz).trans z2
  replace z3 : W4.cell? ⟨w.heap.size, 3, none⟩ = some (.slice oc m.c.length cc) := (hb_W4.cell (p := ⟨w.heap.size, 3, none⟩) zz).trans z3
  replace z4 : W4.cell? ⟨w.heap.size, 4, none⟩ = some (.slice ot m.t.length ct) := (hb_W4.cell (p := ⟨w.heap.size, 4, none⟩) zz).trans z4
  replace zz : w.heap.size < W4.heap.size := Nat.lt_of_lt_of_le zz hb_W4.size
  replace r0 : W4.cell? ⟨w.heap.size + 1, 0, none⟩ = some (.slice none 0 0) := (hb_W4.cell (p := ⟨w.heap.size + 1, 0, none⟩) zr).trans r0
  replace r1 : W4.cell? ⟨w.heap.size + 1, 1, none⟩ = some (.slice none 0 0) := (hb_W4.cell (p := ⟨w.heap.size + 1, 1, none⟩) zr).trans r1
  replace r2 : W4.cell? ⟨w.heap.size + 1, 2, none⟩ = some (.int .i64 0) := (hb_W4.cell (p := ⟨w.heap.size + 1, 2, none⟩) zr).trans r2
  replace r3 : W4.cell? ⟨w.heap.size + 1, 3, none⟩ = some (.int .i64 0) := (hb_W4.cell (p := ⟨w.heap.size + 1, 3, none⟩) zr).trans r3
  replace r4 : W4.cell? ⟨w.heap.size + 1, 4, none⟩ = some (.bool false) := (hb_W4.cell (p := ⟨w.heap.size + 1, 4, none⟩) zr).trans r4
  replace fr0 : W4.frozen? ⟨w.heap.size + 1, 0, none⟩ = false := (hb_W4.frozen (p := ⟨w.heap.size + 1, 0, none⟩) zr).trans fr0
  replace fr1 : W4.frozen? ⟨w.heap.size + 1, 1, none⟩ = false := (hb_W4.frozen (p := ⟨w.heap.size + 1, 1, none⟩) zr).trans fr1
  replace fr2 : W4.frozen? ⟨w.heap.size + 1, 2, none⟩ = false := (hb_W4.frozen (p := ⟨w.heap.size + 1, 2, none⟩) zr).trans fr2
  replace fr3 : W4.frozen? ⟨w.heap.size + 1, 3, none⟩ = false := (hb_W4.frozen (p := ⟨w.heap.size + 1, 3, none⟩) zr).trans fr3
  replace fr4 : W4.frozen? ⟨w.heap.size + 1, 4, none⟩ = false := (hb_W4.frozen (p := ⟨w.heap.size + 1, 4, none⟩) zr).trans fr4
  replace zr : w.heap.size + 1 < W4.heap.size := Nat.lt_of_lt_of_le zr hb_W4.size
  replace x0 : W4.cell? ⟨v1.heap.size, 0, none⟩ = some (.slice (some ⟨g, 0, none⟩) m.c.length m.c.length) := (hb_W4.cell (p := ⟨v1.heap.size, 0, none⟩) zx).trans x0
  replace zx : v1.heap.size < W4.heap.size := Nat.lt_of_lt_of_le zx hb_W4.size
  replace HO := hide (own_kept HO.out hb_W4)
  replace HP := hide (own_kept HP.out hb_W4)
  replace HB := hide (HB.out.trans (hb_W4.mono HB.out.size))
  clear hb_W4
  have zy : v2.heap.size < W4.heap.size := by rw [← hW4]; simp
  have y0 : W4.cell? ⟨v2.heap.size, 0, none⟩ = some (.slice (some ⟨h, 0, none⟩) m.t.length m.t.length) := by rw [← hW4]; simp [go_sem]
  have hW2s : W0.heap.size ≤ W2.heap.size := by omega
  have hW4s := (HP.out.lt h rfl).2
  go_wp2_with (first | (go_at_call 41; refine (hbk _).mono ?_; rintro e w9 ⟨rfl, rfl⟩) | (go_at_call 42; refine (hli _).mono ?_; rintro e w9 ⟨rfl, rfl⟩))
  refine bodyPost_ret (v := .tuple #[agi (.slice (some ⟨g, 0, none⟩) m.c.length m.c.length) (.slice (some ⟨h, 0, none⟩) m.t.length m.t.length) m.id m.lim m.dr, .bool true]) (by simp [results, Tryd.results29, go_sem, r0, r1, r2, r3, r4]) rfl ⟨_, _, _, _, _, _, _, _, _, by rw [HE.out]; rfl, fun _ => ?_, ?_⟩
  ·refine ⟨g, h, W2.heap.size, rfl, InRow.mono (InRow.step (a := W0.heap.size) (b := W2.heap.size) ⟨HO.out, fun b e => by simp [Value.ownBlock] at e; omega⟩ (stp_set5v W4 (w.heap.size + 1) _ _ _ _ _) (.inl (by omega))) (by omega) (Nat.le_refl _), InRow.mono (InRow.step (a := W2.heap.size) (b := W4.heap.size) ⟨HP.out, fun b e => by simp [Value.ownBlock] at e; omega⟩ (stp_set5v W4 (w.heap.size + 1) _ _ _ _ _) (.inl (by omega))) (Nat.le_refl _) (by rw [set5v_size]; exact Nat.le_refl _), by omega, by rw [set5v_size]; omega⟩
  ·exact below_set5v HB.out (by omega) _ _ _ _ _
 ·have HN : Hid (agentOkB m = false) := by unfold Hid; rw [HE.out]; simpa using hall
  go_enter Tryd.func29, Tryd.ntmps29
  go_wp2_with fail
  refine (h1).mono ?_
  rintro e v1 ⟨o1, n1, c1, rfl, hv1, hb⟩
  clear hv1
  replace z0 : v1.cell? ⟨w.heap.size, 0, none⟩ = some (.int .i64 m.id) := (hb.cell (p := ⟨w.heap.size, 0, none⟩) zz).trans z0
  replace z1 : v1.cell? ⟨w.heap.size, 1, none⟩ = some (.int .i64 m.lim) := (hb.cell (p := ⟨w.heap.size, 1, none⟩) zz).trans z1
  replace z2 : v1.cell? ⟨w.heap.size, 2, none⟩ = some (.bool m.dr) := (hb.cell (p := ⟨w.heap.size, 2, none⟩) zz).trans z2
  replace z3 : v1.cell? ⟨w.heap.size, 3, none⟩ = some (.slice oc m.c.length cc) := (hb.cell (p := ⟨w.heap.size, 3, none⟩) zz).trans z3
  replace z4 : v1.cell? ⟨w.heap.size, 4, none⟩ = some (.slice ot m.t.length ct) := (hb.cell (p := ⟨w.heap.size, 4, none⟩) zz).trans z4
  replace zz : w.heap.size < v1.heap.size := Nat.lt_of_lt_of_le zz hb.size
  replace r0 : v1.cell? ⟨w.heap.size + 1, 0, none⟩ = some (.slice none 0 0) := (hb.cell (p := ⟨w.heap.size + 1, 0, none⟩) zr).trans r0
  replace r1 : v1.cell? ⟨w.heap.size + 1, 1, none⟩ = some (.slice none 0 0) := (hb.cell (p := ⟨w.heap.size + 1, 1, none⟩) zr).trans r1
  replace r2 : v1.cell? ⟨w.heap.size + 1, 2, none⟩ = some (.int .i64 0) := (hb.cell (p := ⟨w.heap.size + 1, 2, none⟩) zr).trans r2
  replace r3 : v1.cell? ⟨w.heap.size + 1, 3, none⟩ = some (.int .i64 0) := (hb.cell (p := ⟨w.heap.size + 1, 3, none⟩) zr).trans r3
  replace r4 : v1.cell? ⟨w.heap.size + 1, 4, none⟩ = some (.bool false) := (hb.cell (p := ⟨w.heap.size + 1, 4, none⟩) zr).trans r4
  replace fr0 : v1.frozen? ⟨w.heap.size + 1, 0, none⟩ = false := (hb.frozen (p := ⟨w.heap.size + 1, 0, none⟩) zr).trans fr0
  replace fr1 : v1.frozen? ⟨w.heap.size + 1, 1, none⟩ = false := (hb.frozen (p := ⟨w.heap.size + 1, 1, none⟩) zr).trans fr1
  replace fr2 : v1.frozen? ⟨w.heap.size + 1, 2, none⟩ = false := (hb.frozen (p := ⟨w.heap.size + 1, 2, none⟩) zr).trans fr2
  replace fr3 : v1.frozen? ⟨w.heap.size + 1, 3, none⟩ = false := (hb.frozen (p := ⟨w.heap.size + 1, 3, none⟩) zr).trans fr3
  replace fr4 : v1.frozen? ⟨w.heap.size + 1, 4, none⟩ = false := (hb.frozen (p := ⟨w.heap.size + 1, 4, none⟩) zr).trans fr4
  replace zr : w.heap.size + 1 < v1.heap.size := Nat.lt_of_lt_of_le zr hb.size
  replace HB := hide (HB.out.trans (hb.mono HB.out.size))
  clear hb
  obtain ⟨W2, hW2⟩ : ∃ W, (v1.alloc (.cells #[.slice o1 n1 c1] 61)) = W := ⟨_, rfl⟩
  have hb_W2 : Below v1.heap.size v1 W2 := by rw [← hW2]; exact ((Below.refl _ _).alloc (Nat.le_refl _) _)
  replace z0 : W2.cell? ⟨w.heap.size, 0, none⟩ = some (.int .i64 m.id) := (hb_W2.cell (p := ⟨w.heap.size, 0, none⟩) zz).trans z0
  replace z1 : W2.cell? ⟨w.heap.size, 1, none⟩ = some (.int .i64 m.lim) := (hb_W2.cell (p := ⟨w.heap.size, 1, none⟩) zz).trans z1
  replace z2 : W2.cell? ⟨w.heap.size, 2, none⟩ = some (.bool m.dr) := (hb_W2.cell (p := ⟨w.heap.size, 2, none⟩) zz).trans z2
  replace z3 : W2.cell? ⟨w.heap.size, 3, none⟩ = some (.slice oc m.c.length cc) := (hb_W2.cell (p := ⟨w.heap.size, 3, none⟩) zz).trans z3
  replace z4 : W2.cell? ⟨w.heap.size, 4, none⟩ = some (.slice ot m.t.length ct) := (hb_W2.cell (p := ⟨w.heap.size, 4, none⟩) zz).trans z4
  replace zz : w.heap.size < W2.heap.size := Nat.lt_of_lt_of_le zz hb_W2.size
  replace r0 : W2.cell? ⟨w.heap.size + 1, 0, none⟩ = some (.slice none 0 0) := (hb_W2.cell (p := ⟨w.heap.size + 1, 0, none⟩) zr).trans r0
  replace r1 : W2.cell? ⟨w.heap.size + 1, 1, none⟩ = some (.slice none 0 0) := (hb_W2.cell (p := ⟨w.heap.size + 1, 1, none⟩) zr).trans r1
  replace r2 : W2.cell? ⟨w.heap.size + 1, 2, none⟩ = some (.int .i64 0) := (hb_W2.cell (p := ⟨w.heap.size + 1, 2, none⟩) zr).trans r2
  replace r3 : W2.cell? ⟨w.heap.size + 1, 3, none⟩ = some (.int .i64 0) := (hb_W2.cell (p := ⟨w.heap.size + 1, 3, none⟩) zr).trans r3
  replace r4 : W2.cell? ⟨w.heap.size + 1, 4, none⟩ = some (.bool false) := (hb_W2.cell (p := ⟨w.heap.size + 1, 4, none⟩) zr).trans r4
  replace fr0 : W2.frozen? ⟨w.heap.size + 1, 0, none⟩ = false := (hb_W2.frozen (p := ⟨w.heap.size + 1, 0, none⟩) zr).trans fr0
  replace fr1 : W2.frozen? ⟨w.heap.size + 1, 1, none⟩ = false := (hb_W2.frozen (p := ⟨w.heap.size + 1, 1, none⟩) zr).trans fr1
  replace fr2 : W2.frozen? ⟨w.heap.size + 1, 2, none⟩ = false := (hb_W2.frozen (p := ⟨w.heap.size + 1, 2, none⟩) zr).trans fr2
  replace fr3 : W2.frozen? ⟨w.heap.size + 1, 3, none⟩ = false := (hb_W2.frozen (p := ⟨w.heap.size + 1, 3, none⟩) zr).trans fr3
  replace fr4 : W2.frozen? ⟨w.heap.size + 1, 4, none⟩ = false := (hb_W2.frozen (p := ⟨w.heap.size + 1, 4, none⟩) zr).trans fr4
  replace zr : w.heap.size + 1 < W2.heap.size := Nat.lt_of_lt_of_le zr hb_W2.size
  replace HB := hide (HB.out.trans (hb_W2.mono HB.out.size))
  clear hb_W2
  have zx : v1.heap.size < W2.heap.size := by rw [← hW2]; simp
  have x0 : W2.cell? ⟨v1.heap.size, 0, none⟩ = some (.slice o1 n1 c1) := by rw [← hW2]; simp [go_sem]
  go_wp2_with fail
  refine (H2.out W2 HB.out).mono ?_
  rintro e v2 ⟨o2, n2, c2, rfl, hv2, hb⟩
  clear hv2
  replace z0 : v2.cell? ⟨w.heap.size, 0, none⟩ = some (.int .i64 m.id) := (hb.cell (p := ⟨w.heap.size, 0, none⟩) zz).trans z0
  replace z1 : v2.cell? ⟨w.heap.size, 1, none⟩ = some (.int .i64 m.lim) := (hb.cell (p := ⟨w.heap.size, 1, none⟩) zz).trans z1
  replace z2 : v2.cell? ⟨w.heap.size, 2, none⟩ = some (.bool m.dr) := (hb.cell (p := ⟨w.heap.size, 2, none⟩) zz).trans z2
  replace z3 : v2.cell? ⟨w.heap.size, 3, none⟩ = some (.slice oc m.c.length cc) := (hb.cell (p := ⟨w.heap.size, 3, none⟩) zz).trans z3
  replace z4 : v2.cell? ⟨w.heap.size, 4, none⟩ = some (.slice ot m.t.length ct) := (hb.cell (p := ⟨w.heap.size, 4, none⟩) zz).trans z4
  replace zz : w.heap.size < v2.heap.size := Nat.lt_of_lt_of_le zz hb.size
  replace r0 : v2.cell? ⟨w.heap.size + 1, 0, none⟩ = some (.slice none 0 0) := (hb.cell (p := ⟨w.heap.size + 1, 0, none⟩) zr).trans r0
  replace r1 : v2.cell? ⟨w.heap.size + 1, 1, none⟩ = some (.slice none 0 0) := (hb.cell (p := ⟨w.heap.size + 1, 1, none⟩) zr).trans r1
  replace r2 : v2.cell? ⟨w.heap.size + 1, 2, none⟩ = some (.int .i64 0) := (hb.cell (p := ⟨w.heap.size + 1, 2, none⟩) zr).trans r2
  replace r3 : v2.cell? ⟨w.heap.size + 1, 3, none⟩ = some (.int .i64 0) := (hb.cell (p := ⟨w.heap.size + 1, 3, none⟩) zr).trans r3
  replace r4 : v2.cell? ⟨w.heap.size + 1, 4, none⟩ = some (.bool false) := (hb.cell (p := ⟨w.heap.size + 1, 4, none⟩) zr).trans r4
  replace fr0 : v2.frozen? ⟨w.heap.size + 1, 0, none⟩ = false := (hb.frozen (p := ⟨w.heap.size + 1, 0, none⟩) zr).trans fr0
  replace fr1 : v2.frozen? ⟨w.heap.size + 1, 1, none⟩ = false := (hb.frozen (p := ⟨w.heap.size + 1, 1, none⟩) zr).trans fr1
  replace fr2 : v2.frozen? ⟨w.heap.size + 1, 2, none⟩ = false := (hb.frozen (p := ⟨w.heap.size + 1, 2, none⟩) zr).trans fr2
  replace fr3 : v2.frozen? ⟨w.heap.size + 1, 3, none⟩ = false := (hb.frozen (p := ⟨w.heap.size + 1, 3, none⟩) zr).trans fr3
  replace fr4 : v2.frozen? ⟨w.heap.size + 1, 4, none⟩ = false := (hb.frozen (p := ⟨w.heap.size + 1, 4, none⟩) zr).trans fr4
  replace zr : w.heap.size + 1 < v2.heap.size := Nat.lt_of_lt_of_le zr hb.size
  replace x0 : v2.cell? ⟨v1.heap.size, 0, none⟩ = some (.slice o1 n1 c1) := (hb.cell (p := ⟨v1.heap.size, 0, none⟩) zx).trans x0
  replace zx : v1.heap.size < v2.heap.size := Nat.lt_of_lt_of_le zx hb.size
  replace HB := hide (HB.out.trans (hb.mono HB.out.size))
  clear hb
  obtain ⟨W4, hW4⟩ : ∃ W, (v2.alloc (.cells #[.slice o2 n2 c2] 61)) = W := ⟨_, rfl⟩
  have hb_W4 : Below v2.heap.size v2 W4 := by rw [← hW4]; exact ((Below.refl _ _).alloc (Nat.le_refl _) _)
  replace z0 : W4.cell? ⟨w.heap.size, 0, none⟩ = some (.int .i64 m.id) := (hb_W4.cell (p := ⟨w.heap.size, 0, none⟩) zz).trans z0
  replace z1 : W4.cell? ⟨w.heap.size, 1, none⟩ = some (.int .i64 m.lim) := (hb_W4.cell (p := ⟨w.heap.size, 1, none⟩) zz).trans z1
  replace z2 : W4.cell? ⟨w.heap.size, 2, none⟩ = some (.bool m.dr) := (hb_W4.cell (p := ⟨w.heap.size, 2, none⟩) zz).trans z2
  replace z3 : W4.cell? ⟨w.heap.size, 3, none⟩ = some (.slice oc m.c.length cc) := (hb_W4.cell (p := ⟨w.heap.size, 3, none⟩) zz).trans z3
  replace z4 : W4.cell? ⟨w.heap.size, 4, none⟩ = some (.slice ot m.t.length ct) := (hb_W4.cell (p := ⟨w.heap.size, 4, none⟩) zz).trans z4
  replace zz : w.heap.size < W4.heap.size := Nat.lt_of_lt_of_le zz hb_W4.size
  replace r0 : W4.cell? ⟨w.heap.size + 1, 0, none⟩ = some (.slice none 0 0) := (hb_W4.cell (p := ⟨w.heap.size + 1, 0, none⟩) zr).trans r0
  replace r1 : W4.cell? ⟨w.heap.size + 1, 1, none⟩ = some (.slice none 0 0) := (hb_W4.cell (p := ⟨w.heap.size + 1, 1, none⟩) zr).trans r1
  replace r2 : W4.cell? ⟨w.heap.size + 1, 2, none⟩ = some (.int .i64 0) := (hb_W4.cell (p := ⟨w.heap.size + 1, 2, none⟩) zr).trans r2
  replace r3 : W4.cell? ⟨w.heap.size + 1, 3, none⟩ = some (.int .i64 0) := (hb_W4.cell (p := ⟨w.heap.size + 1, 3, none⟩) zr).trans r3
  replace r4 : W4.cell? ⟨w.heap.size + 1, 4, none⟩ = some (.bool false) := (hb_W4.cell (p := ⟨w.heap.size + 1, 4, none⟩) zr).trans r4
  replace fr0 : W4.frozen? ⟨w.heap.size + 1, 0, none⟩ = false := (hb_W4.frozen (p := ⟨w.heap.size + 1, 0, none⟩) zr).trans fr0
  replace fr1 : W4.frozen? ⟨w.heap.size + 1, 1, none⟩ = false := (hb_W4.frozen (p := ⟨w.heap.size + 1, 1, none⟩) zr).trans fr1
  replace fr2 : W4.frozen? ⟨w.heap.size + 1, 2, none⟩ = false := (hb_W4.frozen (p := ⟨w.heap.size + 1, 2, none⟩) zr).trans fr2
  replace fr3 : W4.frozen? ⟨w.heap.size + 1, 3, none⟩ = false := (hb_W4.frozen (p := ⟨w.heap.size + 1, 3, none⟩) zr).trans fr3
  replace fr4 : W4.frozen? ⟨w.heap.size + 1, 4, none⟩ = false := (hb_W4.frozen (p := ⟨w.heap.size + 1, 4, none⟩) zr).trans fr4
  replace zr : w.heap.size + 1 < W4.heap.size := Nat.lt_of_lt_of_le zr hb_W4.size
  replace x0 : W4.cell? ⟨v1.heap.size, 0, none⟩ = some (.slice o1 n1 c1) := (hb_W4.cell (p := ⟨v1.heap.size, 0, none⟩) zx).trans x0
  replace zx : v1.heap.size < W4.heap.size := Nat.lt_of_lt_of_le zx hb_W4.size
  replace HB := hide (HB.out.trans (hb_W4.mono HB.out.size))
  clear hb_W4
  have zy : v2.heap.size < W4.heap.size := by rw [← hW4]; simp
  have y0 : W4.cell? ⟨v2.heap.size, 0, none⟩ = some (.slice o2 n2 c2) := by rw [← hW4]; simp [go_sem]
  clear HE
  cases t1 <;> cases t2 <;> cases bk <;> cases bl <;> first | (exfalso; simp at hall; done) | skip
  all_goals (
   clear hall
   go_wp2_with (first | (go_at_call 41; refine (hbk _).mono ?_; rintro e w9 ⟨rfl, rfl⟩) | (go_at_call 42; refine (hli _).mono ?_; rintro e w9 ⟨rfl, rfl⟩))
   refine bodyPost_ret (v := .tuple #[agi (.slice none 0 0) (.slice none 0 0) 0 0 false, .bool false]) (by simp [results, Tryd.results29, go_sem, r0, r1, r2, r3, r4]) rfl ⟨_, _, _, _, _, _, _, _, _, by rw [HN.out], fun h => absurd (h.symm.trans HN.out) (by decide), below_set5v HB.out (by omega) _ _ _ _ _⟩)

end Go.Proofs.YtljogkoaaidlcaaDoor

/- The program's agent, laid out plainly; its AgentOk. -/
namespace Go.Proofs.YtljogkoaaidlcaaDoor
open Go.ChangeShapes Go.WideShapes Go.ChangeAt Go.RowKit Go.Joins
set_option linter.unusedVariables false
set_option linter.unusedSimpArgs false

set_option maxHeartbeats 2000000 in
theorem implAgentOk_sh (v : Value) (m : Am) (w : World) (hR : RdA w.heap.size w v m) (hf : m.c.length + m.t.length ≤ 1048576) :
  Calls Tryd.prog 19 #[v] w fun e w' => e = .returned (.bool (agentOkB m)) ∧ Below w.heap.size w w' := by
 have hR0 := hR
 obtain ⟨vc, vt, rfl, ⟨oc, cc, rfl, rc⟩, ⟨ot, ct, rfl, rt⟩⟩ := hR0
 clear rc rt
 obtain ⟨W0, hW0⟩ : ∃ W, (w.alloc (.cells #[.int .i64 m.id, .int .i64 m.lim, .bool m.dr, .slice oc m.c.length cc, .slice ot m.t.length ct] 34)) = W := ⟨_, rfl⟩
 have hb_W0 : Below w.heap.size w W0 := by rw [← hW0]; exact ((Below.refl _ _).alloc (Nat.le_refl _) _)
 have HB := hide hb_W0
 clear hb_W0
 have zz : w.heap.size < W0.heap.size := by rw [← hW0]; simp
 have z0 : W0.cell? ⟨w.heap.size, 0, none⟩ = some (.int .i64 m.id) := by rw [← hW0]; simp [go_sem]
 have z1 : W0.cell? ⟨w.heap.size, 1, none⟩ = some (.int .i64 m.lim) := by rw [← hW0]; simp [go_sem]
 have z2 : W0.cell? ⟨w.heap.size, 2, none⟩ = some (.bool m.dr) := by rw [← hW0]; simp [go_sem]
 have z3 : W0.cell? ⟨w.heap.size, 3, none⟩ = some (.slice oc m.c.length cc) := by rw [← hW0]; simp [go_sem]
 have z4 : W0.cell? ⟨w.heap.size, 4, none⟩ = some (.slice ot m.t.length ct) := by rw [← hW0]; simp [go_sem]
 have h1 := agentFrom_any _ m W0 ((hR.kept HB.out (Nat.le_refl _)).le HB.out.size) hf
 go_enter Tryd.func19, Tryd.ntmps19
 go_wp2_with fail
 refine (h1).mono ?_
 rintro e v1 ⟨o1, n1, c1, o2, n2, c2, i, l, d, rfl, hv, hb⟩
 clear hv
 replace z0 : v1.cell? ⟨w.heap.size, 0, none⟩ = some (.int .i64 m.id) := (hb.cell (p := ⟨w.heap.size, 0, none⟩) zz).trans z0
 replace z1 : v1.cell? ⟨w.heap.size, 1, none⟩ = some (.int .i64 m.lim) := (hb.cell (p := ⟨w.heap.size, 1, none⟩) zz).trans z1
 replace z2 : v1.cell? ⟨w.heap.size, 2, none⟩ = some (.bool m.dr) := (hb.cell (p := ⟨w.heap.size, 2, none⟩) zz).trans z2
 replace z3 : v1.cell? ⟨w.heap.size, 3, none⟩ = some (.slice oc m.c.length cc) := (hb.cell (p := ⟨w.heap.size, 3, none⟩) zz).trans z3
 replace z4 : v1.cell? ⟨w.heap.size, 4, none⟩ = some (.slice ot m.t.length ct) := (hb.cell (p := ⟨w.heap.size, 4, none⟩) zz).trans z4
 replace zz : w.heap.size < v1.heap.size := Nat.lt_of_lt_of_le zz hb.size
 replace HB := hide (HB.out.trans (hb.mono HB.out.size))
 clear hb
 clear h1
 go_wp2
 go_ret
 exact ⟨rfl, HB.out.alloc HB.out.size _⟩

end Go.Proofs.YtljogkoaaidlcaaDoor

/- Put, on both sides. -/
namespace Go.Proofs.YtljogkoaaidlcaaDoor
open Go.ChangeShapes Go.WideShapes Go.ChangeAt Go.RowKit Go.Joins
set_option linter.unusedVariables false
set_option linter.unusedSimpArgs false

theorem Stp.cell {lo hi b j : Nat} {w w' : World} {u : Value} (s : Stp lo hi w w') (h : w.cell? ⟨b, j, none⟩ = some u) (hb : b < w.heap.size) (hd : b < lo ∨ hi ≤ b) : w'.cell? ⟨b, j, none⟩ = some u := by
 have := s.block b hb hd
 simp only [World.cell?, this] at h ⊢; exact h
theorem Stp.frozen {lo hi b j : Nat} {w w' : World} (s : Stp lo hi w w') (h : w.frozen? ⟨b, j, none⟩ = false) (hb : b < w.heap.size) (hd : b < lo ∨ hi ≤ b) : w'.frozen? ⟨b, j, none⟩ = false := by
 have := s.block b hb hd
 simp only [World.frozen?, this] at h ⊢; exact h
end Go.Proofs.YtljogkoaaidlcaaDoor

/- What comes nearer: the loop's invariant, as the model has it. -/
namespace Go.Proofs.YtljogkoaaidlcaaDoor
open Go.ChangeShapes Go.WideShapes Go.ChangeAt Go.RowKit Go.Joins
set_option linter.unusedVariables false
set_option linter.unusedSimpArgs false

theorem Stp.drew {lo hi : Nat} {w w' : World} (h : Stp lo hi w w') : Stp lo hi w w'.drew := ⟨h.os, h.tape, h.output, h.size, h.block⟩
/-- Whoever is there has a flow that may be. -/
def flowsOk (m : List Sl) : Prop := ∀ j, j < m.length → (m.getD j sl0).u = true → flowOkB (m.getD j sl0).a (m.getD j sl0).p = true
theorem flowsOk_of {l : List Sl} (h : tableOkB l = true) : flowsOk l := fun j hj hu => by
 have ht := (tableOkB_iff.1 h).2.2 j hj
 unfold tabAt at ht
 exact ((slotB_used hu).1 ((Bool.and_eq_true _ _).mp ht).1).1
theorem flowsOk_set {m : List Sl} (h : flowsOk m) (i : Nat) (s : Sl) (hs : s.u = true → flowOkB s.a s.p = true) : flowsOk (m.set i s) := fun j hj hu => by
 rw [List.length_set] at hj
 by_cases e : i = j
 ·subst e
  rw [getD_set_self _ _ _ hj] at hu ⊢
  exact hs hu
 ·rw [getD_set_ne _ _ _ _ e] at hu ⊢
  exact h j hj hu
structure DropInv (n : Nat) (R : List Sl) (g : Nat) (m : List Sl) (i k : Nat) : Prop where
 len : m.length = n
 le : n ≤ 16
 hi : i < n
 hk : k < n
 free : (m.getD i sl0).u = false
 ok : flowsOk m
 go : dropGo n (g + 1) m i k = R
 ms : meas m i k ≤ g
theorem DropInv.done {n g i k : Nat} {R m : List Sl} (h : DropInv n R g m i k) (hu : (m.getD k sl0).u = false) : m = R := by
 rw [← h.go, dropGo_end hu]
theorem DropInv.move {n g i k : Nat} {R m : List Sl} (h : DropInv n R g m i k) (hu : (m.getD k sl0).u = true) (hm : moves n m i k = true) : 1 ≤ g ∧ DropInv n R (g - 1) ((m.set i (m.getD k sl0)).set k sl0) k ((k + 1) % n) := by
 obtain ⟨hlen, hle, hi, hk, hfree, hok, hgo, hms⟩ := h
 subst hlen
 have hd := meas_move hle hi hk hfree hu hm
 have hg : 1 ≤ g := by omega
 refine ⟨hg, by simp, hle, hk, next_lt (by omega) k, ?_, ?_, ?_, ?_⟩
 ·rw [getD_set_self _ _ _ (by simpa using hk)]
 ·exact flowsOk_set (flowsOk_set hok i _ (fun hq => hok k hk hq)) k _ (fun hq => by cases hq)
 ·rw [← hgo, dropGo_move hu hm, show g - 1 + 1 = g by omega]
 ·omega
theorem DropInv.stay {n g i k : Nat} {R m : List Sl} (h : DropInv n R g m i k) (hu : (m.getD k sl0).u = true) (hm : moves n m i k = false) : 1 ≤ g ∧ DropInv n R (g - 1) m i ((k + 1) % n) := by
 obtain ⟨hlen, hle, hi, hk, hfree, hok, hgo, hms⟩ := h
 subst hlen
 have hne : k ≠ i := fun e => by rw [e, hfree] at hu; cases hu
 have hd := meas_stay hi hk hne
 have hg : 1 ≤ g := by omega
 refine ⟨hg, rfl, hle, hi, next_lt (by omega) k, hfree, hok, ?_, by omega⟩
 rw [← hgo, dropGo_stay hu hm, show g - 1 + 1 = g by omega]
theorem DropInv.start {l : List Sl} {i : Nat} (hle : l.length ≤ 16) (hi : i < l.length) (hok : flowsOk l) : DropInv l.length (dropAtL l i) (meas (l.set i sl0) i ((i + 1) % l.length)) (l.set i sl0) i ((i + 1) % l.length) :=
 ⟨by simp, hle, hi, next_lt (by omega) i, by rw [getD_set_self _ _ _ hi], flowsOk_set hok i _ (fun h => by cases h), rfl, Nat.le_refl _⟩
theorem moves_iff {n i k : Nat} {m : List Sl} : moves n m i k = true ↔ farN n i k ≤ farN n (homeN n (m.getD k sl0).a (m.getD k sl0).p) k := by simp [moves]
theorem dropGo_length (n : Nat) : ∀ (f : Nat) (l : List Sl) (i k : Nat), (dropGo n f l i k).length = l.length
 | 0, l, i, k => rfl
 | f + 1, l, i, k => by
  unfold dropGo
  split
  ·split
   ·rw [dropGo_length n f]; simp
   ·rw [dropGo_length n f]
  ·rfl
theorem dropAtL_length (l : List Sl) (i : Nat) : (dropAtL l i).length = l.length := by unfold dropAtL; rw [dropGo_length]; simp
end Go.Proofs.YtljogkoaaidlcaaDoor

/- Tables that may be, said without ways: nobody stands behind a gap; what is dropped leaves one. -/
namespace Go.Proofs.YtljogkoaaidlcaaDoor
open Go.ChangeShapes Go.WideShapes Go.ChangeAt Go.RowKit Go.Joins
set_option linter.unusedVariables false
set_option linter.unusedSimpArgs false

theorem far_of_add {n h d : Nat} (hh : h < n) (hd : d < n) : farN n h ((h + d) % n) = d := by
 by_cases e : h + d < n
 ·rw [mod_small e, farN_eq hh e, if_pos (by omega)]; omega
 ·rw [mod_wrap (by omega) (by omega), farN_eq hh (by omega)]
  split <;> omega
theorem add_of_far {n h x : Nat} (hh : h < n) (hx : x < n) : (h + farN n h x) % n = x := by
 rw [farN_eq hh hx]
 split
 ·rw [mod_small (by omega)]; omega
 ·rw [mod_wrap (by omega) (by omega)]; omega
theorem far_lt {n h x : Nat} (hh : h < n) (hx : x < n) : farN n h x < n := Nat.mod_lt _ (by omega)
theorem far_inj {n h x y : Nat} (hh : h < n) (hx : x < n) (hy : y < n) (e : farN n h x = farN n h y) : x = y := by
 rw [← add_of_far hh hx, e, add_of_far hh hy]
/-- i lies on the way from h to k just if it is no further from i to k than from h to k. -/
theorem far_on {n h i k : Nat} (hh : h < n) (hi : i < n) (hk : k < n) (hne : i ≠ k) : farN n h i < farN n h k ↔ farN n i k ≤ farN n h k := by
 rw [farN_eq hh hi, farN_eq hh hk, farN_eq hi hk]
 (repeat' split) <;> omega
theorem far_add {n h i k : Nat} (hh : h < n) (hi : i < n) (hk : k < n) (h1 : farN n h i < farN n h k) : farN n h k = farN n h i + farN n i k := by
 rw [farN_eq hh hi, farN_eq hh hk] at h1
 rw [farN_eq hh hi, farN_eq hh hk, farN_eq hi hk]
 (repeat' split at h1) <;> (repeat' split) <;> omega
theorem far_self {n i : Nat} (hi : i < n) : farN n i i = 0 := by rw [farN_eq hi hi, if_pos (Nat.le_refl _)]; omega
theorem far_pos {n i j : Nat} (hi : i < n) (hj : j < n) (hne : i ≠ j) : 1 ≤ farN n i j := by
 rw [farN_eq hi hj]; split <;> omega

abbrev at' (m : List Sl) (j : Nat) : Sl := m.getD j sl0
abbrev hm (m : List Sl) (j : Nat) : Nat := homeN m.length (at' m j).a (at' m j).p
/-- Nobody stands behind a gap, and nobody twice; but for the hole i. -/
structure Gapless (m : List Sl) (i : Nat) : Prop where
 slots : slotTo m m.length
 dist : ∀ x y, x < m.length → y < m.length → (at' m x).u = true → (at' m y).u = true → (at' m x).a = (at' m y).a → (at' m x).p = (at' m y).p → x = y
 gap : ∀ j x, j < m.length → x < m.length → (at' m j).u = true → farN m.length (hm m j) x < farN m.length (hm m j) j → (at' m x).u = true ∨ x = i

theorem scan_some {a p : Int} : ∀ {L : List Met} {E : Int × Bool}, scan a p L = some E → ∃ x, x ∈ L ∧ scanX a p x = some E
 | [], E, h => by simp [scan] at h
 | x :: L, E, h => by
  unfold scan at h
  rw [List.findSome?_cons] at h
  cases hx : scanX a p x with
  | none => rw [hx] at h; obtain ⟨y, hy, e⟩ := scan_some (L := L) (E := E) h; exact ⟨y, List.mem_cons_of_mem _ hy, e⟩
  | some E' => rw [hx] at h; exact ⟨x, List.mem_cons_self, by rw [hx]; exact h⟩
theorem scan_none {a p : Int} : ∀ {L : List Met}, (∀ x, x ∈ L → scanX a p x = none) → scan a p L = none
 | [], _ => rfl
 | x :: L, h => by
  unfold scan
  rw [List.findSome?_cons, h x List.mem_cons_self]
  exact scan_none (L := L) (fun y hy => h y (List.mem_cons_of_mem _ hy))
theorem mem_uptoM {f : Nat → Met} {k : Nat} {x : Met} : x ∈ uptoM f k ↔ ∃ d, d < k ∧ f d = x := by simp [uptoM]
theorem scanX_place {a p : Int} {x : Met} {E : Int × Bool} (h : scanX a p x = some E) : E.1 = (x.1 : Int) := by
 unfold scanX at h
 split at h
 ·split at h
  ·cases h; rfl
  ·cases h
 ·cases h; rfl
theorem scanX_none {a p : Int} {x : Met} : scanX a p x = none ↔ x.2.u = true ∧ ¬ (x.2.a = a ∧ x.2.p = p) := by
 unfold scanX
 by_cases h1 : x.2.u = true
 ·rw [if_pos h1]
  by_cases h2 : x.2.a = a ∧ x.2.p = p
  ·rw [if_pos h2]; simp [h1, h2]
  ·rw [if_neg h2]; simp [h1, h2]
 ·rw [if_neg h1]; simp [h1]
/-- A way that ends at its own meets others alone ahead of it. -/
theorem endL_before {l : List Sl} (hn : 0 < l.length) {a p : Int} {j : Nat} (hj : j < l.length) {f : Bool} (h : endL l a p = ((j : Int), f)) (x : Nat) (hx : x < l.length) (hd : farN l.length (homeN l.length a p) x < farN l.length (homeN l.length a p) j) : (at' l x).u = true ∧ ¬ ((at' l x).a = a ∧ (at' l x).p = p) := by
 have hh := homeN_lt hn a p
 generalize hhe : homeN l.length a p = h0 at *
 have hfx := far_lt hh hx
 have hme : metAt l h0 (farN l.length h0 x) = (x, at' l x) := by unfold metAt; rw [add_of_far hh hx]
 cases hs : scanX a p (x, at' l x) with
 | none => exact scanX_none.1 hs
 | some E0 =>
  exfalso
  cases hsc : scan a p (uptoM (metAt l h0) (farN l.length h0 x + 1)) with
  | none =>
   rw [uptoM_succ] at hsc
   have h1 : scan a p (uptoM (metAt l h0) (farN l.length h0 x)) = none := by
    cases hq : scan a p (uptoM (metAt l h0) (farN l.length h0 x)) with
    | none => rfl
    | some E => rw [scan_more _ _ _ _ hq] at hsc; cases hsc
   rw [scan_snoc _ _ _ _ h1, hme, hs] at hsc
   cases hsc
  | some E1 =>
   have he := endL_some (l := l) hn (a := a) (p := p) (k := farN l.length h0 x + 1) (E := E1) (by omega) (by rw [hhe]; exact hsc)
   obtain ⟨y, hy, hy2⟩ := scan_some hsc
   obtain ⟨d, hdl, rfl⟩ := mem_uptoM.1 hy
   have hpl := scanX_place hy2
   rw [← he, h] at hpl
   have hjd : j = (h0 + d) % l.length := by have : (j : Int) = ((h0 + d) % l.length : Nat) := hpl; omega
   have := far_of_add hh (show d < l.length by omega)
   rw [← hjd] at this
   omega
theorem endL_own {l : List Sl} (hn : 0 < l.length) {a p : Int} {j : Nat} (hj : j < l.length) (hu : (at' l j).u = true) (ha : (at' l j).a = a) (hp : (at' l j).p = p) (hb : ∀ x, x < l.length → farN l.length (homeN l.length a p) x < farN l.length (homeN l.length a p) j → (at' l x).u = true ∧ ¬ ((at' l x).a = a ∧ (at' l x).p = p)) : endL l a p = ((j : Int), true) := by
 have hh := homeN_lt hn a p
 have hfj := far_lt hh hj
 refine endL_some hn (k := farN l.length (homeN l.length a p) j + 1) (by omega) ?_
 rw [uptoM_succ, scan_snoc]
 ·unfold metAt scanX
  rw [add_of_far hh hj]
  simp only
  rw [if_pos hu, if_pos ⟨ha, hp⟩]
 ·refine scan_none ?_
  intro y hy
  obtain ⟨d, hd, rfl⟩ := mem_uptoM.1 hy
  have hx := Nat.mod_lt (homeN l.length a p + d) hn
  refine scanX_none.2 (hb _ hx ?_)
  rw [far_of_add hh (by omega)]
  exact hd
/-- A table that may be has no gaps. -/
theorem gapless_of {l : List Sl} (h : tableOkB l = true) (i : Nat) : Gapless l i := by
 obtain ⟨h1, h2, h3⟩ := tableOkB_iff.1 h
 have hw : ∀ j, j < l.length → (at' l j).u = true → endL l (at' l j).a (at' l j).p = ((j : Int), true) := fun j hj hu => by
  have ht := ((Bool.and_eq_true _ _).mp (h3 j hj)).2
  unfold wayB at ht
  rw [hu] at ht
  simpa using ht
 refine ⟨fun j hj => ((Bool.and_eq_true _ _).mp (h3 j hj)).1, ?_, ?_⟩
 ·intro x y hx hy hux huy ha hp
  have e1 := hw x hx hux
  have e2 := hw y hy huy
  rw [ha, hp, e2] at e1
  have : (y : Int) = x := congrArg Prod.fst e1
  omega
 ·intro j x hj hx hu hd
  exact .inl (endL_before (by omega) hj (hw j hj hu) x hx hd).1
/-- And a list with no gaps may be. -/
theorem ok_of_gapless {l : List Sl} (h1 : 1 ≤ l.length) (h2 : l.length ≤ 16) (hs : slotTo l l.length)
  (hd : ∀ x y, x < l.length → y < l.length → (at' l x).u = true → (at' l y).u = true → (at' l x).a = (at' l y).a → (at' l x).p = (at' l y).p → x = y)
  (hg : ∀ j x, j < l.length → x < l.length → (at' l j).u = true → farN l.length (hm l j) x < farN l.length (hm l j) j → (at' l x).u = true) : tableOkB l = true := by
 refine tableOkB_iff.2 ⟨h1, h2, fun j hj => ?_⟩
 cases hu : (at' l j).u with
 | false => exact tabAt_free hu (hs j hj)
 | true =>
  refine tabAt_used (hs j hj) (endL_own (by omega) hj hu rfl rfl ?_)
  intro x hx hfx
  refine ⟨hg j x hj hx hu hfx, fun ⟨e1, e2⟩ => ?_⟩
  have := hd x j hx hj (hg j x hj hx hu hfx) hu e1 e2
  subst this
  omega

end Go.Proofs.YtljogkoaaidlcaaDoor

/- What is dropped of a table that may be leaves one. -/
namespace Go.Proofs.YtljogkoaaidlcaaDoor
open Go.ChangeShapes Go.WideShapes Go.ChangeAt Go.RowKit Go.Joins
set_option linter.unusedVariables false
set_option linter.unusedSimpArgs false

/-- The hole is at i; the c slots behind it were looked at, and stay. -/
structure WInv (m : List Sl) (i c : Nat) : Prop where
 gl : Gapless m i
 lt : c < m.length
 seen : ∀ j, j < m.length → (at' m j).u = true → farN m.length i j ≤ c → ¬ farN m.length (hm m j) i < farN m.length (hm m j) j

theorem at_set_self {m : List Sl} {i : Nat} (s : Sl) (h : i < m.length) : at' (m.set i s) i = s := getD_set_self m i s h
theorem at_set_ne {m : List Sl} {i j : Nat} (s : Sl) (h : i ≠ j) : at' (m.set i s) j = at' m j := getD_set_ne m i j s h
theorem hm_set_ne {m : List Sl} {i j : Nat} (s : Sl) (h : i ≠ j) : hm (m.set i s) j = hm m j := by unfold hm; rw [at_set_ne s h, List.length_set]
theorem hm_lt {m : List Sl} (hn : 0 < m.length) (j : Nat) : hm m j < m.length := homeN_lt hn _ _

theorem WInv.start {l : List Sl} {i : Nat} (h : tableOkB l = true) (hi : i < l.length) : WInv (l.set i sl0) i 0 := by
 have hg := gapless_of h i
 obtain ⟨h1, _, _⟩ := tableOkB_iff.1 h
 have hne : ∀ j, (at' (l.set i sl0) j).u = true → i ≠ j := fun j hu e => by rw [← e, at_set_self _ hi] at hu; cases hu
 refine ⟨⟨?_, ?_, ?_⟩, (by rw [List.length_set]; omega), ?_⟩
 ·intro j hj
  rw [List.length_set] at hj
  by_cases e : i = j
  ·subst e; rw [getD_set_self _ _ _ hi]; rfl
  ·rw [getD_set_ne _ _ _ _ e]; exact hg.slots j hj
 ·intro x y hx hy hux huy ha hp
  have ex := hne x hux
  have ey := hne y huy
  rw [List.length_set] at hx hy
  rw [at_set_ne _ ex] at hux ha hp
  rw [at_set_ne _ ey] at huy ha hp
  exact hg.dist x y hx hy hux huy ha hp
 ·intro j x hj hx hu hd
  have ej := hne j hu
  rw [List.length_set] at hj hx hd
  rw [hm_set_ne _ ej] at hd
  rw [at_set_ne _ ej] at hu
  by_cases e : i = x
  ·exact .inr e.symm
  ·left
   rw [at_set_ne _ e]
   rcases hg.gap j x hj hx hu hd with hq | hq
   ·exact hq
   ·exact absurd hq.symm e
 ·intro j hj hu hd
  have ej := hne j hu
  rw [List.length_set] at hj hd
  have := far_pos hi hj ej
  omega

theorem WInv.stay {m : List Sl} {i c k : Nat} (h : WInv m i c) (hi : i < m.length) (hk : k = (i + 1 + c) % m.length) (hu : (at' m k).u = true) (hfree : (at' m i).u = false) (hmv : ¬ farN m.length i k ≤ farN m.length (hm m k) k) : WInv m i (c + 1) := by
 have hn : 0 < m.length := by omega
 have hkl : k < m.length := by rw [hk]; exact Nat.mod_lt _ hn
 have hne : i ≠ k := fun e => by rw [e, hu] at hfree; cases hfree
 have hc1 : c + 1 < m.length := by
  rcases Nat.lt_or_ge (c + 1) m.length with h1 | h1
  ·exact h1
  ·exfalso
   have := h.lt
   have e : i + 1 + c = i + m.length := by omega
   rw [e, Nat.add_mod_right, mod_small hi] at hk
   exact hne hk.symm
 have hfk : farN m.length i k = c + 1 := by rw [hk, Nat.add_assoc, Nat.add_comm 1 c]; exact far_of_add hi hc1
 refine ⟨h.gl, hc1, fun j hj huj hd => ?_⟩
 rcases Nat.lt_or_ge c (farN m.length i j) with h1 | h1
 ·have e : j = k := far_inj hi hj hkl (by omega)
  subst e
  intro hq
  exact hmv ((far_on (hm_lt hn j) hi hkl hne).1 hq)
 ·exact h.seen j hj huj h1

theorem WInv.move {m : List Sl} {i c k : Nat} (h : WInv m i c) (hi : i < m.length) (hkl : k < m.length) (hu : (at' m k).u = true) (hfree : (at' m i).u = false) (hmv : farN m.length i k ≤ farN m.length (hm m k) k) : WInv ((m.set i (at' m k)).set k sl0) k 0 := by
 have hn : 0 < m.length := by omega
 have hne : i ≠ k := fun e => by rw [e, hu] at hfree; cases hfree
 have hlen : ((m.set i (at' m k)).set k sl0).length = m.length := by simp
 have hon := (far_on (hm_lt hn k) hi hkl hne).2 hmv
 have ai : at' ((m.set i (at' m k)).set k sl0) i = at' m k := by rw [at_set_ne _ (fun e => hne e.symm), at_set_self _ hi]
 have ak : at' ((m.set i (at' m k)).set k sl0) k = sl0 := at_set_self _ (by simpa using hkl)
 have ao : ∀ x, x ≠ i → x ≠ k → at' ((m.set i (at' m k)).set k sl0) x = at' m x := fun x h1 h2 => by rw [at_set_ne _ (fun e => h2 e.symm), at_set_ne _ (fun e => h1 e.symm)]
 have hmi : hm ((m.set i (at' m k)).set k sl0) i = hm m k := by unfold hm; rw [ai, hlen]
 have hmo : ∀ x, x ≠ i → x ≠ k → hm ((m.set i (at' m k)).set k sl0) x = hm m x := fun x h1 h2 => by unfold hm; rw [ao x h1 h2, hlen]
 have hnk : ∀ x, (at' ((m.set i (at' m k)).set k sl0) x).u = true → x ≠ k := fun x hq e => by rw [e, ak] at hq; cases hq
 refine ⟨⟨?_, ?_, ?_⟩, by rw [hlen]; exact hn, ?_⟩
 ·intro j hj
  rw [hlen] at hj
  by_cases e1 : j = k
  ·subst e1; show slotB (at' _ j) = true; rw [ak]; rfl
  ·by_cases e2 : j = i
   ·subst e2; show slotB (at' _ j) = true; rw [ai]; exact h.gl.slots k hkl
   ·show slotB (at' _ j) = true; rw [ao j e2 e1]; exact h.gl.slots j hj
 ·intro x y hx hy hux huy ha hp
  have ex := hnk x hux
  have ey := hnk y huy
  rw [hlen] at hx hy
  by_cases e1 : x = i
  ·by_cases e2 : y = i
   ·rw [e1, e2]
   ·rw [e1, ai] at ha hp
    rw [ao y e2 ey] at huy ha hp
    exact absurd (h.gl.dist k y hkl hy hu huy ha hp).symm ey
  ·by_cases e2 : y = i
   ·rw [e2, ai] at ha hp
    rw [ao x e1 ex] at hux ha hp
    exact absurd (h.gl.dist x k hx hkl hux hu ha hp) ex
   ·rw [ao x e1 ex] at hux ha hp
    rw [ao y e2 ey] at huy ha hp
    exact h.gl.dist x y hx hy hux huy ha hp
 ·intro j x hj hx huj hd
  have ej := hnk j huj
  rw [hlen] at hj hx hd
  by_cases e1 : x = k
  ·exact .inr e1
  ·left
   by_cases e2 : x = i
   ·rw [e2, ai]; exact hu
   ·rw [ao x e2 e1]
    by_cases e3 : j = i
    ·rw [e3, hmi] at hd
     rcases h.gl.gap k x hkl hx hu (by omega) with hq | hq
     ·exact hq
     ·exact absurd hq e2
    ·rw [hmo j e3 ej] at hd
     rw [ao j e3 ej] at huj
     rcases h.gl.gap j x hj hx huj hd with hq | hq
     ·exact hq
     ·exact absurd hq e2
 ·intro j hj huj hd
  rw [hlen] at hj hd
  have := far_pos hkl hj (fun e => hnk j huj e.symm)
  omega

theorem WInv.done {m : List Sl} {i c k : Nat} (h : WInv m i c) (h16 : m.length ≤ 16) (hi : i < m.length) (hk : k = (i + 1 + c) % m.length) (hfree : (at' m k).u = false) : tableOkB m = true := by
 have hn : 0 < m.length := by omega
 have hkl : k < m.length := by rw [hk]; exact Nat.mod_lt _ hn
 refine ok_of_gapless (by omega) h16 h.gl.slots h.gl.dist ?_
 intro j x hj hx hu hd
 rcases h.gl.gap j x hj hx hu hd with hq | hq
 ·exact hq
 ·exfalso
  subst hq
  have hs : c < farN m.length x j := Nat.lt_of_not_le fun hle => h.seen j hj hu hle hd
  have hlt := far_lt hi hj
  have hfk : farN m.length x k = c + 1 := by rw [hk, Nat.add_assoc, Nat.add_comm 1 c]; exact far_of_add hi (by omega)
  have hjk : j ≠ k := fun e => by rw [e, hfree] at hu; cases hu
  have hlt2 : farN m.length x k < farN m.length x j := by
   rcases Nat.lt_or_ge (c + 1) (farN m.length x j) with h1 | h1
   ·omega
   ·exact absurd (far_inj hi hj hkl (by omega)) hjk
  have e1 := far_add (hm_lt hn j) hi hj hd
  have hxk : x ≠ k := fun e => by rw [e, far_self hkl] at hfk; omega
  have hk2 : farN m.length (hm m j) k < farN m.length (hm m j) j := by
   have := hm_lt hn j
   have a1 := farN_eq this hkl
   have a2 := farN_eq this hi
   have a3 := farN_eq this hj
   have a4 := farN_eq hi hkl
   have a5 := farN_eq hi hj
   (repeat' split at a1) <;> (repeat' split at a2) <;> (repeat' split at a3) <;> (repeat' split at a4) <;> (repeat' split at a5) <;> omega
  rcases h.gl.gap j k hj hkl hu hk2 with h1 | h1
  ·rw [h1] at hfree; cases hfree
  ·exact hxk h1.symm

theorem drop_keeps {n : Nat} {R : List Sl} : ∀ (g : Nat) (m : List Sl) (i c k : Nat), k = (i + 1 + c) % n → DropInv n R g m i k → WInv m i c → tableOkB R = true
 | g, m, i, c, k, hk, hD, hW => by
  have hlen := hD.len
  have hi := hD.hi
  have hkl := hD.hk
  have hf := hD.free
  cases hu : (m.getD k sl0).u with
  | false =>
   rw [← hD.done hu]
   exact hW.done (by have := hD.le; omega) (by omega) (by rw [hlen]; exact hk) hu
  | true =>
   cases hm' : moves n m i k with
   | true =>
    obtain ⟨hg, hN⟩ := hD.move hu hm'
    obtain ⟨g', rfl⟩ : ∃ g', g = g' + 1 := ⟨g - 1, by omega⟩
    have hmv := moves_iff.1 hm'
    exact drop_keeps g' _ k 0 _ (by rw [Nat.add_zero]) hN (hW.move (by omega) (by omega) hu hf (by rw [hlen]; unfold hm; rw [hlen]; exact hmv))
   | false =>
    obtain ⟨hg, hN⟩ := hD.stay hu hm'
    obtain ⟨g', rfl⟩ : ∃ g', g = g' + 1 := ⟨g - 1, by omega⟩
    have hmv : ¬ farN n i k ≤ farN n (homeN n (m.getD k sl0).a (m.getD k sl0).p) k := fun hq => by rw [moves_iff.2 hq] at hm'; cases hm'
    refine drop_keeps g' m i (c + 1) _ ?_ hN (hW.stay (by omega) (by rw [hlen]; exact hk) hu hf (by rw [hlen]; unfold hm; rw [hlen]; exact hmv))
    rw [hk, Nat.mod_add_mod]; congr 1
/-- What is dropped of a table that may be leaves one. -/
theorem dropAtL_ok {l : List Sl} {i : Nat} (h : tableOkB l = true) (hi : i < l.length) : tableOkB (dropAtL l i) = true := by
 obtain ⟨h1, h2, _⟩ := tableOkB_iff.1 h
 exact drop_keeps _ _ i 0 _ (by rw [Nat.add_zero]) (DropInv.start h2 hi (flowsOk_of h)) (WInv.start h hi)

end Go.Proofs.YtljogkoaaidlcaaDoor

/- What is due goes: as the model has it. -/
namespace Go.Proofs.YtljogkoaaidlcaaDoor
open Go.ChangeShapes Go.WideShapes Go.ChangeAt Go.RowKit Go.Joins
set_option linter.unusedVariables false
set_option linter.unusedSimpArgs false

def dueB (s : Sl) (now : Int) : Bool := s.u && decide (s.t ≤ now)
/-- The first that is due. -/
def dueAt (l : List Sl) (now : Int) : Option Nat := (List.range l.length).find? (fun j => dueB (at' l j) now)
theorem dueAt_spec {l : List Sl} {now : Int} {k : Nat} (h : dueAt l now = some k) : k < l.length ∧ dueB (at' l k) now = true :=
 ⟨List.mem_range.1 (List.mem_of_find?_eq_some h), by have := List.find?_some h; simpa using this⟩
/-- How many are there. -/
def cntW (m : List Sl) (j : Nat) : Nat := if (at' m j).u = true then 1 else 0
def cnt (m : List Sl) : Nat := sumTo m.length (cntW m)
theorem sumTo_le : ∀ (n : Nat) {f : Nat → Nat}, (∀ x, f x ≤ 1) → sumTo n f ≤ n
 | 0, _, _ => Nat.le_refl _
 | n + 1, f, h => by simp only [sumTo]; have := sumTo_le n h; have := h n; omega
theorem cnt_le (m : List Sl) : cnt m ≤ m.length := sumTo_le _ (fun x => by unfold cntW; split <;> omega)
theorem cnt_set {m : List Sl} {i : Nat} (hi : i < m.length) (s : Sl) : cnt (m.set i s) + cntW m i = cnt m + (if s.u = true then 1 else 0) := by
 unfold cnt
 rw [List.length_set]
 have h := sumTo_upd m.length (f := cntW (m.set i s)) (g := cntW m) hi (fun x hx => by unfold cntW; rw [at_set_ne s (fun e => hx e.symm)])
 rw [show cntW (m.set i s) i = if s.u = true then 1 else 0 by unfold cntW; rw [at_set_self s hi]] at h
 exact h
theorem cnt_drop {n : Nat} {R : List Sl} : ∀ (g : Nat) (m : List Sl) (i k : Nat), DropInv n R g m i k → cnt R = cnt m
 | g, m, i, k, hD => by
  have hlen := hD.len
  have hi := hD.hi
  have hkl := hD.hk
  cases hu : (m.getD k sl0).u with
  | false => rw [← hD.done hu]
  | true =>
   cases hm' : moves n m i k with
   | true =>
    obtain ⟨hg, hN⟩ := hD.move hu hm'
    obtain ⟨g', rfl⟩ : ∃ g', g = g' + 1 := ⟨g - 1, by omega⟩
    rw [cnt_drop g' _ _ _ hN]
    have hne : i ≠ k := fun e => by have h := hD.free; rw [e, hu] at h; cases h
    have e1 := cnt_set (m := m) (i := i) (by omega) (m.getD k sl0)
    have e2 := cnt_set (m := m.set i (m.getD k sl0)) (i := k) (by rw [List.length_set]; omega) sl0
    have c1 : cntW m i = 0 := by unfold cntW; rw [show (at' m i).u = false from hD.free]; rfl
    have c2 : cntW (m.set i (m.getD k sl0)) k = 1 := by unfold cntW; rw [at_set_ne _ hne, show (at' m k).u = true from hu]; rfl
    rw [hu, if_pos rfl] at e1
    rw [if_neg (by decide)] at e2
    omega
   | false =>
    obtain ⟨hg, hN⟩ := hD.stay hu hm'
    obtain ⟨g', rfl⟩ : ∃ g', g = g' + 1 := ⟨g - 1, by omega⟩
    exact cnt_drop g' _ _ _ hN
theorem cnt_dropAt {l : List Sl} {i : Nat} (h : tableOkB l = true) (hi : i < l.length) (hu : (at' l i).u = true) : cnt (dropAtL l i) + 1 = cnt l := by
 obtain ⟨h1, h2, _⟩ := tableOkB_iff.1 h
 rw [cnt_drop _ _ _ _ (DropInv.start h2 hi (flowsOk_of h))]
 have e := cnt_set (m := l) hi sl0
 have c1 : cntW l i = 1 := by unfold cntW; rw [hu]; rfl
 rw [if_neg (by decide)] at e
 omega
def expGo (now : Int) : Nat → List Sl → Nat → List Sl × Nat
 | 0, l, c => (l, c)
 | f + 1, l, c => match dueAt l now with
  | none => (l, c)
  | some i => expGo now f (dropAtL l i) (c + 1)
/-- What is left, and how many went. -/
def expL (l : List Sl) (now : Int) : List Sl × Nat := expGo now (cnt l + 1) l 0
structure ExpInv (n : Nat) (now : Int) (R : List Sl × Nat) (g : Nat) (m : List Sl) (c : Nat) : Prop where
 ok : tableOkB m = true
 len : m.length = n
 ms : cnt m ≤ g
 go : expGo now (g + 1) m c = R
 bd : c + cnt m ≤ 16
theorem ExpInv.start {l : List Sl} {now : Int} (h : tableOkB l = true) : ExpInv l.length now (expL l now) (cnt l) l 0 :=
 ⟨h, rfl, Nat.le_refl _, rfl, by have := cnt_le l; have := (tableOkB_iff.1 h).2.1; omega⟩
theorem ExpInv.done {n g c : Nat} {now : Int} {R : List Sl × Nat} {m : List Sl} (h : ExpInv n now R g m c) (hd : dueAt m now = none) : R = (m, c) := by
 rw [← h.go]; unfold expGo; rw [hd]
theorem ExpInv.step {n g c i : Nat} {now : Int} {R : List Sl × Nat} {m : List Sl} (h : ExpInv n now R g m c) (hd : dueAt m now = some i) : 1 ≤ g ∧ i < n ∧ (at' m i).u = true ∧ c + 1 ≤ 16 ∧ ExpInv n now R (g - 1) (dropAtL m i) (c + 1) := by
 obtain ⟨h1, h2⟩ := dueAt_spec hd
 have hu : (at' m i).u = true := by unfold dueB at h2; exact ((Bool.and_eq_true _ _).mp h2).1
 have hc := cnt_dropAt h.ok h1 hu
 have hms := h.ms
 have hbd := h.bd
 have hg : 1 ≤ g := by omega
 refine ⟨hg, by rw [← h.len]; exact h1, hu, by omega, dropAtL_ok h.ok h1, by rw [dropAtL_length]; exact h.len, by omega, ?_, by omega⟩
 rw [← h.go, show g - 1 + 1 = g by omega]
 conv => rhs; unfold expGo
 rw [hd]
end Go.Proofs.YtljogkoaaidlcaaDoor

