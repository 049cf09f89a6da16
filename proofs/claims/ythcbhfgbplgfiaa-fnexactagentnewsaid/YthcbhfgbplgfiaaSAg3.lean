/- An agent's own copy in the model; DrainIt and Load, on both sides. -/
import Derived.Test.YthcbhfgbplgfiaaSAg2
import Derived.Test.YthcbhfgbplgfiaaSPut
namespace Go.Proofs.Ythcbhfgbplgfiaa
open Go.ChangeShapes Go.WideShapes Go.ChangeAt Go.RowKit Go.Joins
set_option linter.unusedVariables false
set_option linter.unusedSimpArgs false

set_option maxHeartbeats 4000000 in
theorem l6own_any (v : Value) (m : Am) (w : World) (hR : RdA w.heap.size w v m) (hc0 : 0 < m.c.length) (ht0 : 0 < m.t.length) (hf : m.c.length + m.t.length ≤ 1048576) :
    Calls Try.prog 70 #[v] w fun e w' => ∃ v', e = .returned v' ∧ InA w.heap.size w'.heap.size w' v' m ∧ Below w.heap.size w w' := by
  obtain ⟨vc, vt, rfl, ⟨oc, cc, rfl, rc⟩, ⟨ot, ct, rfl, rt⟩⟩ := hR
  rcases rc with hrc | ⟨bc, fc, rfl, hbc, hcc⟩
  · rw [hrc] at hc0; simp at hc0
  rcases rt with hrt | ⟨bt, ft, rfl, hbt, hct⟩
  · rw [hrt] at ht0; simp at ht0
  have HC := hide hcc
  have HT := hide hct
  clear hcc hct
  obtain ⟨W0, hW0⟩ : ∃ W, ((w.alloc (.cells #[.int .i64 m.id, .int .i64 m.lim, .bool m.dr, .slice (some ⟨bc, fc, none⟩) m.c.length cc, .slice (some ⟨bt, ft, none⟩) m.t.length ct] 27)).alloc (.cells #[.int .i64 0, .int .i64 0, .bool false, .slice none 0 0, .slice none 0 0] 27)) = W := ⟨_, rfl⟩
  have hb_W0 : Below w.heap.size w W0 := by rw [← hW0]; exact (((Below.refl _ _).alloc (Nat.le_refl _) _).alloc (by simp <;> omega) _)
  have HB := hide hb_W0
  clear hb_W0
  have zz : w.heap.size < W0.heap.size := by rw [← hW0]; simp <;> omega
  have z0 : W0.cell? ⟨w.heap.size, 0, none⟩ = some (.int .i64 m.id) := by rw [← hW0]; simp [go_sem]
  have z1 : W0.cell? ⟨w.heap.size, 1, none⟩ = some (.int .i64 m.lim) := by rw [← hW0]; simp [go_sem]
  have z2 : W0.cell? ⟨w.heap.size, 2, none⟩ = some (.bool m.dr) := by rw [← hW0]; simp [go_sem]
  have z3 : W0.cell? ⟨w.heap.size, 3, none⟩ = some (.slice (some ⟨bc, fc, none⟩) m.c.length cc) := by rw [← hW0]; simp [go_sem]
  have z4 : W0.cell? ⟨w.heap.size, 4, none⟩ = some (.slice (some ⟨bt, ft, none⟩) m.t.length ct) := by rw [← hW0]; simp [go_sem]
  have fz0 : W0.frozen? ⟨w.heap.size, 0, none⟩ = false := by rw [← hW0]; simp [go_sem]
  have fz1 : W0.frozen? ⟨w.heap.size, 1, none⟩ = false := by rw [← hW0]; simp [go_sem]
  have fz2 : W0.frozen? ⟨w.heap.size, 2, none⟩ = false := by rw [← hW0]; simp [go_sem]
  have fz3 : W0.frozen? ⟨w.heap.size, 3, none⟩ = false := by rw [← hW0]; simp [go_sem]
  have fz4 : W0.frozen? ⟨w.heap.size, 4, none⟩ = false := by rw [← hW0]; simp [go_sem]
  have zr : w.heap.size + 1 < W0.heap.size := by rw [← hW0]; simp
  have r0 : W0.cell? ⟨w.heap.size + 1, 0, none⟩ = some (.int .i64 0) := by rw [← hW0]; simp [go_sem]
  have r1 : W0.cell? ⟨w.heap.size + 1, 1, none⟩ = some (.int .i64 0) := by rw [← hW0]; simp [go_sem]
  have r2 : W0.cell? ⟨w.heap.size + 1, 2, none⟩ = some (.bool false) := by rw [← hW0]; simp [go_sem]
  have r3 : W0.cell? ⟨w.heap.size + 1, 3, none⟩ = some (.slice none 0 0) := by rw [← hW0]; simp [go_sem]
  have r4 : W0.cell? ⟨w.heap.size + 1, 4, none⟩ = some (.slice none 0 0) := by rw [← hW0]; simp [go_sem]
  have fr0 : W0.frozen? ⟨w.heap.size + 1, 0, none⟩ = false := by rw [← hW0]; simp [go_sem]
  have fr1 : W0.frozen? ⟨w.heap.size + 1, 1, none⟩ = false := by rw [← hW0]; simp [go_sem]
  have fr2 : W0.frozen? ⟨w.heap.size + 1, 2, none⟩ = false := by rw [← hW0]; simp [go_sem]
  have fr3 : W0.frozen? ⟨w.heap.size + 1, 3, none⟩ = false := by rw [← hW0]; simp [go_sem]
  have fr4 : W0.frozen? ⟨w.heap.size + 1, 4, none⟩ = false := by rw [← hW0]; simp [go_sem]
  have h1 := fun W (hb : Below w.heap.size w W) => l5own_any bc fc cc m.c W (Nat.lt_of_lt_of_le hbc hb.size) (fun i hi j hj => (hb.cell (p := ⟨bc, fc + i * layS.k + j, none⟩) hbc).trans (HC.out i hi j hj)) (by omega)
  have h2 := fun W (hb : Below w.heap.size w W) => l5own_any bt ft ct m.t W (Nat.lt_of_lt_of_le hbt hb.size) (fun i hi j hj => (hb.cell (p := ⟨bt, ft + i * layS.k + j, none⟩) hbt).trans (HT.out i hi j hj)) (by omega)
  have H1 := hide h1
  have H2 := hide h2
  clear h1 h2
  have hz0 := zr
  go_enter Try.func70, Try.ntmps70
  go_wp2_with fail
  refine (H1.out W0 HB.out).mono ?_
  rintro e v1 ⟨p1, c1, rfl, hown, hb⟩
  have HI : Hid (InS W0.heap.size v1.heap.size v1 (.slice p1 m.c.length c1) m.c) := InRow.of hown
  have hs1 := hb.size
  clear hown
  replace z0 : v1.cell? ⟨w.heap.size, 0, none⟩ = some (.int .i64 m.id) := (hb.cell (p := ⟨w.heap.size, 0, none⟩) zz).trans z0
  replace z1 : v1.cell? ⟨w.heap.size, 1, none⟩ = some (.int .i64 m.lim) := (hb.cell (p := ⟨w.heap.size, 1, none⟩) zz).trans z1
  replace z2 : v1.cell? ⟨w.heap.size, 2, none⟩ = some (.bool m.dr) := (hb.cell (p := ⟨w.heap.size, 2, none⟩) zz).trans z2
  replace z3 : v1.cell? ⟨w.heap.size, 3, none⟩ = some (.slice (some ⟨bc, fc, none⟩) m.c.length cc) := (hb.cell (p := ⟨w.heap.size, 3, none⟩) zz).trans z3
  replace z4 : v1.cell? ⟨w.heap.size, 4, none⟩ = some (.slice (some ⟨bt, ft, none⟩) m.t.length ct) := (hb.cell (p := ⟨w.heap.size, 4, none⟩) zz).trans z4
  replace fz0 : v1.frozen? ⟨w.heap.size, 0, none⟩ = false := (hb.frozen (p := ⟨w.heap.size, 0, none⟩) zz).trans fz0
  replace fz1 : v1.frozen? ⟨w.heap.size, 1, none⟩ = false := (hb.frozen (p := ⟨w.heap.size, 1, none⟩) zz).trans fz1
  replace fz2 : v1.frozen? ⟨w.heap.size, 2, none⟩ = false := (hb.frozen (p := ⟨w.heap.size, 2, none⟩) zz).trans fz2
  replace fz3 : v1.frozen? ⟨w.heap.size, 3, none⟩ = false := (hb.frozen (p := ⟨w.heap.size, 3, none⟩) zz).trans fz3
  replace fz4 : v1.frozen? ⟨w.heap.size, 4, none⟩ = false := (hb.frozen (p := ⟨w.heap.size, 4, none⟩) zz).trans fz4
  replace zz : w.heap.size < v1.heap.size := Nat.lt_of_lt_of_le zz hb.size
  replace r0 : v1.cell? ⟨w.heap.size + 1, 0, none⟩ = some (.int .i64 0) := (hb.cell (p := ⟨w.heap.size + 1, 0, none⟩) zr).trans r0
  replace r1 : v1.cell? ⟨w.heap.size + 1, 1, none⟩ = some (.int .i64 0) := (hb.cell (p := ⟨w.heap.size + 1, 1, none⟩) zr).trans r1
  replace r2 : v1.cell? ⟨w.heap.size + 1, 2, none⟩ = some (.bool false) := (hb.cell (p := ⟨w.heap.size + 1, 2, none⟩) zr).trans r2
  replace r3 : v1.cell? ⟨w.heap.size + 1, 3, none⟩ = some (.slice none 0 0) := (hb.cell (p := ⟨w.heap.size + 1, 3, none⟩) zr).trans r3
  replace r4 : v1.cell? ⟨w.heap.size + 1, 4, none⟩ = some (.slice none 0 0) := (hb.cell (p := ⟨w.heap.size + 1, 4, none⟩) zr).trans r4
  replace fr0 : v1.frozen? ⟨w.heap.size + 1, 0, none⟩ = false := (hb.frozen (p := ⟨w.heap.size + 1, 0, none⟩) zr).trans fr0
  replace fr1 : v1.frozen? ⟨w.heap.size + 1, 1, none⟩ = false := (hb.frozen (p := ⟨w.heap.size + 1, 1, none⟩) zr).trans fr1
  replace fr2 : v1.frozen? ⟨w.heap.size + 1, 2, none⟩ = false := (hb.frozen (p := ⟨w.heap.size + 1, 2, none⟩) zr).trans fr2
  replace fr3 : v1.frozen? ⟨w.heap.size + 1, 3, none⟩ = false := (hb.frozen (p := ⟨w.heap.size + 1, 3, none⟩) zr).trans fr3
  replace fr4 : v1.frozen? ⟨w.heap.size + 1, 4, none⟩ = false := (hb.frozen (p := ⟨w.heap.size + 1, 4, none⟩) zr).trans fr4
  replace zr : w.heap.size + 1 < v1.heap.size := Nat.lt_of_lt_of_le zr hb.size
  replace HB := hide (HB.out.trans (hb.mono HB.out.size))
  clear hb
  clear hW0
  go_wp2_with fail
  obtain ⟨W2, hW2⟩ : ∃ W, (v1.setCell ⟨w.heap.size, 3, none⟩ (.slice p1 m.c.length c1)) = W := ⟨_, rfl⟩
  have hst : Stp (w.heap.size) (w.heap.size + 1) v1 W2 := by rw [← hW2]; exact stp_set1 v1 (w.heap.size) 3 _
  rw [hW2]
  have z0' : W2.cell? ⟨w.heap.size, 0, none⟩ = some (.int .i64 m.id) := by rw [← hW2]; simp [go_sem, z0, z1, z2, z3, z4]
  have fz0' : W2.frozen? ⟨w.heap.size, 0, none⟩ = false := by rw [← hW2]; simp [go_sem, fz0, fz1, fz2, fz3, fz4]
  have z1' : W2.cell? ⟨w.heap.size, 1, none⟩ = some (.int .i64 m.lim) := by rw [← hW2]; simp [go_sem, z0, z1, z2, z3, z4]
  have fz1' : W2.frozen? ⟨w.heap.size, 1, none⟩ = false := by rw [← hW2]; simp [go_sem, fz0, fz1, fz2, fz3, fz4]
  have z2' : W2.cell? ⟨w.heap.size, 2, none⟩ = some (.bool m.dr) := by rw [← hW2]; simp [go_sem, z0, z1, z2, z3, z4]
  have fz2' : W2.frozen? ⟨w.heap.size, 2, none⟩ = false := by rw [← hW2]; simp [go_sem, fz0, fz1, fz2, fz3, fz4]
  have z3' : W2.cell? ⟨w.heap.size, 3, none⟩ = some (.slice p1 m.c.length c1) := by rw [← hW2]; simp [go_sem, z0, z1, z2, z3, z4]
  have fz3' : W2.frozen? ⟨w.heap.size, 3, none⟩ = false := by rw [← hW2]; simp [go_sem, fz0, fz1, fz2, fz3, fz4]
  have z4' : W2.cell? ⟨w.heap.size, 4, none⟩ = some (.slice (some ⟨bt, ft, none⟩) m.t.length ct) := by rw [← hW2]; simp [go_sem, z0, z1, z2, z3, z4]
  have fz4' : W2.frozen? ⟨w.heap.size, 4, none⟩ = false := by rw [← hW2]; simp [go_sem, fz0, fz1, fz2, fz3, fz4]
  replace z0 := z0'
  replace fz0 := fz0'
  replace z1 := z1'
  replace fz1 := fz1'
  replace z2 := z2'
  replace fz2 := fz2'
  replace z3 := z3'
  replace fz3 := fz3'
  replace z4 := z4'
  replace fz4 := fz4'
  replace zz : w.heap.size < W2.heap.size := Nat.lt_of_lt_of_le zz hst.size
  replace r0 : W2.cell? ⟨w.heap.size + 1, 0, none⟩ = some (.int .i64 0) := hst.cell r0 zr (by omega)
  replace r1 : W2.cell? ⟨w.heap.size + 1, 1, none⟩ = some (.int .i64 0) := hst.cell r1 zr (by omega)
  replace r2 : W2.cell? ⟨w.heap.size + 1, 2, none⟩ = some (.bool false) := hst.cell r2 zr (by omega)
  replace r3 : W2.cell? ⟨w.heap.size + 1, 3, none⟩ = some (.slice none 0 0) := hst.cell r3 zr (by omega)
  replace r4 : W2.cell? ⟨w.heap.size + 1, 4, none⟩ = some (.slice none 0 0) := hst.cell r4 zr (by omega)
  replace fr0 : W2.frozen? ⟨w.heap.size + 1, 0, none⟩ = false := hst.frozen fr0 zr (by omega)
  replace fr1 : W2.frozen? ⟨w.heap.size + 1, 1, none⟩ = false := hst.frozen fr1 zr (by omega)
  replace fr2 : W2.frozen? ⟨w.heap.size + 1, 2, none⟩ = false := hst.frozen fr2 zr (by omega)
  replace fr3 : W2.frozen? ⟨w.heap.size + 1, 3, none⟩ = false := hst.frozen fr3 zr (by omega)
  replace fr4 : W2.frozen? ⟨w.heap.size + 1, 4, none⟩ = false := hst.frozen fr4 zr (by omega)
  replace zr : w.heap.size + 1 < W2.heap.size := Nat.lt_of_lt_of_le zr hst.size
  replace HI := hide (InRow.step HI.out hst (.inl (by omega)))
  have hs2 := hst.size
  replace HB := hide (HB.out.trans (hst.below (by omega) HB.out.size))
  clear hst
  refine (H2.out W2 HB.out).mono ?_
  rintro e v2 ⟨p2, c2, rfl, hown, hb⟩
  have HJ : Hid (InS W2.heap.size v2.heap.size v2 (.slice p2 m.t.length c2) m.t) := InRow.of hown
  replace HI := hide (InRow.step HI.out (Stp.of (lo := 0) (hi := 0) hb) (.inl (Nat.zero_le _)))
  have hs3 := hb.size
  clear hown
  replace z0 : v2.cell? ⟨w.heap.size, 0, none⟩ = some (.int .i64 m.id) := (hb.cell (p := ⟨w.heap.size, 0, none⟩) zz).trans z0
  replace z1 : v2.cell? ⟨w.heap.size, 1, none⟩ = some (.int .i64 m.lim) := (hb.cell (p := ⟨w.heap.size, 1, none⟩) zz).trans z1
  replace z2 : v2.cell? ⟨w.heap.size, 2, none⟩ = some (.bool m.dr) := (hb.cell (p := ⟨w.heap.size, 2, none⟩) zz).trans z2
  replace z3 : v2.cell? ⟨w.heap.size, 3, none⟩ = some (.slice p1 m.c.length c1) := (hb.cell (p := ⟨w.heap.size, 3, none⟩) zz).trans z3
  replace z4 : v2.cell? ⟨w.heap.size, 4, none⟩ = some (.slice (some ⟨bt, ft, none⟩) m.t.length ct) := (hb.cell (p := ⟨w.heap.size, 4, none⟩) zz).trans z4
  replace fz0 : v2.frozen? ⟨w.heap.size, 0, none⟩ = false := (hb.frozen (p := ⟨w.heap.size, 0, none⟩) zz).trans fz0
  replace fz1 : v2.frozen? ⟨w.heap.size, 1, none⟩ = false := (hb.frozen (p := ⟨w.heap.size, 1, none⟩) zz).trans fz1
  replace fz2 : v2.frozen? ⟨w.heap.size, 2, none⟩ = false := (hb.frozen (p := ⟨w.heap.size, 2, none⟩) zz).trans fz2
  replace fz3 : v2.frozen? ⟨w.heap.size, 3, none⟩ = false := (hb.frozen (p := ⟨w.heap.size, 3, none⟩) zz).trans fz3
  replace fz4 : v2.frozen? ⟨w.heap.size, 4, none⟩ = false := (hb.frozen (p := ⟨w.heap.size, 4, none⟩) zz).trans fz4
  replace zz : w.heap.size < v2.heap.size := Nat.lt_of_lt_of_le zz hb.size
  replace r0 : v2.cell? ⟨w.heap.size + 1, 0, none⟩ = some (.int .i64 0) := (hb.cell (p := ⟨w.heap.size + 1, 0, none⟩) zr).trans r0
  replace r1 : v2.cell? ⟨w.heap.size + 1, 1, none⟩ = some (.int .i64 0) := (hb.cell (p := ⟨w.heap.size + 1, 1, none⟩) zr).trans r1
  replace r2 : v2.cell? ⟨w.heap.size + 1, 2, none⟩ = some (.bool false) := (hb.cell (p := ⟨w.heap.size + 1, 2, none⟩) zr).trans r2
  replace r3 : v2.cell? ⟨w.heap.size + 1, 3, none⟩ = some (.slice none 0 0) := (hb.cell (p := ⟨w.heap.size + 1, 3, none⟩) zr).trans r3
  replace r4 : v2.cell? ⟨w.heap.size + 1, 4, none⟩ = some (.slice none 0 0) := (hb.cell (p := ⟨w.heap.size + 1, 4, none⟩) zr).trans r4
  replace fr0 : v2.frozen? ⟨w.heap.size + 1, 0, none⟩ = false := (hb.frozen (p := ⟨w.heap.size + 1, 0, none⟩) zr).trans fr0
  replace fr1 : v2.frozen? ⟨w.heap.size + 1, 1, none⟩ = false := (hb.frozen (p := ⟨w.heap.size + 1, 1, none⟩) zr).trans fr1
  replace fr2 : v2.frozen? ⟨w.heap.size + 1, 2, none⟩ = false := (hb.frozen (p := ⟨w.heap.size + 1, 2, none⟩) zr).trans fr2
  replace fr3 : v2.frozen? ⟨w.heap.size + 1, 3, none⟩ = false := (hb.frozen (p := ⟨w.heap.size + 1, 3, none⟩) zr).trans fr3
  replace fr4 : v2.frozen? ⟨w.heap.size + 1, 4, none⟩ = false := (hb.frozen (p := ⟨w.heap.size + 1, 4, none⟩) zr).trans fr4
  replace zr : w.heap.size + 1 < v2.heap.size := Nat.lt_of_lt_of_le zr hb.size
  replace HB := hide (HB.out.trans (hb.mono HB.out.size))
  clear hb
  clear hW2
  go_wp2
  refine bodyPost_ret (v := agt m.id m.lim m.dr (.slice p1 m.c.length c1) (.slice p2 m.t.length c2)) (by simp [results, Try.results70, go_sem, r0, r1, r2, r3, r4]) rfl ⟨_, rfl, ?_, ?_⟩
  · have a1 := InRow.step (InRow.step HI.out (stp_set1 v2 w.heap.size 4 (.slice p2 m.t.length c2)) (.inl (by omega))) (stp_set5v _ (w.heap.size + 1) (.int .i64 m.id) (.int .i64 m.lim) (.bool m.dr) (.slice p1 m.c.length c1) (.slice p2 m.t.length c2)) (.inl (by omega))
    have a2 := InRow.step (InRow.step HJ.out (stp_set1 v2 w.heap.size 4 (.slice p2 m.t.length c2)) (.inl (by omega))) (stp_set5v _ (w.heap.size + 1) (.int .i64 m.id) (.int .i64 m.lim) (.bool m.dr) (.slice p1 m.c.length c1) (.slice p2 m.t.length c2)) (.inl (by omega))
    exact ⟨_, _, W2.heap.size, rfl, InRow.mono a1 (by omega) (by omega), InRow.mono a2 (Nat.le_refl _) (by simp), by omega, by simp; omega⟩
  · exact below_set5v (HB.out.setCell (p := ⟨w.heap.size, 4, none⟩) (Nat.le_refl _) _) (by omega) _ _ _ _ _

def am0 : Am := ⟨0, 0, false, [], []⟩
/-- What DrainIt tells. -/
def drainM (m : Am) : Am := if agentOkB m = true then { m with dr := true } else am0
def loadB (m : Am) (x : Int) : Bool := agentOkB m && (decide (0 ≤ x) && decide (x ≤ 16))
def loadM (m : Am) (x : Int) : Am := if loadB m x = true then { m with lim := x } else am0
theorem drainM_fit {m : Am} (h : m.c.length + m.t.length ≤ 1048576) : (drainM m).c.length + (drainM m).t.length ≤ 1048576 := by
  unfold drainM
  split
  · exact h
  · decide
theorem loadM_fit {m : Am} (x : Int) (h : m.c.length + m.t.length ≤ 1048576) : (loadM m x).c.length + (loadM m x).t.length ≤ 1048576 := by
  unfold loadM
  split
  · exact h
  · decide
theorem am0_in {lo hi : Nat} {w : World} (h : lo ≤ hi) : InA lo hi w (agt 0 0 false (.slice none 0 0) (.slice none 0 0)) am0 :=
  ⟨_, _, lo, rfl, ⟨World.ownsRow_nil _ _ _ _, fun b e => by cases e⟩, ⟨World.ownsRow_nil _ _ _ _, fun b e => by cases e⟩, Nat.le_refl _, h⟩
theorem agent_pos {m : Am} (h : agentOkB m = true) : 0 < m.c.length ∧ 0 < m.t.length := by
  have h := agentOkB_parts.1 h
  have h1 := (tableOkB_iff.1 h.2.2.2.2.1).1
  have h2 := (tableOkB_iff.1 h.2.2.2.2.2.1).1
  omega

set_option maxHeartbeats 4000000 in
theorem specDrainIt_sh (v : Value) (m : Am) (w : World) (hR : RdA w.heap.size w v m) (hf : m.c.length + m.t.length ≤ 1048576) :
    Calls Try.prog 36 #[v] w fun e w' => ∃ v', e = .returned (.tuple #[v', .bool (agentOkB m)]) ∧ InA w.heap.size w'.heap.size w' v' (drainM m) ∧ Below w.heap.size w w' := by
  have hR0 := hR
  obtain ⟨vc, vt, rfl, ⟨oc, cc, rfl, rc⟩, ⟨ot, ct, rfl, rt⟩⟩ := hR0
  clear rc rt
  obtain ⟨W0, hW0⟩ : ∃ W, ((w.alloc (.cells #[.int .i64 m.id, .int .i64 m.lim, .bool m.dr, .slice oc m.c.length cc, .slice ot m.t.length ct] 27)).alloc (.cells #[.int .i64 0, .int .i64 0, .bool false, .slice none 0 0, .slice none 0 0] 27)) = W := ⟨_, rfl⟩
  have hb_W0 : Below w.heap.size w W0 := by rw [← hW0]; exact (((Below.refl _ _).alloc (Nat.le_refl _) _).alloc (by simp <;> omega) _)
  have HB := hide hb_W0
  clear hb_W0
  have zz : w.heap.size < W0.heap.size := by rw [← hW0]; simp <;> omega
  have z0 : W0.cell? ⟨w.heap.size, 0, none⟩ = some (.int .i64 m.id) := by rw [← hW0]; simp [go_sem]
  have z1 : W0.cell? ⟨w.heap.size, 1, none⟩ = some (.int .i64 m.lim) := by rw [← hW0]; simp [go_sem]
  have z2 : W0.cell? ⟨w.heap.size, 2, none⟩ = some (.bool m.dr) := by rw [← hW0]; simp [go_sem]
  have z3 : W0.cell? ⟨w.heap.size, 3, none⟩ = some (.slice oc m.c.length cc) := by rw [← hW0]; simp [go_sem]
  have z4 : W0.cell? ⟨w.heap.size, 4, none⟩ = some (.slice ot m.t.length ct) := by rw [← hW0]; simp [go_sem]
  have zr : w.heap.size + 1 < W0.heap.size := by rw [← hW0]; simp
  have r0 : W0.cell? ⟨w.heap.size + 1, 0, none⟩ = some (.int .i64 0) := by rw [← hW0]; simp [go_sem]
  have r1 : W0.cell? ⟨w.heap.size + 1, 1, none⟩ = some (.int .i64 0) := by rw [← hW0]; simp [go_sem]
  have r2 : W0.cell? ⟨w.heap.size + 1, 2, none⟩ = some (.bool false) := by rw [← hW0]; simp [go_sem]
  have r3 : W0.cell? ⟨w.heap.size + 1, 3, none⟩ = some (.slice none 0 0) := by rw [← hW0]; simp [go_sem]
  have r4 : W0.cell? ⟨w.heap.size + 1, 4, none⟩ = some (.slice none 0 0) := by rw [← hW0]; simp [go_sem]
  have fr0 : W0.frozen? ⟨w.heap.size + 1, 0, none⟩ = false := by rw [← hW0]; simp [go_sem]
  have fr1 : W0.frozen? ⟨w.heap.size + 1, 1, none⟩ = false := by rw [← hW0]; simp [go_sem]
  have fr2 : W0.frozen? ⟨w.heap.size + 1, 2, none⟩ = false := by rw [← hW0]; simp [go_sem]
  have fr3 : W0.frozen? ⟨w.heap.size + 1, 3, none⟩ = false := by rw [← hW0]; simp [go_sem]
  have fr4 : W0.frozen? ⟨w.heap.size + 1, 4, none⟩ = false := by rw [← hW0]; simp [go_sem]
  have hz0 := zr
  have HOK := hide (specAgentOk_sh _ m W0 ((hR.kept HB.out (Nat.le_refl _)).le HB.out.size) hf)
  cases hT : agentOkB m with
  | false =>
    have HM := hide (show drainM m = am0 by unfold drainM; rw [hT]; rfl)
    have HG := hide hT
    rw [hT] at HOK
    go_enter Try.func36, Try.ntmps36
    clear hT
    go_wp2_with fail
    refine (HOK.out).mono ?_
    rintro e v1 ⟨rfl, hb⟩
    replace z0 : v1.cell? ⟨w.heap.size, 0, none⟩ = some (.int .i64 m.id) := (hb.cell (p := ⟨w.heap.size, 0, none⟩) zz).trans z0
    replace z1 : v1.cell? ⟨w.heap.size, 1, none⟩ = some (.int .i64 m.lim) := (hb.cell (p := ⟨w.heap.size, 1, none⟩) zz).trans z1
    replace z2 : v1.cell? ⟨w.heap.size, 2, none⟩ = some (.bool m.dr) := (hb.cell (p := ⟨w.heap.size, 2, none⟩) zz).trans z2
    replace z3 : v1.cell? ⟨w.heap.size, 3, none⟩ = some (.slice oc m.c.length cc) := (hb.cell (p := ⟨w.heap.size, 3, none⟩) zz).trans z3
    replace z4 : v1.cell? ⟨w.heap.size, 4, none⟩ = some (.slice ot m.t.length ct) := (hb.cell (p := ⟨w.heap.size, 4, none⟩) zz).trans z4
    replace zz : w.heap.size < v1.heap.size := Nat.lt_of_lt_of_le zz hb.size
    replace r0 : v1.cell? ⟨w.heap.size + 1, 0, none⟩ = some (.int .i64 0) := (hb.cell (p := ⟨w.heap.size + 1, 0, none⟩) zr).trans r0
    replace r1 : v1.cell? ⟨w.heap.size + 1, 1, none⟩ = some (.int .i64 0) := (hb.cell (p := ⟨w.heap.size + 1, 1, none⟩) zr).trans r1
    replace r2 : v1.cell? ⟨w.heap.size + 1, 2, none⟩ = some (.bool false) := (hb.cell (p := ⟨w.heap.size + 1, 2, none⟩) zr).trans r2
    replace r3 : v1.cell? ⟨w.heap.size + 1, 3, none⟩ = some (.slice none 0 0) := (hb.cell (p := ⟨w.heap.size + 1, 3, none⟩) zr).trans r3
    replace r4 : v1.cell? ⟨w.heap.size + 1, 4, none⟩ = some (.slice none 0 0) := (hb.cell (p := ⟨w.heap.size + 1, 4, none⟩) zr).trans r4
    replace fr0 : v1.frozen? ⟨w.heap.size + 1, 0, none⟩ = false := (hb.frozen (p := ⟨w.heap.size + 1, 0, none⟩) zr).trans fr0
    replace fr1 : v1.frozen? ⟨w.heap.size + 1, 1, none⟩ = false := (hb.frozen (p := ⟨w.heap.size + 1, 1, none⟩) zr).trans fr1
    replace fr2 : v1.frozen? ⟨w.heap.size + 1, 2, none⟩ = false := (hb.frozen (p := ⟨w.heap.size + 1, 2, none⟩) zr).trans fr2
    replace fr3 : v1.frozen? ⟨w.heap.size + 1, 3, none⟩ = false := (hb.frozen (p := ⟨w.heap.size + 1, 3, none⟩) zr).trans fr3
    replace fr4 : v1.frozen? ⟨w.heap.size + 1, 4, none⟩ = false := (hb.frozen (p := ⟨w.heap.size + 1, 4, none⟩) zr).trans fr4
    replace zr : w.heap.size + 1 < v1.heap.size := Nat.lt_of_lt_of_le zr hb.size
    replace HB := hide (HB.out.trans (hb.mono HB.out.size))
    clear hb
    go_wp2
    refine bodyPost_ret (v := .tuple #[agt 0 0 false (.slice none 0 0) (.slice none 0 0), .bool false]) (by simp [results, Try.results36, go_sem, r0, r1, r2, r3, r4]) rfl ⟨_, rfl, ?_, below_set5v HB.out (by omega) _ _ _ _ _⟩
    rw [HM.out]
    exact am0_in (by simp; omega)
  | true =>
    have HM := hide (show drainM m = { m with dr := true } by unfold drainM; rw [hT]; rfl)
    obtain ⟨hp1, hp2⟩ := agent_pos hT
    rw [hT] at HOK
    clear hT
    go_enter Try.func36, Try.ntmps36
    go_wp2_with fail
    refine (HOK.out).mono ?_
    rintro e v1 ⟨rfl, hb⟩
    have hs0 := hb.size
    replace z0 : v1.cell? ⟨w.heap.size, 0, none⟩ = some (.int .i64 m.id) := (hb.cell (p := ⟨w.heap.size, 0, none⟩) zz).trans z0
    replace z1 : v1.cell? ⟨w.heap.size, 1, none⟩ = some (.int .i64 m.lim) := (hb.cell (p := ⟨w.heap.size, 1, none⟩) zz).trans z1
    replace z2 : v1.cell? ⟨w.heap.size, 2, none⟩ = some (.bool m.dr) := (hb.cell (p := ⟨w.heap.size, 2, none⟩) zz).trans z2
    replace z3 : v1.cell? ⟨w.heap.size, 3, none⟩ = some (.slice oc m.c.length cc) := (hb.cell (p := ⟨w.heap.size, 3, none⟩) zz).trans z3
    replace z4 : v1.cell? ⟨w.heap.size, 4, none⟩ = some (.slice ot m.t.length ct) := (hb.cell (p := ⟨w.heap.size, 4, none⟩) zz).trans z4
    replace zz : w.heap.size < v1.heap.size := Nat.lt_of_lt_of_le zz hb.size
    replace r0 : v1.cell? ⟨w.heap.size + 1, 0, none⟩ = some (.int .i64 0) := (hb.cell (p := ⟨w.heap.size + 1, 0, none⟩) zr).trans r0
    replace r1 : v1.cell? ⟨w.heap.size + 1, 1, none⟩ = some (.int .i64 0) := (hb.cell (p := ⟨w.heap.size + 1, 1, none⟩) zr).trans r1
    replace r2 : v1.cell? ⟨w.heap.size + 1, 2, none⟩ = some (.bool false) := (hb.cell (p := ⟨w.heap.size + 1, 2, none⟩) zr).trans r2
    replace r3 : v1.cell? ⟨w.heap.size + 1, 3, none⟩ = some (.slice none 0 0) := (hb.cell (p := ⟨w.heap.size + 1, 3, none⟩) zr).trans r3
    replace r4 : v1.cell? ⟨w.heap.size + 1, 4, none⟩ = some (.slice none 0 0) := (hb.cell (p := ⟨w.heap.size + 1, 4, none⟩) zr).trans r4
    replace fr0 : v1.frozen? ⟨w.heap.size + 1, 0, none⟩ = false := (hb.frozen (p := ⟨w.heap.size + 1, 0, none⟩) zr).trans fr0
    replace fr1 : v1.frozen? ⟨w.heap.size + 1, 1, none⟩ = false := (hb.frozen (p := ⟨w.heap.size + 1, 1, none⟩) zr).trans fr1
    replace fr2 : v1.frozen? ⟨w.heap.size + 1, 2, none⟩ = false := (hb.frozen (p := ⟨w.heap.size + 1, 2, none⟩) zr).trans fr2
    replace fr3 : v1.frozen? ⟨w.heap.size + 1, 3, none⟩ = false := (hb.frozen (p := ⟨w.heap.size + 1, 3, none⟩) zr).trans fr3
    replace fr4 : v1.frozen? ⟨w.heap.size + 1, 4, none⟩ = false := (hb.frozen (p := ⟨w.heap.size + 1, 4, none⟩) zr).trans fr4
    replace zr : w.heap.size + 1 < v1.heap.size := Nat.lt_of_lt_of_le zr hb.size
    replace HB := hide (HB.out.trans (hb.mono HB.out.size))
    clear hb
    go_wp2_with fail
    refine (l6own_any _ m v1 ((hR.kept HB.out (Nat.le_refl _)).le HB.out.size) hp1 hp2 hf).mono ?_
    rintro e v2 ⟨x1, rfl, hin, hb⟩
    obtain ⟨y1, y2, rfl, ⟨p1, c1, rfl, _⟩, ⟨p2, c2, rfl, _⟩⟩ := hin.rd
    have HI := hide hin
    have hs1 := hb.size
    clear hin
    replace z0 : v2.cell? ⟨w.heap.size, 0, none⟩ = some (.int .i64 m.id) := (hb.cell (p := ⟨w.heap.size, 0, none⟩) zz).trans z0
    replace z1 : v2.cell? ⟨w.heap.size, 1, none⟩ = some (.int .i64 m.lim) := (hb.cell (p := ⟨w.heap.size, 1, none⟩) zz).trans z1
    replace z2 : v2.cell? ⟨w.heap.size, 2, none⟩ = some (.bool m.dr) := (hb.cell (p := ⟨w.heap.size, 2, none⟩) zz).trans z2
    replace z3 : v2.cell? ⟨w.heap.size, 3, none⟩ = some (.slice oc m.c.length cc) := (hb.cell (p := ⟨w.heap.size, 3, none⟩) zz).trans z3
    replace z4 : v2.cell? ⟨w.heap.size, 4, none⟩ = some (.slice ot m.t.length ct) := (hb.cell (p := ⟨w.heap.size, 4, none⟩) zz).trans z4
    replace zz : w.heap.size < v2.heap.size := Nat.lt_of_lt_of_le zz hb.size
    replace r0 : v2.cell? ⟨w.heap.size + 1, 0, none⟩ = some (.int .i64 0) := (hb.cell (p := ⟨w.heap.size + 1, 0, none⟩) zr).trans r0
    replace r1 : v2.cell? ⟨w.heap.size + 1, 1, none⟩ = some (.int .i64 0) := (hb.cell (p := ⟨w.heap.size + 1, 1, none⟩) zr).trans r1
    replace r2 : v2.cell? ⟨w.heap.size + 1, 2, none⟩ = some (.bool false) := (hb.cell (p := ⟨w.heap.size + 1, 2, none⟩) zr).trans r2
    replace r3 : v2.cell? ⟨w.heap.size + 1, 3, none⟩ = some (.slice none 0 0) := (hb.cell (p := ⟨w.heap.size + 1, 3, none⟩) zr).trans r3
    replace r4 : v2.cell? ⟨w.heap.size + 1, 4, none⟩ = some (.slice none 0 0) := (hb.cell (p := ⟨w.heap.size + 1, 4, none⟩) zr).trans r4
    replace fr0 : v2.frozen? ⟨w.heap.size + 1, 0, none⟩ = false := (hb.frozen (p := ⟨w.heap.size + 1, 0, none⟩) zr).trans fr0
    replace fr1 : v2.frozen? ⟨w.heap.size + 1, 1, none⟩ = false := (hb.frozen (p := ⟨w.heap.size + 1, 1, none⟩) zr).trans fr1
    replace fr2 : v2.frozen? ⟨w.heap.size + 1, 2, none⟩ = false := (hb.frozen (p := ⟨w.heap.size + 1, 2, none⟩) zr).trans fr2
    replace fr3 : v2.frozen? ⟨w.heap.size + 1, 3, none⟩ = false := (hb.frozen (p := ⟨w.heap.size + 1, 3, none⟩) zr).trans fr3
    replace fr4 : v2.frozen? ⟨w.heap.size + 1, 4, none⟩ = false := (hb.frozen (p := ⟨w.heap.size + 1, 4, none⟩) zr).trans fr4
    replace zr : w.heap.size + 1 < v2.heap.size := Nat.lt_of_lt_of_le zr hb.size
    replace HB := hide (HB.out.trans (hb.mono HB.out.size))
    clear hb
    obtain ⟨W3, hW3⟩ : ∃ W, (v2.alloc (.cells #[.int .i64 m.id, .int .i64 m.lim, .bool m.dr, .slice p1 m.c.length c1, .slice p2 m.t.length c2] 27)) = W := ⟨_, rfl⟩
    have hb_W3 : Below v2.heap.size v2 W3 := by rw [← hW3]; exact ((Below.refl _ _).alloc (Nat.le_refl _) _)
    replace z0 : W3.cell? ⟨w.heap.size, 0, none⟩ = some (.int .i64 m.id) := (hb_W3.cell (p := ⟨w.heap.size, 0, none⟩) zz).trans z0
    replace z1 : W3.cell? ⟨w.heap.size, 1, none⟩ = some (.int .i64 m.lim) := (hb_W3.cell (p := ⟨w.heap.size, 1, none⟩) zz).trans z1
    replace z2 : W3.cell? ⟨w.heap.size, 2, none⟩ = some (.bool m.dr) := (hb_W3.cell (p := ⟨w.heap.size, 2, none⟩) zz).trans z2
    replace z3 : W3.cell? ⟨w.heap.size, 3, none⟩ = some (.slice oc m.c.length cc) := (hb_W3.cell (p := ⟨w.heap.size, 3, none⟩) zz).trans z3
    replace z4 : W3.cell? ⟨w.heap.size, 4, none⟩ = some (.slice ot m.t.length ct) := (hb_W3.cell (p := ⟨w.heap.size, 4, none⟩) zz).trans z4
    replace zz : w.heap.size < W3.heap.size := Nat.lt_of_lt_of_le zz hb_W3.size
    replace r0 : W3.cell? ⟨w.heap.size + 1, 0, none⟩ = some (.int .i64 0) := (hb_W3.cell (p := ⟨w.heap.size + 1, 0, none⟩) zr).trans r0
    replace r1 : W3.cell? ⟨w.heap.size + 1, 1, none⟩ = some (.int .i64 0) := (hb_W3.cell (p := ⟨w.heap.size + 1, 1, none⟩) zr).trans r1
    replace r2 : W3.cell? ⟨w.heap.size + 1, 2, none⟩ = some (.bool false) := (hb_W3.cell (p := ⟨w.heap.size + 1, 2, none⟩) zr).trans r2
    replace r3 : W3.cell? ⟨w.heap.size + 1, 3, none⟩ = some (.slice none 0 0) := (hb_W3.cell (p := ⟨w.heap.size + 1, 3, none⟩) zr).trans r3
    replace r4 : W3.cell? ⟨w.heap.size + 1, 4, none⟩ = some (.slice none 0 0) := (hb_W3.cell (p := ⟨w.heap.size + 1, 4, none⟩) zr).trans r4
    replace fr0 : W3.frozen? ⟨w.heap.size + 1, 0, none⟩ = false := (hb_W3.frozen (p := ⟨w.heap.size + 1, 0, none⟩) zr).trans fr0
    replace fr1 : W3.frozen? ⟨w.heap.size + 1, 1, none⟩ = false := (hb_W3.frozen (p := ⟨w.heap.size + 1, 1, none⟩) zr).trans fr1
    replace fr2 : W3.frozen? ⟨w.heap.size + 1, 2, none⟩ = false := (hb_W3.frozen (p := ⟨w.heap.size + 1, 2, none⟩) zr).trans fr2
    replace fr3 : W3.frozen? ⟨w.heap.size + 1, 3, none⟩ = false := (hb_W3.frozen (p := ⟨w.heap.size + 1, 3, none⟩) zr).trans fr3
    replace fr4 : W3.frozen? ⟨w.heap.size + 1, 4, none⟩ = false := (hb_W3.frozen (p := ⟨w.heap.size + 1, 4, none⟩) zr).trans fr4
    replace zr : w.heap.size + 1 < W3.heap.size := Nat.lt_of_lt_of_le zr hb_W3.size
    replace HB := hide (HB.out.trans (hb_W3.mono HB.out.size))
    clear hb_W3
    have zo : v2.heap.size < W3.heap.size := by rw [← hW3]; simp
    have o0 : W3.cell? ⟨v2.heap.size, 0, none⟩ = some (.int .i64 m.id) := by rw [← hW3]; simp [go_sem]
    have o1 : W3.cell? ⟨v2.heap.size, 1, none⟩ = some (.int .i64 m.lim) := by rw [← hW3]; simp [go_sem]
    have o2 : W3.cell? ⟨v2.heap.size, 2, none⟩ = some (.bool m.dr) := by rw [← hW3]; simp [go_sem]
    have o3 : W3.cell? ⟨v2.heap.size, 3, none⟩ = some (.slice p1 m.c.length c1) := by rw [← hW3]; simp [go_sem]
    have o4 : W3.cell? ⟨v2.heap.size, 4, none⟩ = some (.slice p2 m.t.length c2) := by rw [← hW3]; simp [go_sem]
    have fo0 : W3.frozen? ⟨v2.heap.size, 0, none⟩ = false := by rw [← hW3]; simp [go_sem]
    have fo1 : W3.frozen? ⟨v2.heap.size, 1, none⟩ = false := by rw [← hW3]; simp [go_sem]
    have fo2 : W3.frozen? ⟨v2.heap.size, 2, none⟩ = false := by rw [← hW3]; simp [go_sem]
    have fo3 : W3.frozen? ⟨v2.heap.size, 3, none⟩ = false := by rw [← hW3]; simp [go_sem]
    have fo4 : W3.frozen? ⟨v2.heap.size, 4, none⟩ = false := by rw [← hW3]; simp [go_sem]
    replace HI := hide (HI.out.step (Stp.of (lo := 0) (hi := 0) (show Below v2.heap.size v2 W3 by rw [← hW3]; exact (Below.refl _ _).alloc (Nat.le_refl _) _)) (.inl (Nat.zero_le _)))
    have hs3 : v2.heap.size ≤ W3.heap.size := by omega
    have hne1 : v2.heap.size ≠ w.heap.size + 1 := by omega
    have hne2 : w.heap.size + 1 ≠ v2.heap.size := by omega
    go_wp2
    refine bodyPost_ret (v := .tuple #[agt m.id m.lim true (.slice p1 m.c.length c1) (.slice p2 m.t.length c2), .bool true]) (by simp [results, Try.results36, go_sem, r0, r1, r2, r3, r4, hne1, hne2]) rfl ⟨_, rfl, ?_, ?_⟩
    · rw [HM.out]
      obtain ⟨_, _, mid, e, i1, i2, g1, g2⟩ := (HI.out.step (stp_set1 W3 v2.heap.size 2 (.bool true)) (.inr (Nat.le_refl _))).step (stp_set5v _ (w.heap.size + 1) (.int .i64 m.id) (.int .i64 m.lim) (.bool true) (.slice p1 m.c.length c1) (.slice p2 m.t.length c2)) (.inl (by omega))
      injection e with e
      simp at e
      obtain ⟨rfl, rfl⟩ := e
      exact ⟨_, _, mid, rfl, InRow.mono i1 (by omega) (Nat.le_refl _), InRow.mono i2 (Nat.le_refl _) (by simp; omega), by omega, by simp; omega⟩
    · exact below_set5v (HB.out.setCell (p := ⟨v2.heap.size, 2, none⟩) (show w.heap.size ≤ v2.heap.size by omega) _) (by omega) _ _ _ _ _

set_option maxHeartbeats 4000000 in
theorem implDrainIt_sh (v : Value) (m : Am) (w : World) (hR : RdA w.heap.size w v m) (hf : m.c.length + m.t.length ≤ 1048576) :
    Calls Try.prog 23 #[v] w fun e w' => ∃ v', e = .returned (.tuple #[v', .bool (agentOkB m)]) ∧ InA w.heap.size w'.heap.size w' v' (drainM m) ∧ Below w.heap.size w w' := by
  have hR0 := hR
  obtain ⟨vc, vt, rfl, ⟨oc, cc, rfl, rc⟩, ⟨ot, ct, rfl, rt⟩⟩ := hR0
  clear rc rt
  obtain ⟨W0, hW0⟩ : ∃ W, ((w.alloc (.cells #[.int .i64 m.id, .int .i64 m.lim, .bool m.dr, .slice oc m.c.length cc, .slice ot m.t.length ct] 27)).alloc (.cells #[.int .i64 0, .int .i64 0, .bool false, .slice none 0 0, .slice none 0 0] 27)) = W := ⟨_, rfl⟩
  have hb_W0 : Below w.heap.size w W0 := by rw [← hW0]; exact (((Below.refl _ _).alloc (Nat.le_refl _) _).alloc (by simp <;> omega) _)
  have HB := hide hb_W0
  clear hb_W0
  have zz : w.heap.size < W0.heap.size := by rw [← hW0]; simp <;> omega
  have z0 : W0.cell? ⟨w.heap.size, 0, none⟩ = some (.int .i64 m.id) := by rw [← hW0]; simp [go_sem]
  have z1 : W0.cell? ⟨w.heap.size, 1, none⟩ = some (.int .i64 m.lim) := by rw [← hW0]; simp [go_sem]
  have z2 : W0.cell? ⟨w.heap.size, 2, none⟩ = some (.bool m.dr) := by rw [← hW0]; simp [go_sem]
  have z3 : W0.cell? ⟨w.heap.size, 3, none⟩ = some (.slice oc m.c.length cc) := by rw [← hW0]; simp [go_sem]
  have z4 : W0.cell? ⟨w.heap.size, 4, none⟩ = some (.slice ot m.t.length ct) := by rw [← hW0]; simp [go_sem]
  have zr : w.heap.size + 1 < W0.heap.size := by rw [← hW0]; simp
  have r0 : W0.cell? ⟨w.heap.size + 1, 0, none⟩ = some (.int .i64 0) := by rw [← hW0]; simp [go_sem]
  have r1 : W0.cell? ⟨w.heap.size + 1, 1, none⟩ = some (.int .i64 0) := by rw [← hW0]; simp [go_sem]
  have r2 : W0.cell? ⟨w.heap.size + 1, 2, none⟩ = some (.bool false) := by rw [← hW0]; simp [go_sem]
  have r3 : W0.cell? ⟨w.heap.size + 1, 3, none⟩ = some (.slice none 0 0) := by rw [← hW0]; simp [go_sem]
  have r4 : W0.cell? ⟨w.heap.size + 1, 4, none⟩ = some (.slice none 0 0) := by rw [← hW0]; simp [go_sem]
  have fr0 : W0.frozen? ⟨w.heap.size + 1, 0, none⟩ = false := by rw [← hW0]; simp [go_sem]
  have fr1 : W0.frozen? ⟨w.heap.size + 1, 1, none⟩ = false := by rw [← hW0]; simp [go_sem]
  have fr2 : W0.frozen? ⟨w.heap.size + 1, 2, none⟩ = false := by rw [← hW0]; simp [go_sem]
  have fr3 : W0.frozen? ⟨w.heap.size + 1, 3, none⟩ = false := by rw [← hW0]; simp [go_sem]
  have fr4 : W0.frozen? ⟨w.heap.size + 1, 4, none⟩ = false := by rw [← hW0]; simp [go_sem]
  have hz0 := zr
  have HOK := hide (agentFrom_any _ m W0 ((hR.kept HB.out (Nat.le_refl _)).le HB.out.size) hf)
  cases hT : agentOkB m with
  | false =>
    have HM := hide (show drainM m = am0 by unfold drainM; rw [hT]; rfl)
    rw [hT] at HOK
    clear hT
    go_enter Try.func23, Try.ntmps23
    go_wp2_with fail
    refine (HOK.out).mono ?_
    rintro e v1 ⟨o1, n1, k1, o2, n2, k2, i, l, d, rfl, hv, hb⟩
    clear hv
    replace z0 : v1.cell? ⟨w.heap.size, 0, none⟩ = some (.int .i64 m.id) := (hb.cell (p := ⟨w.heap.size, 0, none⟩) zz).trans z0
    replace z1 : v1.cell? ⟨w.heap.size, 1, none⟩ = some (.int .i64 m.lim) := (hb.cell (p := ⟨w.heap.size, 1, none⟩) zz).trans z1
    replace z2 : v1.cell? ⟨w.heap.size, 2, none⟩ = some (.bool m.dr) := (hb.cell (p := ⟨w.heap.size, 2, none⟩) zz).trans z2
    replace z3 : v1.cell? ⟨w.heap.size, 3, none⟩ = some (.slice oc m.c.length cc) := (hb.cell (p := ⟨w.heap.size, 3, none⟩) zz).trans z3
    replace z4 : v1.cell? ⟨w.heap.size, 4, none⟩ = some (.slice ot m.t.length ct) := (hb.cell (p := ⟨w.heap.size, 4, none⟩) zz).trans z4
    replace zz : w.heap.size < v1.heap.size := Nat.lt_of_lt_of_le zz hb.size
    replace r0 : v1.cell? ⟨w.heap.size + 1, 0, none⟩ = some (.int .i64 0) := (hb.cell (p := ⟨w.heap.size + 1, 0, none⟩) zr).trans r0
    replace r1 : v1.cell? ⟨w.heap.size + 1, 1, none⟩ = some (.int .i64 0) := (hb.cell (p := ⟨w.heap.size + 1, 1, none⟩) zr).trans r1
    replace r2 : v1.cell? ⟨w.heap.size + 1, 2, none⟩ = some (.bool false) := (hb.cell (p := ⟨w.heap.size + 1, 2, none⟩) zr).trans r2
    replace r3 : v1.cell? ⟨w.heap.size + 1, 3, none⟩ = some (.slice none 0 0) := (hb.cell (p := ⟨w.heap.size + 1, 3, none⟩) zr).trans r3
    replace r4 : v1.cell? ⟨w.heap.size + 1, 4, none⟩ = some (.slice none 0 0) := (hb.cell (p := ⟨w.heap.size + 1, 4, none⟩) zr).trans r4
    replace fr0 : v1.frozen? ⟨w.heap.size + 1, 0, none⟩ = false := (hb.frozen (p := ⟨w.heap.size + 1, 0, none⟩) zr).trans fr0
    replace fr1 : v1.frozen? ⟨w.heap.size + 1, 1, none⟩ = false := (hb.frozen (p := ⟨w.heap.size + 1, 1, none⟩) zr).trans fr1
    replace fr2 : v1.frozen? ⟨w.heap.size + 1, 2, none⟩ = false := (hb.frozen (p := ⟨w.heap.size + 1, 2, none⟩) zr).trans fr2
    replace fr3 : v1.frozen? ⟨w.heap.size + 1, 3, none⟩ = false := (hb.frozen (p := ⟨w.heap.size + 1, 3, none⟩) zr).trans fr3
    replace fr4 : v1.frozen? ⟨w.heap.size + 1, 4, none⟩ = false := (hb.frozen (p := ⟨w.heap.size + 1, 4, none⟩) zr).trans fr4
    replace zr : w.heap.size + 1 < v1.heap.size := Nat.lt_of_lt_of_le zr hb.size
    replace HB := hide (HB.out.trans (hb.mono HB.out.size))
    clear hb
    obtain ⟨W2, hW2⟩ : ∃ W, (v1.alloc (.cells #[.slice o1 n1 k1, .slice o2 n2 k2, .int .i64 i, .int .i64 l, .bool d] 83)) = W := ⟨_, rfl⟩
    have hb_W2 : Below v1.heap.size v1 W2 := by rw [← hW2]; exact ((Below.refl _ _).alloc (Nat.le_refl _) _)
    replace z0 : W2.cell? ⟨w.heap.size, 0, none⟩ = some (.int .i64 m.id) := (hb_W2.cell (p := ⟨w.heap.size, 0, none⟩) zz).trans z0
    replace z1 : W2.cell? ⟨w.heap.size, 1, none⟩ = some (.int .i64 m.lim) := (hb_W2.cell (p := ⟨w.heap.size, 1, none⟩) zz).trans z1
    replace z2 : W2.cell? ⟨w.heap.size, 2, none⟩ = some (.bool m.dr) := (hb_W2.cell (p := ⟨w.heap.size, 2, none⟩) zz).trans z2
    replace z3 : W2.cell? ⟨w.heap.size, 3, none⟩ = some (.slice oc m.c.length cc) := (hb_W2.cell (p := ⟨w.heap.size, 3, none⟩) zz).trans z3
    replace z4 : W2.cell? ⟨w.heap.size, 4, none⟩ = some (.slice ot m.t.length ct) := (hb_W2.cell (p := ⟨w.heap.size, 4, none⟩) zz).trans z4
    replace zz : w.heap.size < W2.heap.size := Nat.lt_of_lt_of_le zz hb_W2.size
    replace r0 : W2.cell? ⟨w.heap.size + 1, 0, none⟩ = some (.int .i64 0) := (hb_W2.cell (p := ⟨w.heap.size + 1, 0, none⟩) zr).trans r0
    replace r1 : W2.cell? ⟨w.heap.size + 1, 1, none⟩ = some (.int .i64 0) := (hb_W2.cell (p := ⟨w.heap.size + 1, 1, none⟩) zr).trans r1
    replace r2 : W2.cell? ⟨w.heap.size + 1, 2, none⟩ = some (.bool false) := (hb_W2.cell (p := ⟨w.heap.size + 1, 2, none⟩) zr).trans r2
    replace r3 : W2.cell? ⟨w.heap.size + 1, 3, none⟩ = some (.slice none 0 0) := (hb_W2.cell (p := ⟨w.heap.size + 1, 3, none⟩) zr).trans r3
    replace r4 : W2.cell? ⟨w.heap.size + 1, 4, none⟩ = some (.slice none 0 0) := (hb_W2.cell (p := ⟨w.heap.size + 1, 4, none⟩) zr).trans r4
    replace fr0 : W2.frozen? ⟨w.heap.size + 1, 0, none⟩ = false := (hb_W2.frozen (p := ⟨w.heap.size + 1, 0, none⟩) zr).trans fr0
    replace fr1 : W2.frozen? ⟨w.heap.size + 1, 1, none⟩ = false := (hb_W2.frozen (p := ⟨w.heap.size + 1, 1, none⟩) zr).trans fr1
    replace fr2 : W2.frozen? ⟨w.heap.size + 1, 2, none⟩ = false := (hb_W2.frozen (p := ⟨w.heap.size + 1, 2, none⟩) zr).trans fr2
    replace fr3 : W2.frozen? ⟨w.heap.size + 1, 3, none⟩ = false := (hb_W2.frozen (p := ⟨w.heap.size + 1, 3, none⟩) zr).trans fr3
    replace fr4 : W2.frozen? ⟨w.heap.size + 1, 4, none⟩ = false := (hb_W2.frozen (p := ⟨w.heap.size + 1, 4, none⟩) zr).trans fr4
    replace zr : w.heap.size + 1 < W2.heap.size := Nat.lt_of_lt_of_le zr hb_W2.size
    replace HB := hide (HB.out.trans (hb_W2.mono HB.out.size))
    clear hb_W2
    have zo : v1.heap.size < W2.heap.size := by rw [← hW2]; simp
    have o0 : W2.cell? ⟨v1.heap.size, 0, none⟩ = some (.slice o1 n1 k1) := by rw [← hW2]; simp [go_sem]
    have o1 : W2.cell? ⟨v1.heap.size, 1, none⟩ = some (.slice o2 n2 k2) := by rw [← hW2]; simp [go_sem]
    have o2 : W2.cell? ⟨v1.heap.size, 2, none⟩ = some (.int .i64 i) := by rw [← hW2]; simp [go_sem]
    have o3 : W2.cell? ⟨v1.heap.size, 3, none⟩ = some (.int .i64 l) := by rw [← hW2]; simp [go_sem]
    have o4 : W2.cell? ⟨v1.heap.size, 4, none⟩ = some (.bool d) := by rw [← hW2]; simp [go_sem]
    go_wp2
    refine bodyPost_ret (v := .tuple #[agt 0 0 false (.slice none 0 0) (.slice none 0 0), .bool false]) (by simp [results, Try.results23, go_sem, r0, r1, r2, r3, r4]) rfl ⟨_, rfl, ?_, below_set5v HB.out (by omega) _ _ _ _ _⟩
    rw [HM.out]
    exact am0_in (by simp; omega)
  | true =>
    have HM := hide (show drainM m = { m with dr := true } by unfold drainM; rw [hT]; rfl)
    rw [hT] at HOK
    clear hT
    go_enter Try.func23, Try.ntmps23
    go_wp2_with fail
    refine (HOK.out).mono ?_
    rintro e v1 ⟨o1, n1, k1, o2, n2, k2, i, l, d, rfl, hv, hb⟩
    have hO := hv (by simp)
    obtain ⟨g, h, mid, e, i1, i2, g1, g2⟩ := hO
    injection e with e
    simp at e
    obtain ⟨⟨rfl, rfl, rfl⟩, ⟨rfl, rfl, rfl⟩, rfl, rfl, rfl⟩ := e
    have HI : Hid (OwnG W0.heap.size v1.heap.size v1 (agi (.slice (some ⟨g, 0, none⟩) m.c.length m.c.length) (.slice (some ⟨h, 0, none⟩) m.t.length m.t.length) m.id m.lim m.dr) m) := ⟨g, h, mid, rfl, i1, i2, g1, g2⟩
    have hs1 := hb.size
    clear hv i1 i2 g1 g2
    replace z0 : v1.cell? ⟨w.heap.size, 0, none⟩ = some (.int .i64 m.id) := (hb.cell (p := ⟨w.heap.size, 0, none⟩) zz).trans z0
    replace z1 : v1.cell? ⟨w.heap.size, 1, none⟩ = some (.int .i64 m.lim) := (hb.cell (p := ⟨w.heap.size, 1, none⟩) zz).trans z1
    replace z2 : v1.cell? ⟨w.heap.size, 2, none⟩ = some (.bool m.dr) := (hb.cell (p := ⟨w.heap.size, 2, none⟩) zz).trans z2
    replace z3 : v1.cell? ⟨w.heap.size, 3, none⟩ = some (.slice oc m.c.length cc) := (hb.cell (p := ⟨w.heap.size, 3, none⟩) zz).trans z3
    replace z4 : v1.cell? ⟨w.heap.size, 4, none⟩ = some (.slice ot m.t.length ct) := (hb.cell (p := ⟨w.heap.size, 4, none⟩) zz).trans z4
    replace zz : w.heap.size < v1.heap.size := Nat.lt_of_lt_of_le zz hb.size
    replace r0 : v1.cell? ⟨w.heap.size + 1, 0, none⟩ = some (.int .i64 0) := (hb.cell (p := ⟨w.heap.size + 1, 0, none⟩) zr).trans r0
    replace r1 : v1.cell? ⟨w.heap.size + 1, 1, none⟩ = some (.int .i64 0) := (hb.cell (p := ⟨w.heap.size + 1, 1, none⟩) zr).trans r1
    replace r2 : v1.cell? ⟨w.heap.size + 1, 2, none⟩ = some (.bool false) := (hb.cell (p := ⟨w.heap.size + 1, 2, none⟩) zr).trans r2
    replace r3 : v1.cell? ⟨w.heap.size + 1, 3, none⟩ = some (.slice none 0 0) := (hb.cell (p := ⟨w.heap.size + 1, 3, none⟩) zr).trans r3
    replace r4 : v1.cell? ⟨w.heap.size + 1, 4, none⟩ = some (.slice none 0 0) := (hb.cell (p := ⟨w.heap.size + 1, 4, none⟩) zr).trans r4
    replace fr0 : v1.frozen? ⟨w.heap.size + 1, 0, none⟩ = false := (hb.frozen (p := ⟨w.heap.size + 1, 0, none⟩) zr).trans fr0
    replace fr1 : v1.frozen? ⟨w.heap.size + 1, 1, none⟩ = false := (hb.frozen (p := ⟨w.heap.size + 1, 1, none⟩) zr).trans fr1
    replace fr2 : v1.frozen? ⟨w.heap.size + 1, 2, none⟩ = false := (hb.frozen (p := ⟨w.heap.size + 1, 2, none⟩) zr).trans fr2
    replace fr3 : v1.frozen? ⟨w.heap.size + 1, 3, none⟩ = false := (hb.frozen (p := ⟨w.heap.size + 1, 3, none⟩) zr).trans fr3
    replace fr4 : v1.frozen? ⟨w.heap.size + 1, 4, none⟩ = false := (hb.frozen (p := ⟨w.heap.size + 1, 4, none⟩) zr).trans fr4
    replace zr : w.heap.size + 1 < v1.heap.size := Nat.lt_of_lt_of_le zr hb.size
    replace HB := hide (HB.out.trans (hb.mono HB.out.size))
    clear hb
    obtain ⟨W2, hW2⟩ : ∃ W, (v1.alloc (.cells #[.slice (some ⟨g, 0, none⟩) m.c.length m.c.length, .slice (some ⟨h, 0, none⟩) m.t.length m.t.length, .int .i64 m.id, .int .i64 m.lim, .bool m.dr] 83)) = W := ⟨_, rfl⟩
    have hb_W2 : Below v1.heap.size v1 W2 := by rw [← hW2]; exact ((Below.refl _ _).alloc (Nat.le_refl _) _)
    replace z0 : W2.cell? ⟨w.heap.size, 0, none⟩ = some (.int .i64 m.id) := (hb_W2.cell (p := ⟨w.heap.size, 0, none⟩) zz).trans z0
    replace z1 : W2.cell? ⟨w.heap.size, 1, none⟩ = some (.int .i64 m.lim) := (hb_W2.cell (p := ⟨w.heap.size, 1, none⟩) zz).trans z1
    replace z2 : W2.cell? ⟨w.heap.size, 2, none⟩ = some (.bool m.dr) := (hb_W2.cell (p := ⟨w.heap.size, 2, none⟩) zz).trans z2
    replace z3 : W2.cell? ⟨w.heap.size, 3, none⟩ = some (.slice oc m.c.length cc) := (hb_W2.cell (p := ⟨w.heap.size, 3, none⟩) zz).trans z3
    replace z4 : W2.cell? ⟨w.heap.size, 4, none⟩ = some (.slice ot m.t.length ct) := (hb_W2.cell (p := ⟨w.heap.size, 4, none⟩) zz).trans z4
    replace zz : w.heap.size < W2.heap.size := Nat.lt_of_lt_of_le zz hb_W2.size
    replace r0 : W2.cell? ⟨w.heap.size + 1, 0, none⟩ = some (.int .i64 0) := (hb_W2.cell (p := ⟨w.heap.size + 1, 0, none⟩) zr).trans r0
    replace r1 : W2.cell? ⟨w.heap.size + 1, 1, none⟩ = some (.int .i64 0) := (hb_W2.cell (p := ⟨w.heap.size + 1, 1, none⟩) zr).trans r1
    replace r2 : W2.cell? ⟨w.heap.size + 1, 2, none⟩ = some (.bool false) := (hb_W2.cell (p := ⟨w.heap.size + 1, 2, none⟩) zr).trans r2
    replace r3 : W2.cell? ⟨w.heap.size + 1, 3, none⟩ = some (.slice none 0 0) := (hb_W2.cell (p := ⟨w.heap.size + 1, 3, none⟩) zr).trans r3
    replace r4 : W2.cell? ⟨w.heap.size + 1, 4, none⟩ = some (.slice none 0 0) := (hb_W2.cell (p := ⟨w.heap.size + 1, 4, none⟩) zr).trans r4
    replace fr0 : W2.frozen? ⟨w.heap.size + 1, 0, none⟩ = false := (hb_W2.frozen (p := ⟨w.heap.size + 1, 0, none⟩) zr).trans fr0
    replace fr1 : W2.frozen? ⟨w.heap.size + 1, 1, none⟩ = false := (hb_W2.frozen (p := ⟨w.heap.size + 1, 1, none⟩) zr).trans fr1
    replace fr2 : W2.frozen? ⟨w.heap.size + 1, 2, none⟩ = false := (hb_W2.frozen (p := ⟨w.heap.size + 1, 2, none⟩) zr).trans fr2
    replace fr3 : W2.frozen? ⟨w.heap.size + 1, 3, none⟩ = false := (hb_W2.frozen (p := ⟨w.heap.size + 1, 3, none⟩) zr).trans fr3
    replace fr4 : W2.frozen? ⟨w.heap.size + 1, 4, none⟩ = false := (hb_W2.frozen (p := ⟨w.heap.size + 1, 4, none⟩) zr).trans fr4
    replace zr : w.heap.size + 1 < W2.heap.size := Nat.lt_of_lt_of_le zr hb_W2.size
    replace HB := hide (HB.out.trans (hb_W2.mono HB.out.size))
    clear hb_W2
    have zo : v1.heap.size < W2.heap.size := by rw [← hW2]; simp
    have o0 : W2.cell? ⟨v1.heap.size, 0, none⟩ = some (.slice (some ⟨g, 0, none⟩) m.c.length m.c.length) := by rw [← hW2]; simp [go_sem]
    have o1 : W2.cell? ⟨v1.heap.size, 1, none⟩ = some (.slice (some ⟨h, 0, none⟩) m.t.length m.t.length) := by rw [← hW2]; simp [go_sem]
    have o2 : W2.cell? ⟨v1.heap.size, 2, none⟩ = some (.int .i64 m.id) := by rw [← hW2]; simp [go_sem]
    have o3 : W2.cell? ⟨v1.heap.size, 3, none⟩ = some (.int .i64 m.lim) := by rw [← hW2]; simp [go_sem]
    have o4 : W2.cell? ⟨v1.heap.size, 4, none⟩ = some (.bool m.dr) := by rw [← hW2]; simp [go_sem]
    have fo0 : W2.frozen? ⟨v1.heap.size, 0, none⟩ = false := by rw [← hW2]; simp [go_sem]
    have fo1 : W2.frozen? ⟨v1.heap.size, 1, none⟩ = false := by rw [← hW2]; simp [go_sem]
    have fo2 : W2.frozen? ⟨v1.heap.size, 2, none⟩ = false := by rw [← hW2]; simp [go_sem]
    have fo3 : W2.frozen? ⟨v1.heap.size, 3, none⟩ = false := by rw [← hW2]; simp [go_sem]
    have fo4 : W2.frozen? ⟨v1.heap.size, 4, none⟩ = false := by rw [← hW2]; simp [go_sem]
    replace HI := hide (HI.out.step (Stp.of (lo := 0) (hi := 0) (show Below v1.heap.size v1 W2 by rw [← hW2]; exact (Below.refl _ _).alloc (Nat.le_refl _) _)) (.inl (Nat.zero_le _)))
    have hs2 : v1.heap.size ≤ W2.heap.size := by omega
    go_wp2_with fail
    obtain ⟨W3, hW3⟩ : ∃ W, (W2.setCell ⟨v1.heap.size, 4, none⟩ (.bool true)) = W := ⟨_, rfl⟩
    have hst : Stp (v1.heap.size) (v1.heap.size + 1) W2 W3 := by rw [← hW3]; exact stp_set1 W2 (v1.heap.size) 4 _
    rw [hW3]
    have o0' : W3.cell? ⟨v1.heap.size, 0, none⟩ = some (.slice (some ⟨g, 0, none⟩) m.c.length m.c.length) := by rw [← hW3]; simp [go_sem, o0, o1, o2, o3, o4]
    have fo0' : W3.frozen? ⟨v1.heap.size, 0, none⟩ = false := by rw [← hW3]; simp [go_sem, fo0, fo1, fo2, fo3, fo4]
    have o1' : W3.cell? ⟨v1.heap.size, 1, none⟩ = some (.slice (some ⟨h, 0, none⟩) m.t.length m.t.length) := by rw [← hW3]; simp [go_sem, o0, o1, o2, o3, o4]
    have fo1' : W3.frozen? ⟨v1.heap.size, 1, none⟩ = false := by rw [← hW3]; simp [go_sem, fo0, fo1, fo2, fo3, fo4]
    have o2' : W3.cell? ⟨v1.heap.size, 2, none⟩ = some (.int .i64 m.id) := by rw [← hW3]; simp [go_sem, o0, o1, o2, o3, o4]
    have fo2' : W3.frozen? ⟨v1.heap.size, 2, none⟩ = false := by rw [← hW3]; simp [go_sem, fo0, fo1, fo2, fo3, fo4]
    have o3' : W3.cell? ⟨v1.heap.size, 3, none⟩ = some (.int .i64 m.lim) := by rw [← hW3]; simp [go_sem, o0, o1, o2, o3, o4]
    have fo3' : W3.frozen? ⟨v1.heap.size, 3, none⟩ = false := by rw [← hW3]; simp [go_sem, fo0, fo1, fo2, fo3, fo4]
    have o4' : W3.cell? ⟨v1.heap.size, 4, none⟩ = some (.bool true) := by rw [← hW3]; simp [go_sem, o0, o1, o2, o3, o4]
    have fo4' : W3.frozen? ⟨v1.heap.size, 4, none⟩ = false := by rw [← hW3]; simp [go_sem, fo0, fo1, fo2, fo3, fo4]
    replace o0 := o0'
    replace fo0 := fo0'
    replace o1 := o1'
    replace fo1 := fo1'
    replace o2 := o2'
    replace fo2 := fo2'
    replace o3 := o3'
    replace fo3 := fo3'
    replace o4 := o4'
    replace fo4 := fo4'
    replace zo : v1.heap.size < W3.heap.size := Nat.lt_of_lt_of_le zo hst.size
    replace z0 : W3.cell? ⟨w.heap.size, 0, none⟩ = some (.int .i64 m.id) := hst.cell z0 zz (by omega)
    replace z1 : W3.cell? ⟨w.heap.size, 1, none⟩ = some (.int .i64 m.lim) := hst.cell z1 zz (by omega)
    replace z2 : W3.cell? ⟨w.heap.size, 2, none⟩ = some (.bool m.dr) := hst.cell z2 zz (by omega)
    replace z3 : W3.cell? ⟨w.heap.size, 3, none⟩ = some (.slice oc m.c.length cc) := hst.cell z3 zz (by omega)
    replace z4 : W3.cell? ⟨w.heap.size, 4, none⟩ = some (.slice ot m.t.length ct) := hst.cell z4 zz (by omega)
    replace zz : w.heap.size < W3.heap.size := Nat.lt_of_lt_of_le zz hst.size
    replace r0 : W3.cell? ⟨w.heap.size + 1, 0, none⟩ = some (.int .i64 0) := hst.cell r0 zr (by omega)
    replace r1 : W3.cell? ⟨w.heap.size + 1, 1, none⟩ = some (.int .i64 0) := hst.cell r1 zr (by omega)
    replace r2 : W3.cell? ⟨w.heap.size + 1, 2, none⟩ = some (.bool false) := hst.cell r2 zr (by omega)
    replace r3 : W3.cell? ⟨w.heap.size + 1, 3, none⟩ = some (.slice none 0 0) := hst.cell r3 zr (by omega)
    replace r4 : W3.cell? ⟨w.heap.size + 1, 4, none⟩ = some (.slice none 0 0) := hst.cell r4 zr (by omega)
    replace fr0 : W3.frozen? ⟨w.heap.size + 1, 0, none⟩ = false := hst.frozen fr0 zr (by omega)
    replace fr1 : W3.frozen? ⟨w.heap.size + 1, 1, none⟩ = false := hst.frozen fr1 zr (by omega)
    replace fr2 : W3.frozen? ⟨w.heap.size + 1, 2, none⟩ = false := hst.frozen fr2 zr (by omega)
    replace fr3 : W3.frozen? ⟨w.heap.size + 1, 3, none⟩ = false := hst.frozen fr3 zr (by omega)
    replace fr4 : W3.frozen? ⟨w.heap.size + 1, 4, none⟩ = false := hst.frozen fr4 zr (by omega)
    replace zr : w.heap.size + 1 < W3.heap.size := Nat.lt_of_lt_of_le zr hst.size
    have HI3 := hide (HI.out.step hst (.inr (Nat.le_refl _)))
    have hs3 := hst.size
    replace HB := hide (HB.out.trans (hst.below (by omega) HB.out.size))
    clear hst
    have HI4 : Hid (OwnG W0.heap.size v1.heap.size W3 (agi (.slice (some ⟨g, 0, none⟩) m.c.length m.c.length) (.slice (some ⟨h, 0, none⟩) m.t.length m.t.length) m.id m.lim true) { m with dr := true }) := by
      obtain ⟨g', h', mid, e, i1, i2, g1, g2⟩ := HI3.out
      injection e with e
      simp at e
      obtain ⟨rfl, rfl⟩ := e
      exact ⟨g, h, mid, rfl, i1, i2, g1, g2⟩
    refine (plain_any _ { m with dr := true } _ _ W3 HI4.out hf).mono ?_
    rintro e v2 ⟨x1, rfl, hin, hb⟩
    obtain ⟨y1, y2, rfl, ⟨p1, c1, rfl, _⟩, ⟨p2, c2, rfl, _⟩⟩ := hin.rd
    have HJ := hide hin
    have hs4 := hb.size
    clear hin
    replace z0 : v2.cell? ⟨w.heap.size, 0, none⟩ = some (.int .i64 m.id) := (hb.cell (p := ⟨w.heap.size, 0, none⟩) zz).trans z0
    replace z1 : v2.cell? ⟨w.heap.size, 1, none⟩ = some (.int .i64 m.lim) := (hb.cell (p := ⟨w.heap.size, 1, none⟩) zz).trans z1
    replace z2 : v2.cell? ⟨w.heap.size, 2, none⟩ = some (.bool m.dr) := (hb.cell (p := ⟨w.heap.size, 2, none⟩) zz).trans z2
    replace z3 : v2.cell? ⟨w.heap.size, 3, none⟩ = some (.slice oc m.c.length cc) := (hb.cell (p := ⟨w.heap.size, 3, none⟩) zz).trans z3
    replace z4 : v2.cell? ⟨w.heap.size, 4, none⟩ = some (.slice ot m.t.length ct) := (hb.cell (p := ⟨w.heap.size, 4, none⟩) zz).trans z4
    replace zz : w.heap.size < v2.heap.size := Nat.lt_of_lt_of_le zz hb.size
    replace r0 : v2.cell? ⟨w.heap.size + 1, 0, none⟩ = some (.int .i64 0) := (hb.cell (p := ⟨w.heap.size + 1, 0, none⟩) zr).trans r0
    replace r1 : v2.cell? ⟨w.heap.size + 1, 1, none⟩ = some (.int .i64 0) := (hb.cell (p := ⟨w.heap.size + 1, 1, none⟩) zr).trans r1
    replace r2 : v2.cell? ⟨w.heap.size + 1, 2, none⟩ = some (.bool false) := (hb.cell (p := ⟨w.heap.size + 1, 2, none⟩) zr).trans r2
    replace r3 : v2.cell? ⟨w.heap.size + 1, 3, none⟩ = some (.slice none 0 0) := (hb.cell (p := ⟨w.heap.size + 1, 3, none⟩) zr).trans r3
    replace r4 : v2.cell? ⟨w.heap.size + 1, 4, none⟩ = some (.slice none 0 0) := (hb.cell (p := ⟨w.heap.size + 1, 4, none⟩) zr).trans r4
    replace fr0 : v2.frozen? ⟨w.heap.size + 1, 0, none⟩ = false := (hb.frozen (p := ⟨w.heap.size + 1, 0, none⟩) zr).trans fr0
    replace fr1 : v2.frozen? ⟨w.heap.size + 1, 1, none⟩ = false := (hb.frozen (p := ⟨w.heap.size + 1, 1, none⟩) zr).trans fr1
    replace fr2 : v2.frozen? ⟨w.heap.size + 1, 2, none⟩ = false := (hb.frozen (p := ⟨w.heap.size + 1, 2, none⟩) zr).trans fr2
    replace fr3 : v2.frozen? ⟨w.heap.size + 1, 3, none⟩ = false := (hb.frozen (p := ⟨w.heap.size + 1, 3, none⟩) zr).trans fr3
    replace fr4 : v2.frozen? ⟨w.heap.size + 1, 4, none⟩ = false := (hb.frozen (p := ⟨w.heap.size + 1, 4, none⟩) zr).trans fr4
    replace zr : w.heap.size + 1 < v2.heap.size := Nat.lt_of_lt_of_le zr hb.size
    replace o0 : v2.cell? ⟨v1.heap.size, 0, none⟩ = some (.slice (some ⟨g, 0, none⟩) m.c.length m.c.length) := (hb.cell (p := ⟨v1.heap.size, 0, none⟩) zo).trans o0
    replace o1 : v2.cell? ⟨v1.heap.size, 1, none⟩ = some (.slice (some ⟨h, 0, none⟩) m.t.length m.t.length) := (hb.cell (p := ⟨v1.heap.size, 1, none⟩) zo).trans o1
    replace o2 : v2.cell? ⟨v1.heap.size, 2, none⟩ = some (.int .i64 m.id) := (hb.cell (p := ⟨v1.heap.size, 2, none⟩) zo).trans o2
    replace o3 : v2.cell? ⟨v1.heap.size, 3, none⟩ = some (.int .i64 m.lim) := (hb.cell (p := ⟨v1.heap.size, 3, none⟩) zo).trans o3
    replace o4 : v2.cell? ⟨v1.heap.size, 4, none⟩ = some (.bool true) := (hb.cell (p := ⟨v1.heap.size, 4, none⟩) zo).trans o4
    replace fo0 : v2.frozen? ⟨v1.heap.size, 0, none⟩ = false := (hb.frozen (p := ⟨v1.heap.size, 0, none⟩) zo).trans fo0
    replace fo1 : v2.frozen? ⟨v1.heap.size, 1, none⟩ = false := (hb.frozen (p := ⟨v1.heap.size, 1, none⟩) zo).trans fo1
    replace fo2 : v2.frozen? ⟨v1.heap.size, 2, none⟩ = false := (hb.frozen (p := ⟨v1.heap.size, 2, none⟩) zo).trans fo2
    replace fo3 : v2.frozen? ⟨v1.heap.size, 3, none⟩ = false := (hb.frozen (p := ⟨v1.heap.size, 3, none⟩) zo).trans fo3
    replace fo4 : v2.frozen? ⟨v1.heap.size, 4, none⟩ = false := (hb.frozen (p := ⟨v1.heap.size, 4, none⟩) zo).trans fo4
    replace zo : v1.heap.size < v2.heap.size := Nat.lt_of_lt_of_le zo hb.size
    replace HB := hide (HB.out.trans (hb.mono HB.out.size))
    clear hb
    clear hW2 hW3
    go_wp2
    refine bodyPost_ret (v := .tuple #[agt m.id m.lim true (.slice p1 m.c.length c1) (.slice p2 m.t.length c2), .bool true]) (by simp [results, Try.results23, go_sem, r0, r1, r2, r3, r4]) rfl ⟨_, rfl, ?_, below_set5v HB.out (by omega) _ _ _ _ _⟩
    rw [HM.out]
    exact (HJ.out.step (stp_set5v _ (w.heap.size + 1) (.int .i64 m.id) (.int .i64 m.lim) (.bool true) (.slice p1 m.c.length c1) (.slice p2 m.t.length c2)) (.inl (by omega))).mono (by omega) (by simp)

set_option maxHeartbeats 4000000 in
theorem specLoad_sh (v : Value) (m : Am) (x : Int) (w : World) (hR : RdA w.heap.size w v m) (hf : m.c.length + m.t.length ≤ 1048576) :
    Calls Try.prog 35 #[v, .int .i64 x] w fun e w' => ∃ v', e = .returned (.tuple #[v', .bool (loadB m x)]) ∧ InA w.heap.size w'.heap.size w' v' (loadM m x) ∧ Below w.heap.size w w' := by
  have hR0 := hR
  obtain ⟨vc, vt, rfl, ⟨oc, cc, rfl, rc⟩, ⟨ot, ct, rfl, rt⟩⟩ := hR0
  clear rc rt
  obtain ⟨W0, hW0⟩ : ∃ W, ((w.alloc (.cells #[.int .i64 m.id, .int .i64 m.lim, .bool m.dr, .slice oc m.c.length cc, .slice ot m.t.length ct] 27)).alloc (.cells #[.int .i64 0, .int .i64 0, .bool false, .slice none 0 0, .slice none 0 0] 27)) = W := ⟨_, rfl⟩
  have hb_W0 : Below w.heap.size w W0 := by rw [← hW0]; exact (((Below.refl _ _).alloc (Nat.le_refl _) _).alloc (by simp <;> omega) _)
  have HB := hide hb_W0
  clear hb_W0
  have zz : w.heap.size < W0.heap.size := by rw [← hW0]; simp <;> omega
  have z0 : W0.cell? ⟨w.heap.size, 0, none⟩ = some (.int .i64 m.id) := by rw [← hW0]; simp [go_sem]
  have z1 : W0.cell? ⟨w.heap.size, 1, none⟩ = some (.int .i64 m.lim) := by rw [← hW0]; simp [go_sem]
  have z2 : W0.cell? ⟨w.heap.size, 2, none⟩ = some (.bool m.dr) := by rw [← hW0]; simp [go_sem]
  have z3 : W0.cell? ⟨w.heap.size, 3, none⟩ = some (.slice oc m.c.length cc) := by rw [← hW0]; simp [go_sem]
  have z4 : W0.cell? ⟨w.heap.size, 4, none⟩ = some (.slice ot m.t.length ct) := by rw [← hW0]; simp [go_sem]
  have zr : w.heap.size + 1 < W0.heap.size := by rw [← hW0]; simp
  have r0 : W0.cell? ⟨w.heap.size + 1, 0, none⟩ = some (.int .i64 0) := by rw [← hW0]; simp [go_sem]
  have r1 : W0.cell? ⟨w.heap.size + 1, 1, none⟩ = some (.int .i64 0) := by rw [← hW0]; simp [go_sem]
  have r2 : W0.cell? ⟨w.heap.size + 1, 2, none⟩ = some (.bool false) := by rw [← hW0]; simp [go_sem]
  have r3 : W0.cell? ⟨w.heap.size + 1, 3, none⟩ = some (.slice none 0 0) := by rw [← hW0]; simp [go_sem]
  have r4 : W0.cell? ⟨w.heap.size + 1, 4, none⟩ = some (.slice none 0 0) := by rw [← hW0]; simp [go_sem]
  have fr0 : W0.frozen? ⟨w.heap.size + 1, 0, none⟩ = false := by rw [← hW0]; simp [go_sem]
  have fr1 : W0.frozen? ⟨w.heap.size + 1, 1, none⟩ = false := by rw [← hW0]; simp [go_sem]
  have fr2 : W0.frozen? ⟨w.heap.size + 1, 2, none⟩ = false := by rw [← hW0]; simp [go_sem]
  have fr3 : W0.frozen? ⟨w.heap.size + 1, 3, none⟩ = false := by rw [← hW0]; simp [go_sem]
  have fr4 : W0.frozen? ⟨w.heap.size + 1, 4, none⟩ = false := by rw [← hW0]; simp [go_sem]
  have hz0 := zr
  have HOK := hide (specAgentOk_sh _ m W0 ((hR.kept HB.out (Nat.le_refl _)).le HB.out.size) hf)
  cases hT : agentOkB m with
  | false =>
    have hL : loadB m x = false := by unfold loadB; rw [hT]; rfl
    rw [hT] at HOK
    clear hT
    have HL := hide hL
    have HM := hide (show loadM m x = am0 by unfold loadM; rw [hL]; rfl)
    clear hL
    go_enter Try.func35, Try.ntmps35
    go_wp2_with fail
    refine (HOK.out).mono ?_
    rintro e v1 ⟨rfl, hb⟩
    replace z0 : v1.cell? ⟨w.heap.size, 0, none⟩ = some (.int .i64 m.id) := (hb.cell (p := ⟨w.heap.size, 0, none⟩) zz).trans z0
    replace z1 : v1.cell? ⟨w.heap.size, 1, none⟩ = some (.int .i64 m.lim) := (hb.cell (p := ⟨w.heap.size, 1, none⟩) zz).trans z1
    replace z2 : v1.cell? ⟨w.heap.size, 2, none⟩ = some (.bool m.dr) := (hb.cell (p := ⟨w.heap.size, 2, none⟩) zz).trans z2
    replace z3 : v1.cell? ⟨w.heap.size, 3, none⟩ = some (.slice oc m.c.length cc) := (hb.cell (p := ⟨w.heap.size, 3, none⟩) zz).trans z3
    replace z4 : v1.cell? ⟨w.heap.size, 4, none⟩ = some (.slice ot m.t.length ct) := (hb.cell (p := ⟨w.heap.size, 4, none⟩) zz).trans z4
    replace zz : w.heap.size < v1.heap.size := Nat.lt_of_lt_of_le zz hb.size
    replace r0 : v1.cell? ⟨w.heap.size + 1, 0, none⟩ = some (.int .i64 0) := (hb.cell (p := ⟨w.heap.size + 1, 0, none⟩) zr).trans r0
    replace r1 : v1.cell? ⟨w.heap.size + 1, 1, none⟩ = some (.int .i64 0) := (hb.cell (p := ⟨w.heap.size + 1, 1, none⟩) zr).trans r1
    replace r2 : v1.cell? ⟨w.heap.size + 1, 2, none⟩ = some (.bool false) := (hb.cell (p := ⟨w.heap.size + 1, 2, none⟩) zr).trans r2
    replace r3 : v1.cell? ⟨w.heap.size + 1, 3, none⟩ = some (.slice none 0 0) := (hb.cell (p := ⟨w.heap.size + 1, 3, none⟩) zr).trans r3
    replace r4 : v1.cell? ⟨w.heap.size + 1, 4, none⟩ = some (.slice none 0 0) := (hb.cell (p := ⟨w.heap.size + 1, 4, none⟩) zr).trans r4
    replace fr0 : v1.frozen? ⟨w.heap.size + 1, 0, none⟩ = false := (hb.frozen (p := ⟨w.heap.size + 1, 0, none⟩) zr).trans fr0
    replace fr1 : v1.frozen? ⟨w.heap.size + 1, 1, none⟩ = false := (hb.frozen (p := ⟨w.heap.size + 1, 1, none⟩) zr).trans fr1
    replace fr2 : v1.frozen? ⟨w.heap.size + 1, 2, none⟩ = false := (hb.frozen (p := ⟨w.heap.size + 1, 2, none⟩) zr).trans fr2
    replace fr3 : v1.frozen? ⟨w.heap.size + 1, 3, none⟩ = false := (hb.frozen (p := ⟨w.heap.size + 1, 3, none⟩) zr).trans fr3
    replace fr4 : v1.frozen? ⟨w.heap.size + 1, 4, none⟩ = false := (hb.frozen (p := ⟨w.heap.size + 1, 4, none⟩) zr).trans fr4
    replace zr : w.heap.size + 1 < v1.heap.size := Nat.lt_of_lt_of_le zr hb.size
    replace HB := hide (HB.out.trans (hb.mono HB.out.size))
    clear hb
    go_wp2
    all_goals (
      refine bodyPost_ret (v := .tuple #[agt 0 0 false (.slice none 0 0) (.slice none 0 0), .bool false]) (by simp [results, Try.results35, go_sem, r0, r1, r2, r3, r4]) rfl ⟨_, by rw [HL.out], ?_, below_set5v HB.out (by omega) _ _ _ _ _⟩
      rw [HM.out]
      exact am0_in (by simp; omega))
  | true =>
    obtain ⟨hp1, hp2⟩ := agent_pos hT
    by_cases hx : 0 ≤ x ∧ x ≤ 16
    · obtain ⟨hx0, hx1⟩ := hx
      have HL := hide (show loadB m x = true by unfold loadB; rw [hT]; simp [hx0, hx1])
      have HM := hide (show loadM m x = { m with lim := x } by unfold loadM; rw [HL.out]; rfl)
      rw [hT] at HOK
      clear hT
      go_enter Try.func35, Try.ntmps35
      go_wp2_with fail
      refine (HOK.out).mono ?_
      rintro e v1 ⟨rfl, hb⟩
      have hs0 := hb.size
      replace z0 : v1.cell? ⟨w.heap.size, 0, none⟩ = some (.int .i64 m.id) := (hb.cell (p := ⟨w.heap.size, 0, none⟩) zz).trans z0
      replace z1 : v1.cell? ⟨w.heap.size, 1, none⟩ = some (.int .i64 m.lim) := (hb.cell (p := ⟨w.heap.size, 1, none⟩) zz).trans z1
      replace z2 : v1.cell? ⟨w.heap.size, 2, none⟩ = some (.bool m.dr) := (hb.cell (p := ⟨w.heap.size, 2, none⟩) zz).trans z2
      replace z3 : v1.cell? ⟨w.heap.size, 3, none⟩ = some (.slice oc m.c.length cc) := (hb.cell (p := ⟨w.heap.size, 3, none⟩) zz).trans z3
      replace z4 : v1.cell? ⟨w.heap.size, 4, none⟩ = some (.slice ot m.t.length ct) := (hb.cell (p := ⟨w.heap.size, 4, none⟩) zz).trans z4
      replace zz : w.heap.size < v1.heap.size := Nat.lt_of_lt_of_le zz hb.size
      replace r0 : v1.cell? ⟨w.heap.size + 1, 0, none⟩ = some (.int .i64 0) := (hb.cell (p := ⟨w.heap.size + 1, 0, none⟩) zr).trans r0
      replace r1 : v1.cell? ⟨w.heap.size + 1, 1, none⟩ = some (.int .i64 0) := (hb.cell (p := ⟨w.heap.size + 1, 1, none⟩) zr).trans r1
      replace r2 : v1.cell? ⟨w.heap.size + 1, 2, none⟩ = some (.bool false) := (hb.cell (p := ⟨w.heap.size + 1, 2, none⟩) zr).trans r2
      replace r3 : v1.cell? ⟨w.heap.size + 1, 3, none⟩ = some (.slice none 0 0) := (hb.cell (p := ⟨w.heap.size + 1, 3, none⟩) zr).trans r3
      replace r4 : v1.cell? ⟨w.heap.size + 1, 4, none⟩ = some (.slice none 0 0) := (hb.cell (p := ⟨w.heap.size + 1, 4, none⟩) zr).trans r4
      replace fr0 : v1.frozen? ⟨w.heap.size + 1, 0, none⟩ = false := (hb.frozen (p := ⟨w.heap.size + 1, 0, none⟩) zr).trans fr0
      replace fr1 : v1.frozen? ⟨w.heap.size + 1, 1, none⟩ = false := (hb.frozen (p := ⟨w.heap.size + 1, 1, none⟩) zr).trans fr1
      replace fr2 : v1.frozen? ⟨w.heap.size + 1, 2, none⟩ = false := (hb.frozen (p := ⟨w.heap.size + 1, 2, none⟩) zr).trans fr2
      replace fr3 : v1.frozen? ⟨w.heap.size + 1, 3, none⟩ = false := (hb.frozen (p := ⟨w.heap.size + 1, 3, none⟩) zr).trans fr3
      replace fr4 : v1.frozen? ⟨w.heap.size + 1, 4, none⟩ = false := (hb.frozen (p := ⟨w.heap.size + 1, 4, none⟩) zr).trans fr4
      replace zr : w.heap.size + 1 < v1.heap.size := Nat.lt_of_lt_of_le zr hb.size
      replace HB := hide (HB.out.trans (hb.mono HB.out.size))
      clear hb
      go_wp2_with fail
      refine (l6own_any _ m v1 ((hR.kept HB.out (Nat.le_refl _)).le HB.out.size) hp1 hp2 hf).mono ?_
      rintro e v2 ⟨x1, rfl, hin, hb⟩
      obtain ⟨y1, y2, rfl, ⟨p1, c1, rfl, _⟩, ⟨p2, c2, rfl, _⟩⟩ := hin.rd
      have HI := hide hin
      have hs1 := hb.size
      clear hin
      replace z0 : v2.cell? ⟨w.heap.size, 0, none⟩ = some (.int .i64 m.id) := (hb.cell (p := ⟨w.heap.size, 0, none⟩) zz).trans z0
      replace z1 : v2.cell? ⟨w.heap.size, 1, none⟩ = some (.int .i64 m.lim) := (hb.cell (p := ⟨w.heap.size, 1, none⟩) zz).trans z1
      replace z2 : v2.cell? ⟨w.heap.size, 2, none⟩ = some (.bool m.dr) := (hb.cell (p := ⟨w.heap.size, 2, none⟩) zz).trans z2
      replace z3 : v2.cell? ⟨w.heap.size, 3, none⟩ = some (.slice oc m.c.length cc) := (hb.cell (p := ⟨w.heap.size, 3, none⟩) zz).trans z3
      replace z4 : v2.cell? ⟨w.heap.size, 4, none⟩ = some (.slice ot m.t.length ct) := (hb.cell (p := ⟨w.heap.size, 4, none⟩) zz).trans z4
      replace zz : w.heap.size < v2.heap.size := Nat.lt_of_lt_of_le zz hb.size
      replace r0 : v2.cell? ⟨w.heap.size + 1, 0, none⟩ = some (.int .i64 0) := (hb.cell (p := ⟨w.heap.size + 1, 0, none⟩) zr).trans r0
      replace r1 : v2.cell? ⟨w.heap.size + 1, 1, none⟩ = some (.int .i64 0) := (hb.cell (p := ⟨w.heap.size + 1, 1, none⟩) zr).trans r1
      replace r2 : v2.cell? ⟨w.heap.size + 1, 2, none⟩ = some (.bool false) := (hb.cell (p := ⟨w.heap.size + 1, 2, none⟩) zr).trans r2
      replace r3 : v2.cell? ⟨w.heap.size + 1, 3, none⟩ = some (.slice none 0 0) := (hb.cell (p := ⟨w.heap.size + 1, 3, none⟩) zr).trans r3
      replace r4 : v2.cell? ⟨w.heap.size + 1, 4, none⟩ = some (.slice none 0 0) := (hb.cell (p := ⟨w.heap.size + 1, 4, none⟩) zr).trans r4
      replace fr0 : v2.frozen? ⟨w.heap.size + 1, 0, none⟩ = false := (hb.frozen (p := ⟨w.heap.size + 1, 0, none⟩) zr).trans fr0
      replace fr1 : v2.frozen? ⟨w.heap.size + 1, 1, none⟩ = false := (hb.frozen (p := ⟨w.heap.size + 1, 1, none⟩) zr).trans fr1
      replace fr2 : v2.frozen? ⟨w.heap.size + 1, 2, none⟩ = false := (hb.frozen (p := ⟨w.heap.size + 1, 2, none⟩) zr).trans fr2
      replace fr3 : v2.frozen? ⟨w.heap.size + 1, 3, none⟩ = false := (hb.frozen (p := ⟨w.heap.size + 1, 3, none⟩) zr).trans fr3
      replace fr4 : v2.frozen? ⟨w.heap.size + 1, 4, none⟩ = false := (hb.frozen (p := ⟨w.heap.size + 1, 4, none⟩) zr).trans fr4
      replace zr : w.heap.size + 1 < v2.heap.size := Nat.lt_of_lt_of_le zr hb.size
      replace HB := hide (HB.out.trans (hb.mono HB.out.size))
      clear hb
      obtain ⟨W3, hW3⟩ : ∃ W, (v2.alloc (.cells #[.int .i64 m.id, .int .i64 m.lim, .bool m.dr, .slice p1 m.c.length c1, .slice p2 m.t.length c2] 27)) = W := ⟨_, rfl⟩
      have hb_W3 : Below v2.heap.size v2 W3 := by rw [← hW3]; exact ((Below.refl _ _).alloc (Nat.le_refl _) _)
      replace z0 : W3.cell? ⟨w.heap.size, 0, none⟩ = some (.int .i64 m.id) := (hb_W3.cell (p := ⟨w.heap.size, 0, none⟩) zz).trans z0
      replace z1 : W3.cell? ⟨w.heap.size, 1, none⟩ = some (.int .i64 m.lim) := (hb_W3.cell (p := ⟨w.heap.size, 1, none⟩) zz).trans z1
      replace z2 : W3.cell? ⟨w.heap.size, 2, none⟩ = some (.bool m.dr) := (hb_W3.cell (p := ⟨w.heap.size, 2, none⟩) zz).trans z2
      replace z3 : W3.cell? ⟨w.heap.size, 3, none⟩ = some (.slice oc m.c.length cc) := (hb_W3.cell (p := ⟨w.heap.size, 3, none⟩) zz).trans z3
      replace z4 : W3.cell? ⟨w.heap.size, 4, none⟩ = some (.slice ot m.t.length ct) := (hb_W3.cell (p := ⟨w.heap.size, 4, none⟩) zz).trans z4
      replace zz : w.heap.size < W3.heap.size := Nat.lt_of_lt_of_le zz hb_W3.size
      replace r0 : W3.cell? ⟨w.heap.size + 1, 0, none⟩ = some (.int .i64 0) := (hb_W3.cell (p := ⟨w.heap.size + 1, 0, none⟩) zr).trans r0
      replace r1 : W3.cell? ⟨w.heap.size + 1, 1, none⟩ = some (.int .i64 0) := (hb_W3.cell (p := ⟨w.heap.size + 1, 1, none⟩) zr).trans r1
      replace r2 : W3.cell? ⟨w.heap.size + 1, 2, none⟩ = some (.bool false) := (hb_W3.cell (p := ⟨w.heap.size + 1, 2, none⟩) zr).trans r2
      replace r3 : W3.cell? ⟨w.heap.size + 1, 3, none⟩ = some (.slice none 0 0) := (hb_W3.cell (p := ⟨w.heap.size + 1, 3, none⟩) zr).trans r3
      replace r4 : W3.cell? ⟨w.heap.size + 1, 4, none⟩ = some (.slice none 0 0) := (hb_W3.cell (p := ⟨w.heap.size + 1, 4, none⟩) zr).trans r4
      replace fr0 : W3.frozen? ⟨w.heap.size + 1, 0, none⟩ = false := (hb_W3.frozen (p := ⟨w.heap.size + 1, 0, none⟩) zr).trans fr0
      replace fr1 : W3.frozen? ⟨w.heap.size + 1, 1, none⟩ = false := (hb_W3.frozen (p := ⟨w.heap.size + 1, 1, none⟩) zr).trans fr1
      replace fr2 : W3.frozen? ⟨w.heap.size + 1, 2, none⟩ = false := (hb_W3.frozen (p := ⟨w.heap.size + 1, 2, none⟩) zr).trans fr2
      replace fr3 : W3.frozen? ⟨w.heap.size + 1, 3, none⟩ = false := (hb_W3.frozen (p := ⟨w.heap.size + 1, 3, none⟩) zr).trans fr3
      replace fr4 : W3.frozen? ⟨w.heap.size + 1, 4, none⟩ = false := (hb_W3.frozen (p := ⟨w.heap.size + 1, 4, none⟩) zr).trans fr4
      replace zr : w.heap.size + 1 < W3.heap.size := Nat.lt_of_lt_of_le zr hb_W3.size
      replace HB := hide (HB.out.trans (hb_W3.mono HB.out.size))
      clear hb_W3
      have zo : v2.heap.size < W3.heap.size := by rw [← hW3]; simp
      have o0 : W3.cell? ⟨v2.heap.size, 0, none⟩ = some (.int .i64 m.id) := by rw [← hW3]; simp [go_sem]
      have o1 : W3.cell? ⟨v2.heap.size, 1, none⟩ = some (.int .i64 m.lim) := by rw [← hW3]; simp [go_sem]
      have o2 : W3.cell? ⟨v2.heap.size, 2, none⟩ = some (.bool m.dr) := by rw [← hW3]; simp [go_sem]
      have o3 : W3.cell? ⟨v2.heap.size, 3, none⟩ = some (.slice p1 m.c.length c1) := by rw [← hW3]; simp [go_sem]
      have o4 : W3.cell? ⟨v2.heap.size, 4, none⟩ = some (.slice p2 m.t.length c2) := by rw [← hW3]; simp [go_sem]
      have fo0 : W3.frozen? ⟨v2.heap.size, 0, none⟩ = false := by rw [← hW3]; simp [go_sem]
      have fo1 : W3.frozen? ⟨v2.heap.size, 1, none⟩ = false := by rw [← hW3]; simp [go_sem]
      have fo2 : W3.frozen? ⟨v2.heap.size, 2, none⟩ = false := by rw [← hW3]; simp [go_sem]
      have fo3 : W3.frozen? ⟨v2.heap.size, 3, none⟩ = false := by rw [← hW3]; simp [go_sem]
      have fo4 : W3.frozen? ⟨v2.heap.size, 4, none⟩ = false := by rw [← hW3]; simp [go_sem]
      replace HI := hide (HI.out.step (Stp.of (lo := 0) (hi := 0) (show Below v2.heap.size v2 W3 by rw [← hW3]; exact (Below.refl _ _).alloc (Nat.le_refl _) _)) (.inl (Nat.zero_le _)))
      have hs3 : v2.heap.size ≤ W3.heap.size := by omega
      have hne1 : v2.heap.size ≠ w.heap.size + 1 := by omega
      have hne2 : w.heap.size + 1 ≠ v2.heap.size := by omega
      go_wp2
      refine bodyPost_ret (v := .tuple #[agt m.id x m.dr (.slice p1 m.c.length c1) (.slice p2 m.t.length c2), .bool true]) (by simp [results, Try.results35, go_sem, r0, r1, r2, r3, r4, hne1, hne2]) rfl ⟨_, by rw [HL.out], ?_, ?_⟩
      · rw [HM.out]
        obtain ⟨_, _, mid, e, i1, i2, g1, g2⟩ := (HI.out.step (stp_set1 W3 v2.heap.size 1 (.int .i64 x)) (.inr (Nat.le_refl _))).step (stp_set5v _ (w.heap.size + 1) (.int .i64 m.id) (.int .i64 x) (.bool m.dr) (.slice p1 m.c.length c1) (.slice p2 m.t.length c2)) (.inl (by omega))
        injection e with e
        simp at e
        obtain ⟨rfl, rfl⟩ := e
        exact ⟨_, _, mid, rfl, InRow.mono i1 (by omega) (Nat.le_refl _), InRow.mono i2 (Nat.le_refl _) (by simp; omega), by omega, by simp; omega⟩
      · exact below_set5v (HB.out.setCell (p := ⟨v2.heap.size, 1, none⟩) (show w.heap.size ≤ v2.heap.size by omega) _) (by omega) _ _ _ _ _
    · have hL : loadB m x = false := by unfold loadB; rw [hT]; simp; omega
      rw [hT] at HOK
      clear hT
      have HL := hide hL
      have HM := hide (show loadM m x = am0 by unfold loadM; rw [hL]; rfl)
      clear hL
      by_cases hx0 : x < 0
      · skip
        clear hx
        go_enter Try.func35, Try.ntmps35
        go_wp2_with fail
        refine (HOK.out).mono ?_
        rintro e v1 ⟨rfl, hb⟩
        replace z0 : v1.cell? ⟨w.heap.size, 0, none⟩ = some (.int .i64 m.id) := (hb.cell (p := ⟨w.heap.size, 0, none⟩) zz).trans z0
        replace z1 : v1.cell? ⟨w.heap.size, 1, none⟩ = some (.int .i64 m.lim) := (hb.cell (p := ⟨w.heap.size, 1, none⟩) zz).trans z1
        replace z2 : v1.cell? ⟨w.heap.size, 2, none⟩ = some (.bool m.dr) := (hb.cell (p := ⟨w.heap.size, 2, none⟩) zz).trans z2
        replace z3 : v1.cell? ⟨w.heap.size, 3, none⟩ = some (.slice oc m.c.length cc) := (hb.cell (p := ⟨w.heap.size, 3, none⟩) zz).trans z3
        replace z4 : v1.cell? ⟨w.heap.size, 4, none⟩ = some (.slice ot m.t.length ct) := (hb.cell (p := ⟨w.heap.size, 4, none⟩) zz).trans z4
        replace zz : w.heap.size < v1.heap.size := Nat.lt_of_lt_of_le zz hb.size
        replace r0 : v1.cell? ⟨w.heap.size + 1, 0, none⟩ = some (.int .i64 0) := (hb.cell (p := ⟨w.heap.size + 1, 0, none⟩) zr).trans r0
        replace r1 : v1.cell? ⟨w.heap.size + 1, 1, none⟩ = some (.int .i64 0) := (hb.cell (p := ⟨w.heap.size + 1, 1, none⟩) zr).trans r1
        replace r2 : v1.cell? ⟨w.heap.size + 1, 2, none⟩ = some (.bool false) := (hb.cell (p := ⟨w.heap.size + 1, 2, none⟩) zr).trans r2
        replace r3 : v1.cell? ⟨w.heap.size + 1, 3, none⟩ = some (.slice none 0 0) := (hb.cell (p := ⟨w.heap.size + 1, 3, none⟩) zr).trans r3
        replace r4 : v1.cell? ⟨w.heap.size + 1, 4, none⟩ = some (.slice none 0 0) := (hb.cell (p := ⟨w.heap.size + 1, 4, none⟩) zr).trans r4
        replace fr0 : v1.frozen? ⟨w.heap.size + 1, 0, none⟩ = false := (hb.frozen (p := ⟨w.heap.size + 1, 0, none⟩) zr).trans fr0
        replace fr1 : v1.frozen? ⟨w.heap.size + 1, 1, none⟩ = false := (hb.frozen (p := ⟨w.heap.size + 1, 1, none⟩) zr).trans fr1
        replace fr2 : v1.frozen? ⟨w.heap.size + 1, 2, none⟩ = false := (hb.frozen (p := ⟨w.heap.size + 1, 2, none⟩) zr).trans fr2
        replace fr3 : v1.frozen? ⟨w.heap.size + 1, 3, none⟩ = false := (hb.frozen (p := ⟨w.heap.size + 1, 3, none⟩) zr).trans fr3
        replace fr4 : v1.frozen? ⟨w.heap.size + 1, 4, none⟩ = false := (hb.frozen (p := ⟨w.heap.size + 1, 4, none⟩) zr).trans fr4
        replace zr : w.heap.size + 1 < v1.heap.size := Nat.lt_of_lt_of_le zr hb.size
        replace HB := hide (HB.out.trans (hb.mono HB.out.size))
        clear hb
        go_wp2
        refine bodyPost_ret (v := .tuple #[agt 0 0 false (.slice none 0 0) (.slice none 0 0), .bool false]) (by simp [results, Try.results35, go_sem, r0, r1, r2, r3, r4]) rfl ⟨_, by rw [HL.out], ?_, below_set5v HB.out (by omega) _ _ _ _ _⟩
        rw [HM.out]
        exact am0_in (by simp; omega)
      · have hx1 : 16 < x := by omega
        have hx2 : 0 ≤ x := by omega
        clear hx
        go_enter Try.func35, Try.ntmps35
        go_wp2_with fail
        refine (HOK.out).mono ?_
        rintro e v1 ⟨rfl, hb⟩
        replace z0 : v1.cell? ⟨w.heap.size, 0, none⟩ = some (.int .i64 m.id) := (hb.cell (p := ⟨w.heap.size, 0, none⟩) zz).trans z0
        replace z1 : v1.cell? ⟨w.heap.size, 1, none⟩ = some (.int .i64 m.lim) := (hb.cell (p := ⟨w.heap.size, 1, none⟩) zz).trans z1
        replace z2 : v1.cell? ⟨w.heap.size, 2, none⟩ = some (.bool m.dr) := (hb.cell (p := ⟨w.heap.size, 2, none⟩) zz).trans z2
        replace z3 : v1.cell? ⟨w.heap.size, 3, none⟩ = some (.slice oc m.c.length cc) := (hb.cell (p := ⟨w.heap.size, 3, none⟩) zz).trans z3
        replace z4 : v1.cell? ⟨w.heap.size, 4, none⟩ = some (.slice ot m.t.length ct) := (hb.cell (p := ⟨w.heap.size, 4, none⟩) zz).trans z4
        replace zz : w.heap.size < v1.heap.size := Nat.lt_of_lt_of_le zz hb.size
        replace r0 : v1.cell? ⟨w.heap.size + 1, 0, none⟩ = some (.int .i64 0) := (hb.cell (p := ⟨w.heap.size + 1, 0, none⟩) zr).trans r0
        replace r1 : v1.cell? ⟨w.heap.size + 1, 1, none⟩ = some (.int .i64 0) := (hb.cell (p := ⟨w.heap.size + 1, 1, none⟩) zr).trans r1
        replace r2 : v1.cell? ⟨w.heap.size + 1, 2, none⟩ = some (.bool false) := (hb.cell (p := ⟨w.heap.size + 1, 2, none⟩) zr).trans r2
        replace r3 : v1.cell? ⟨w.heap.size + 1, 3, none⟩ = some (.slice none 0 0) := (hb.cell (p := ⟨w.heap.size + 1, 3, none⟩) zr).trans r3
        replace r4 : v1.cell? ⟨w.heap.size + 1, 4, none⟩ = some (.slice none 0 0) := (hb.cell (p := ⟨w.heap.size + 1, 4, none⟩) zr).trans r4
        replace fr0 : v1.frozen? ⟨w.heap.size + 1, 0, none⟩ = false := (hb.frozen (p := ⟨w.heap.size + 1, 0, none⟩) zr).trans fr0
        replace fr1 : v1.frozen? ⟨w.heap.size + 1, 1, none⟩ = false := (hb.frozen (p := ⟨w.heap.size + 1, 1, none⟩) zr).trans fr1
        replace fr2 : v1.frozen? ⟨w.heap.size + 1, 2, none⟩ = false := (hb.frozen (p := ⟨w.heap.size + 1, 2, none⟩) zr).trans fr2
        replace fr3 : v1.frozen? ⟨w.heap.size + 1, 3, none⟩ = false := (hb.frozen (p := ⟨w.heap.size + 1, 3, none⟩) zr).trans fr3
        replace fr4 : v1.frozen? ⟨w.heap.size + 1, 4, none⟩ = false := (hb.frozen (p := ⟨w.heap.size + 1, 4, none⟩) zr).trans fr4
        replace zr : w.heap.size + 1 < v1.heap.size := Nat.lt_of_lt_of_le zr hb.size
        replace HB := hide (HB.out.trans (hb.mono HB.out.size))
        clear hb
        go_wp2
        refine bodyPost_ret (v := .tuple #[agt 0 0 false (.slice none 0 0) (.slice none 0 0), .bool false]) (by simp [results, Try.results35, go_sem, r0, r1, r2, r3, r4]) rfl ⟨_, by rw [HL.out], ?_, below_set5v HB.out (by omega) _ _ _ _ _⟩
        rw [HM.out]
        exact am0_in (by simp; omega)

set_option maxHeartbeats 4000000 in
theorem implLoad_sh (v : Value) (m : Am) (x : Int) (w : World) (hR : RdA w.heap.size w v m) (hf : m.c.length + m.t.length ≤ 1048576) :
    Calls Try.prog 22 #[v, .int .i64 x] w fun e w' => ∃ v', e = .returned (.tuple #[v', .bool (loadB m x)]) ∧ InA w.heap.size w'.heap.size w' v' (loadM m x) ∧ Below w.heap.size w w' := by
  have hR0 := hR
  obtain ⟨vc, vt, rfl, ⟨oc, cc, rfl, rc⟩, ⟨ot, ct, rfl, rt⟩⟩ := hR0
  clear rc rt
  obtain ⟨W0, hW0⟩ : ∃ W, ((w.alloc (.cells #[.int .i64 m.id, .int .i64 m.lim, .bool m.dr, .slice oc m.c.length cc, .slice ot m.t.length ct] 27)).alloc (.cells #[.int .i64 0, .int .i64 0, .bool false, .slice none 0 0, .slice none 0 0] 27)) = W := ⟨_, rfl⟩
  have hb_W0 : Below w.heap.size w W0 := by rw [← hW0]; exact (((Below.refl _ _).alloc (Nat.le_refl _) _).alloc (by simp <;> omega) _)
  have HB := hide hb_W0
  clear hb_W0
  have zz : w.heap.size < W0.heap.size := by rw [← hW0]; simp <;> omega
  have z0 : W0.cell? ⟨w.heap.size, 0, none⟩ = some (.int .i64 m.id) := by rw [← hW0]; simp [go_sem]
  have z1 : W0.cell? ⟨w.heap.size, 1, none⟩ = some (.int .i64 m.lim) := by rw [← hW0]; simp [go_sem]
  have z2 : W0.cell? ⟨w.heap.size, 2, none⟩ = some (.bool m.dr) := by rw [← hW0]; simp [go_sem]
  have z3 : W0.cell? ⟨w.heap.size, 3, none⟩ = some (.slice oc m.c.length cc) := by rw [← hW0]; simp [go_sem]
  have z4 : W0.cell? ⟨w.heap.size, 4, none⟩ = some (.slice ot m.t.length ct) := by rw [← hW0]; simp [go_sem]
  have zr : w.heap.size + 1 < W0.heap.size := by rw [← hW0]; simp
  have r0 : W0.cell? ⟨w.heap.size + 1, 0, none⟩ = some (.int .i64 0) := by rw [← hW0]; simp [go_sem]
  have r1 : W0.cell? ⟨w.heap.size + 1, 1, none⟩ = some (.int .i64 0) := by rw [← hW0]; simp [go_sem]
  have r2 : W0.cell? ⟨w.heap.size + 1, 2, none⟩ = some (.bool false) := by rw [← hW0]; simp [go_sem]
  have r3 : W0.cell? ⟨w.heap.size + 1, 3, none⟩ = some (.slice none 0 0) := by rw [← hW0]; simp [go_sem]
  have r4 : W0.cell? ⟨w.heap.size + 1, 4, none⟩ = some (.slice none 0 0) := by rw [← hW0]; simp [go_sem]
  have fr0 : W0.frozen? ⟨w.heap.size + 1, 0, none⟩ = false := by rw [← hW0]; simp [go_sem]
  have fr1 : W0.frozen? ⟨w.heap.size + 1, 1, none⟩ = false := by rw [← hW0]; simp [go_sem]
  have fr2 : W0.frozen? ⟨w.heap.size + 1, 2, none⟩ = false := by rw [← hW0]; simp [go_sem]
  have fr3 : W0.frozen? ⟨w.heap.size + 1, 3, none⟩ = false := by rw [← hW0]; simp [go_sem]
  have fr4 : W0.frozen? ⟨w.heap.size + 1, 4, none⟩ = false := by rw [← hW0]; simp [go_sem]
  have hz0 := zr
  have HOK := hide (agentFrom_any _ m W0 ((hR.kept HB.out (Nat.le_refl _)).le HB.out.size) hf)
  have hli := fun W => isLimit_any x W
  have HLB := hide (show loadB m x = (agentOkB m && (decide (0 ≤ x) && decide (x ≤ 16))) from rfl)
  generalize (decide (0 ≤ x) && decide (x ≤ 16)) = bl at *
  have HOM := hide (show loadM m x = if loadB m x = true then { m with lim := x } else am0 from rfl)
  rw [HLB.out] at HOM
  generalize agentOkB m = ok at *
  by_cases hall : (ok && bl) = true
  · obtain ⟨rfl, rfl⟩ : ok = true ∧ bl = true := by cases ok <;> cases bl <;> simp_all
    clear hall
    go_enter Try.func22, Try.ntmps22
    go_wp2_with fail
    refine (HOK.out).mono ?_
    rintro e v1 ⟨o1, n1, k1, o2, n2, k2, i, l, d, rfl, hv, hb⟩
    have hO := hv (by simp)
    obtain ⟨g, h, mid, e, i1, i2, g1, g2⟩ := hO
    injection e with e
    simp at e
    obtain ⟨⟨rfl, rfl, rfl⟩, ⟨rfl, rfl, rfl⟩, rfl, rfl, rfl⟩ := e
    have HI : Hid (OwnG W0.heap.size v1.heap.size v1 (agi (.slice (some ⟨g, 0, none⟩) m.c.length m.c.length) (.slice (some ⟨h, 0, none⟩) m.t.length m.t.length) m.id m.lim m.dr) m) := ⟨g, h, mid, rfl, i1, i2, g1, g2⟩
    have hs1 := hb.size
    clear hv i1 i2 g1 g2
    replace z0 : v1.cell? ⟨w.heap.size, 0, none⟩ = some (.int .i64 m.id) := (hb.cell (p := ⟨w.heap.size, 0, none⟩) zz).trans z0
    replace z1 : v1.cell? ⟨w.heap.size, 1, none⟩ = some (.int .i64 m.lim) := (hb.cell (p := ⟨w.heap.size, 1, none⟩) zz).trans z1
    replace z2 : v1.cell? ⟨w.heap.size, 2, none⟩ = some (.bool m.dr) := (hb.cell (p := ⟨w.heap.size, 2, none⟩) zz).trans z2
    replace z3 : v1.cell? ⟨w.heap.size, 3, none⟩ = some (.slice oc m.c.length cc) := (hb.cell (p := ⟨w.heap.size, 3, none⟩) zz).trans z3
    replace z4 : v1.cell? ⟨w.heap.size, 4, none⟩ = some (.slice ot m.t.length ct) := (hb.cell (p := ⟨w.heap.size, 4, none⟩) zz).trans z4
    replace zz : w.heap.size < v1.heap.size := Nat.lt_of_lt_of_le zz hb.size
    replace r0 : v1.cell? ⟨w.heap.size + 1, 0, none⟩ = some (.int .i64 0) := (hb.cell (p := ⟨w.heap.size + 1, 0, none⟩) zr).trans r0
    replace r1 : v1.cell? ⟨w.heap.size + 1, 1, none⟩ = some (.int .i64 0) := (hb.cell (p := ⟨w.heap.size + 1, 1, none⟩) zr).trans r1
    replace r2 : v1.cell? ⟨w.heap.size + 1, 2, none⟩ = some (.bool false) := (hb.cell (p := ⟨w.heap.size + 1, 2, none⟩) zr).trans r2
    replace r3 : v1.cell? ⟨w.heap.size + 1, 3, none⟩ = some (.slice none 0 0) := (hb.cell (p := ⟨w.heap.size + 1, 3, none⟩) zr).trans r3
    replace r4 : v1.cell? ⟨w.heap.size + 1, 4, none⟩ = some (.slice none 0 0) := (hb.cell (p := ⟨w.heap.size + 1, 4, none⟩) zr).trans r4
    replace fr0 : v1.frozen? ⟨w.heap.size + 1, 0, none⟩ = false := (hb.frozen (p := ⟨w.heap.size + 1, 0, none⟩) zr).trans fr0
    replace fr1 : v1.frozen? ⟨w.heap.size + 1, 1, none⟩ = false := (hb.frozen (p := ⟨w.heap.size + 1, 1, none⟩) zr).trans fr1
    replace fr2 : v1.frozen? ⟨w.heap.size + 1, 2, none⟩ = false := (hb.frozen (p := ⟨w.heap.size + 1, 2, none⟩) zr).trans fr2
    replace fr3 : v1.frozen? ⟨w.heap.size + 1, 3, none⟩ = false := (hb.frozen (p := ⟨w.heap.size + 1, 3, none⟩) zr).trans fr3
    replace fr4 : v1.frozen? ⟨w.heap.size + 1, 4, none⟩ = false := (hb.frozen (p := ⟨w.heap.size + 1, 4, none⟩) zr).trans fr4
    replace zr : w.heap.size + 1 < v1.heap.size := Nat.lt_of_lt_of_le zr hb.size
    replace HB := hide (HB.out.trans (hb.mono HB.out.size))
    clear hb
    obtain ⟨W2, hW2⟩ : ∃ W, (v1.alloc (.cells #[.slice (some ⟨g, 0, none⟩) m.c.length m.c.length, .slice (some ⟨h, 0, none⟩) m.t.length m.t.length, .int .i64 m.id, .int .i64 m.lim, .bool m.dr] 83)) = W := ⟨_, rfl⟩
    have hb_W2 : Below v1.heap.size v1 W2 := by rw [← hW2]; exact ((Below.refl _ _).alloc (Nat.le_refl _) _)
    replace z0 : W2.cell? ⟨w.heap.size, 0, none⟩ = some (.int .i64 m.id) := (hb_W2.cell (p := ⟨w.heap.size, 0, none⟩) zz).trans z0
    replace z1 : W2.cell? ⟨w.heap.size, 1, none⟩ = some (.int .i64 m.lim) := (hb_W2.cell (p := ⟨w.heap.size, 1, none⟩) zz).trans z1
    replace z2 : W2.cell? ⟨w.heap.size, 2, none⟩ = some (.bool m.dr) := (hb_W2.cell (p := ⟨w.heap.size, 2, none⟩) zz).trans z2
    replace z3 : W2.cell? ⟨w.heap.size, 3, none⟩ = some (.slice oc m.c.length cc) := (hb_W2.cell (p := ⟨w.heap.size, 3, none⟩) zz).trans z3
    replace z4 : W2.cell? ⟨w.heap.size, 4, none⟩ = some (.slice ot m.t.length ct) := (hb_W2.cell (p := ⟨w.heap.size, 4, none⟩) zz).trans z4
    replace zz : w.heap.size < W2.heap.size := Nat.lt_of_lt_of_le zz hb_W2.size
    replace r0 : W2.cell? ⟨w.heap.size + 1, 0, none⟩ = some (.int .i64 0) := (hb_W2.cell (p := ⟨w.heap.size + 1, 0, none⟩) zr).trans r0
    replace r1 : W2.cell? ⟨w.heap.size + 1, 1, none⟩ = some (.int .i64 0) := (hb_W2.cell (p := ⟨w.heap.size + 1, 1, none⟩) zr).trans r1
    replace r2 : W2.cell? ⟨w.heap.size + 1, 2, none⟩ = some (.bool false) := (hb_W2.cell (p := ⟨w.heap.size + 1, 2, none⟩) zr).trans r2
    replace r3 : W2.cell? ⟨w.heap.size + 1, 3, none⟩ = some (.slice none 0 0) := (hb_W2.cell (p := ⟨w.heap.size + 1, 3, none⟩) zr).trans r3
    replace r4 : W2.cell? ⟨w.heap.size + 1, 4, none⟩ = some (.slice none 0 0) := (hb_W2.cell (p := ⟨w.heap.size + 1, 4, none⟩) zr).trans r4
    replace fr0 : W2.frozen? ⟨w.heap.size + 1, 0, none⟩ = false := (hb_W2.frozen (p := ⟨w.heap.size + 1, 0, none⟩) zr).trans fr0
    replace fr1 : W2.frozen? ⟨w.heap.size + 1, 1, none⟩ = false := (hb_W2.frozen (p := ⟨w.heap.size + 1, 1, none⟩) zr).trans fr1
    replace fr2 : W2.frozen? ⟨w.heap.size + 1, 2, none⟩ = false := (hb_W2.frozen (p := ⟨w.heap.size + 1, 2, none⟩) zr).trans fr2
    replace fr3 : W2.frozen? ⟨w.heap.size + 1, 3, none⟩ = false := (hb_W2.frozen (p := ⟨w.heap.size + 1, 3, none⟩) zr).trans fr3
    replace fr4 : W2.frozen? ⟨w.heap.size + 1, 4, none⟩ = false := (hb_W2.frozen (p := ⟨w.heap.size + 1, 4, none⟩) zr).trans fr4
    replace zr : w.heap.size + 1 < W2.heap.size := Nat.lt_of_lt_of_le zr hb_W2.size
    replace HB := hide (HB.out.trans (hb_W2.mono HB.out.size))
    clear hb_W2
    have zo : v1.heap.size < W2.heap.size := by rw [← hW2]; simp
    have o0 : W2.cell? ⟨v1.heap.size, 0, none⟩ = some (.slice (some ⟨g, 0, none⟩) m.c.length m.c.length) := by rw [← hW2]; simp [go_sem]
    have o1 : W2.cell? ⟨v1.heap.size, 1, none⟩ = some (.slice (some ⟨h, 0, none⟩) m.t.length m.t.length) := by rw [← hW2]; simp [go_sem]
    have o2 : W2.cell? ⟨v1.heap.size, 2, none⟩ = some (.int .i64 m.id) := by rw [← hW2]; simp [go_sem]
    have o3 : W2.cell? ⟨v1.heap.size, 3, none⟩ = some (.int .i64 m.lim) := by rw [← hW2]; simp [go_sem]
    have o4 : W2.cell? ⟨v1.heap.size, 4, none⟩ = some (.bool m.dr) := by rw [← hW2]; simp [go_sem]
    have fo0 : W2.frozen? ⟨v1.heap.size, 0, none⟩ = false := by rw [← hW2]; simp [go_sem]
    have fo1 : W2.frozen? ⟨v1.heap.size, 1, none⟩ = false := by rw [← hW2]; simp [go_sem]
    have fo2 : W2.frozen? ⟨v1.heap.size, 2, none⟩ = false := by rw [← hW2]; simp [go_sem]
    have fo3 : W2.frozen? ⟨v1.heap.size, 3, none⟩ = false := by rw [← hW2]; simp [go_sem]
    have fo4 : W2.frozen? ⟨v1.heap.size, 4, none⟩ = false := by rw [← hW2]; simp [go_sem]
    replace HI := hide (HI.out.step (Stp.of (lo := 0) (hi := 0) (show Below v1.heap.size v1 W2 by rw [← hW2]; exact (Below.refl _ _).alloc (Nat.le_refl _) _)) (.inl (Nat.zero_le _)))
    have hs2 : v1.heap.size ≤ W2.heap.size := by omega
    go_wp2_with fail
    refine (hli _).mono ?_
    rintro e w9 ⟨rfl, rfl⟩
    go_wp2_with fail
    obtain ⟨W3, hW3⟩ : ∃ W, (W2.setCell ⟨v1.heap.size, 3, none⟩ (.int .i64 x)) = W := ⟨_, rfl⟩
    have hst : Stp (v1.heap.size) (v1.heap.size + 1) W2 W3 := by rw [← hW3]; exact stp_set1 W2 (v1.heap.size) 3 _
    rw [hW3]
    have o0' : W3.cell? ⟨v1.heap.size, 0, none⟩ = some (.slice (some ⟨g, 0, none⟩) m.c.length m.c.length) := by rw [← hW3]; simp [go_sem, o0, o1, o2, o3, o4]
    have fo0' : W3.frozen? ⟨v1.heap.size, 0, none⟩ = false := by rw [← hW3]; simp [go_sem, fo0, fo1, fo2, fo3, fo4]
    have o1' : W3.cell? ⟨v1.heap.size, 1, none⟩ = some (.slice (some ⟨h, 0, none⟩) m.t.length m.t.length) := by rw [← hW3]; simp [go_sem, o0, o1, o2, o3, o4]
    have fo1' : W3.frozen? ⟨v1.heap.size, 1, none⟩ = false := by rw [← hW3]; simp [go_sem, fo0, fo1, fo2, fo3, fo4]
    have o2' : W3.cell? ⟨v1.heap.size, 2, none⟩ = some (.int .i64 m.id) := by rw [← hW3]; simp [go_sem, o0, o1, o2, o3, o4]
    have fo2' : W3.frozen? ⟨v1.heap.size, 2, none⟩ = false := by rw [← hW3]; simp [go_sem, fo0, fo1, fo2, fo3, fo4]
    have o3' : W3.cell? ⟨v1.heap.size, 3, none⟩ = some (.int .i64 x) := by rw [← hW3]; simp [go_sem, o0, o1, o2, o3, o4]
    have fo3' : W3.frozen? ⟨v1.heap.size, 3, none⟩ = false := by rw [← hW3]; simp [go_sem, fo0, fo1, fo2, fo3, fo4]
    have o4' : W3.cell? ⟨v1.heap.size, 4, none⟩ = some (.bool m.dr) := by rw [← hW3]; simp [go_sem, o0, o1, o2, o3, o4]
    have fo4' : W3.frozen? ⟨v1.heap.size, 4, none⟩ = false := by rw [← hW3]; simp [go_sem, fo0, fo1, fo2, fo3, fo4]
    replace o0 := o0'
    replace fo0 := fo0'
    replace o1 := o1'
    replace fo1 := fo1'
    replace o2 := o2'
    replace fo2 := fo2'
    replace o3 := o3'
    replace fo3 := fo3'
    replace o4 := o4'
    replace fo4 := fo4'
    replace zo : v1.heap.size < W3.heap.size := Nat.lt_of_lt_of_le zo hst.size
    replace z0 : W3.cell? ⟨w.heap.size, 0, none⟩ = some (.int .i64 m.id) := hst.cell z0 zz (by omega)
    replace z1 : W3.cell? ⟨w.heap.size, 1, none⟩ = some (.int .i64 m.lim) := hst.cell z1 zz (by omega)
    replace z2 : W3.cell? ⟨w.heap.size, 2, none⟩ = some (.bool m.dr) := hst.cell z2 zz (by omega)
    replace z3 : W3.cell? ⟨w.heap.size, 3, none⟩ = some (.slice oc m.c.length cc) := hst.cell z3 zz (by omega)
    replace z4 : W3.cell? ⟨w.heap.size, 4, none⟩ = some (.slice ot m.t.length ct) := hst.cell z4 zz (by omega)
    replace zz : w.heap.size < W3.heap.size := Nat.lt_of_lt_of_le zz hst.size
    replace r0 : W3.cell? ⟨w.heap.size + 1, 0, none⟩ = some (.int .i64 0) := hst.cell r0 zr (by omega)
    replace r1 : W3.cell? ⟨w.heap.size + 1, 1, none⟩ = some (.int .i64 0) := hst.cell r1 zr (by omega)
    replace r2 : W3.cell? ⟨w.heap.size + 1, 2, none⟩ = some (.bool false) := hst.cell r2 zr (by omega)
    replace r3 : W3.cell? ⟨w.heap.size + 1, 3, none⟩ = some (.slice none 0 0) := hst.cell r3 zr (by omega)
    replace r4 : W3.cell? ⟨w.heap.size + 1, 4, none⟩ = some (.slice none 0 0) := hst.cell r4 zr (by omega)
    replace fr0 : W3.frozen? ⟨w.heap.size + 1, 0, none⟩ = false := hst.frozen fr0 zr (by omega)
    replace fr1 : W3.frozen? ⟨w.heap.size + 1, 1, none⟩ = false := hst.frozen fr1 zr (by omega)
    replace fr2 : W3.frozen? ⟨w.heap.size + 1, 2, none⟩ = false := hst.frozen fr2 zr (by omega)
    replace fr3 : W3.frozen? ⟨w.heap.size + 1, 3, none⟩ = false := hst.frozen fr3 zr (by omega)
    replace fr4 : W3.frozen? ⟨w.heap.size + 1, 4, none⟩ = false := hst.frozen fr4 zr (by omega)
    replace zr : w.heap.size + 1 < W3.heap.size := Nat.lt_of_lt_of_le zr hst.size
    have HI3 := hide (HI.out.step hst (.inr (Nat.le_refl _)))
    have hs3 := hst.size
    replace HB := hide (HB.out.trans (hst.below (by omega) HB.out.size))
    clear hst
    have HI4 : Hid (OwnG W0.heap.size v1.heap.size W3 (agi (.slice (some ⟨g, 0, none⟩) m.c.length m.c.length) (.slice (some ⟨h, 0, none⟩) m.t.length m.t.length) m.id x m.dr) { m with lim := x }) := by
      obtain ⟨g', h', mid, e, i1, i2, g1, g2⟩ := HI3.out
      injection e with e
      simp at e
      obtain ⟨rfl, rfl⟩ := e
      exact ⟨g, h, mid, rfl, i1, i2, g1, g2⟩
    refine (plain_any _ { m with lim := x } _ _ W3 HI4.out hf).mono ?_
    rintro e v2 ⟨x1, rfl, hin, hb⟩
    obtain ⟨y1, y2, rfl, ⟨p1, c1, rfl, _⟩, ⟨p2, c2, rfl, _⟩⟩ := hin.rd
    have HJ := hide hin
    have hs4 := hb.size
    clear hin
    replace z0 : v2.cell? ⟨w.heap.size, 0, none⟩ = some (.int .i64 m.id) := (hb.cell (p := ⟨w.heap.size, 0, none⟩) zz).trans z0
    replace z1 : v2.cell? ⟨w.heap.size, 1, none⟩ = some (.int .i64 m.lim) := (hb.cell (p := ⟨w.heap.size, 1, none⟩) zz).trans z1
    replace z2 : v2.cell? ⟨w.heap.size, 2, none⟩ = some (.bool m.dr) := (hb.cell (p := ⟨w.heap.size, 2, none⟩) zz).trans z2
    replace z3 : v2.cell? ⟨w.heap.size, 3, none⟩ = some (.slice oc m.c.length cc) := (hb.cell (p := ⟨w.heap.size, 3, none⟩) zz).trans z3
    replace z4 : v2.cell? ⟨w.heap.size, 4, none⟩ = some (.slice ot m.t.length ct) := (hb.cell (p := ⟨w.heap.size, 4, none⟩) zz).trans z4
    replace zz : w.heap.size < v2.heap.size := Nat.lt_of_lt_of_le zz hb.size
    replace r0 : v2.cell? ⟨w.heap.size + 1, 0, none⟩ = some (.int .i64 0) := (hb.cell (p := ⟨w.heap.size + 1, 0, none⟩) zr).trans r0
    replace r1 : v2.cell? ⟨w.heap.size + 1, 1, none⟩ = some (.int .i64 0) := (hb.cell (p := ⟨w.heap.size + 1, 1, none⟩) zr).trans r1
    replace r2 : v2.cell? ⟨w.heap.size + 1, 2, none⟩ = some (.bool false) := (hb.cell (p := ⟨w.heap.size + 1, 2, none⟩) zr).trans r2
    replace r3 : v2.cell? ⟨w.heap.size + 1, 3, none⟩ = some (.slice none 0 0) := (hb.cell (p := ⟨w.heap.size + 1, 3, none⟩) zr).trans r3
    replace r4 : v2.cell? ⟨w.heap.size + 1, 4, none⟩ = some (.slice none 0 0) := (hb.cell (p := ⟨w.heap.size + 1, 4, none⟩) zr).trans r4
    replace fr0 : v2.frozen? ⟨w.heap.size + 1, 0, none⟩ = false := (hb.frozen (p := ⟨w.heap.size + 1, 0, none⟩) zr).trans fr0
    replace fr1 : v2.frozen? ⟨w.heap.size + 1, 1, none⟩ = false := (hb.frozen (p := ⟨w.heap.size + 1, 1, none⟩) zr).trans fr1
    replace fr2 : v2.frozen? ⟨w.heap.size + 1, 2, none⟩ = false := (hb.frozen (p := ⟨w.heap.size + 1, 2, none⟩) zr).trans fr2
    replace fr3 : v2.frozen? ⟨w.heap.size + 1, 3, none⟩ = false := (hb.frozen (p := ⟨w.heap.size + 1, 3, none⟩) zr).trans fr3
    replace fr4 : v2.frozen? ⟨w.heap.size + 1, 4, none⟩ = false := (hb.frozen (p := ⟨w.heap.size + 1, 4, none⟩) zr).trans fr4
    replace zr : w.heap.size + 1 < v2.heap.size := Nat.lt_of_lt_of_le zr hb.size
    replace o0 : v2.cell? ⟨v1.heap.size, 0, none⟩ = some (.slice (some ⟨g, 0, none⟩) m.c.length m.c.length) := (hb.cell (p := ⟨v1.heap.size, 0, none⟩) zo).trans o0
    replace o1 : v2.cell? ⟨v1.heap.size, 1, none⟩ = some (.slice (some ⟨h, 0, none⟩) m.t.length m.t.length) := (hb.cell (p := ⟨v1.heap.size, 1, none⟩) zo).trans o1
    replace o2 : v2.cell? ⟨v1.heap.size, 2, none⟩ = some (.int .i64 m.id) := (hb.cell (p := ⟨v1.heap.size, 2, none⟩) zo).trans o2
    replace o3 : v2.cell? ⟨v1.heap.size, 3, none⟩ = some (.int .i64 x) := (hb.cell (p := ⟨v1.heap.size, 3, none⟩) zo).trans o3
    replace o4 : v2.cell? ⟨v1.heap.size, 4, none⟩ = some (.bool m.dr) := (hb.cell (p := ⟨v1.heap.size, 4, none⟩) zo).trans o4
    replace fo0 : v2.frozen? ⟨v1.heap.size, 0, none⟩ = false := (hb.frozen (p := ⟨v1.heap.size, 0, none⟩) zo).trans fo0
    replace fo1 : v2.frozen? ⟨v1.heap.size, 1, none⟩ = false := (hb.frozen (p := ⟨v1.heap.size, 1, none⟩) zo).trans fo1
    replace fo2 : v2.frozen? ⟨v1.heap.size, 2, none⟩ = false := (hb.frozen (p := ⟨v1.heap.size, 2, none⟩) zo).trans fo2
    replace fo3 : v2.frozen? ⟨v1.heap.size, 3, none⟩ = false := (hb.frozen (p := ⟨v1.heap.size, 3, none⟩) zo).trans fo3
    replace fo4 : v2.frozen? ⟨v1.heap.size, 4, none⟩ = false := (hb.frozen (p := ⟨v1.heap.size, 4, none⟩) zo).trans fo4
    replace zo : v1.heap.size < v2.heap.size := Nat.lt_of_lt_of_le zo hb.size
    replace HB := hide (HB.out.trans (hb.mono HB.out.size))
    clear hb
    clear hW2 hW3
    go_wp2
    refine bodyPost_ret (v := .tuple #[agt m.id x m.dr (.slice p1 m.c.length c1) (.slice p2 m.t.length c2), .bool true]) (by simp [results, Try.results22, go_sem, r0, r1, r2, r3, r4]) rfl ⟨_, by rw [HLB.out]; rfl, ?_, below_set5v HB.out (by omega) _ _ _ _ _⟩
    rw [HOM.out]
    exact (HJ.out.step (stp_set5v _ (w.heap.size + 1) (.int .i64 m.id) (.int .i64 x) (.bool m.dr) (.slice p1 m.c.length c1) (.slice p2 m.t.length c2)) (.inl (by omega))).mono (by omega) (by simp)
  · go_enter Try.func22, Try.ntmps22
    go_wp2_with fail
    refine (HOK.out).mono ?_
    rintro e v1 ⟨o1, n1, k1, o2, n2, k2, i, l, d, rfl, hv, hb⟩
    clear hv
    replace z0 : v1.cell? ⟨w.heap.size, 0, none⟩ = some (.int .i64 m.id) := (hb.cell (p := ⟨w.heap.size, 0, none⟩) zz).trans z0
    replace z1 : v1.cell? ⟨w.heap.size, 1, none⟩ = some (.int .i64 m.lim) := (hb.cell (p := ⟨w.heap.size, 1, none⟩) zz).trans z1
    replace z2 : v1.cell? ⟨w.heap.size, 2, none⟩ = some (.bool m.dr) := (hb.cell (p := ⟨w.heap.size, 2, none⟩) zz).trans z2
    replace z3 : v1.cell? ⟨w.heap.size, 3, none⟩ = some (.slice oc m.c.length cc) := (hb.cell (p := ⟨w.heap.size, 3, none⟩) zz).trans z3
    replace z4 : v1.cell? ⟨w.heap.size, 4, none⟩ = some (.slice ot m.t.length ct) := (hb.cell (p := ⟨w.heap.size, 4, none⟩) zz).trans z4
    replace zz : w.heap.size < v1.heap.size := Nat.lt_of_lt_of_le zz hb.size
    replace r0 : v1.cell? ⟨w.heap.size + 1, 0, none⟩ = some (.int .i64 0) := (hb.cell (p := ⟨w.heap.size + 1, 0, none⟩) zr).trans r0
    replace r1 : v1.cell? ⟨w.heap.size + 1, 1, none⟩ = some (.int .i64 0) := (hb.cell (p := ⟨w.heap.size + 1, 1, none⟩) zr).trans r1
    replace r2 : v1.cell? ⟨w.heap.size + 1, 2, none⟩ = some (.bool false) := (hb.cell (p := ⟨w.heap.size + 1, 2, none⟩) zr).trans r2
    replace r3 : v1.cell? ⟨w.heap.size + 1, 3, none⟩ = some (.slice none 0 0) := (hb.cell (p := ⟨w.heap.size + 1, 3, none⟩) zr).trans r3
    replace r4 : v1.cell? ⟨w.heap.size + 1, 4, none⟩ = some (.slice none 0 0) := (hb.cell (p := ⟨w.heap.size + 1, 4, none⟩) zr).trans r4
    replace fr0 : v1.frozen? ⟨w.heap.size + 1, 0, none⟩ = false := (hb.frozen (p := ⟨w.heap.size + 1, 0, none⟩) zr).trans fr0
    replace fr1 : v1.frozen? ⟨w.heap.size + 1, 1, none⟩ = false := (hb.frozen (p := ⟨w.heap.size + 1, 1, none⟩) zr).trans fr1
    replace fr2 : v1.frozen? ⟨w.heap.size + 1, 2, none⟩ = false := (hb.frozen (p := ⟨w.heap.size + 1, 2, none⟩) zr).trans fr2
    replace fr3 : v1.frozen? ⟨w.heap.size + 1, 3, none⟩ = false := (hb.frozen (p := ⟨w.heap.size + 1, 3, none⟩) zr).trans fr3
    replace fr4 : v1.frozen? ⟨w.heap.size + 1, 4, none⟩ = false := (hb.frozen (p := ⟨w.heap.size + 1, 4, none⟩) zr).trans fr4
    replace zr : w.heap.size + 1 < v1.heap.size := Nat.lt_of_lt_of_le zr hb.size
    replace HB := hide (HB.out.trans (hb.mono HB.out.size))
    clear hb
    obtain ⟨W2, hW2⟩ : ∃ W, (v1.alloc (.cells #[.slice o1 n1 k1, .slice o2 n2 k2, .int .i64 i, .int .i64 l, .bool d] 83)) = W := ⟨_, rfl⟩
    have hb_W2 : Below v1.heap.size v1 W2 := by rw [← hW2]; exact ((Below.refl _ _).alloc (Nat.le_refl _) _)
    replace z0 : W2.cell? ⟨w.heap.size, 0, none⟩ = some (.int .i64 m.id) := (hb_W2.cell (p := ⟨w.heap.size, 0, none⟩) zz).trans z0
    replace z1 : W2.cell? ⟨w.heap.size, 1, none⟩ = some (.int .i64 m.lim) := (hb_W2.cell (p := ⟨w.heap.size, 1, none⟩) zz).trans z1
    replace z2 : W2.cell? ⟨w.heap.size, 2, none⟩ = some (.bool m.dr) := (hb_W2.cell (p := ⟨w.heap.size, 2, none⟩) zz).trans z2
    replace z3 : W2.cell? ⟨w.heap.size, 3, none⟩ = some (.slice oc m.c.length cc) := (hb_W2.cell (p := ⟨w.heap.size, 3, none⟩) zz).trans z3
    replace z4 : W2.cell? ⟨w.heap.size, 4, none⟩ = some (.slice ot m.t.length ct) := (hb_W2.cell (p := ⟨w.heap.size, 4, none⟩) zz).trans z4
    replace zz : w.heap.size < W2.heap.size := Nat.lt_of_lt_of_le zz hb_W2.size
    replace r0 : W2.cell? ⟨w.heap.size + 1, 0, none⟩ = some (.int .i64 0) := (hb_W2.cell (p := ⟨w.heap.size + 1, 0, none⟩) zr).trans r0
    replace r1 : W2.cell? ⟨w.heap.size + 1, 1, none⟩ = some (.int .i64 0) := (hb_W2.cell (p := ⟨w.heap.size + 1, 1, none⟩) zr).trans r1
    replace r2 : W2.cell? ⟨w.heap.size + 1, 2, none⟩ = some (.bool false) := (hb_W2.cell (p := ⟨w.heap.size + 1, 2, none⟩) zr).trans r2
    replace r3 : W2.cell? ⟨w.heap.size + 1, 3, none⟩ = some (.slice none 0 0) := (hb_W2.cell (p := ⟨w.heap.size + 1, 3, none⟩) zr).trans r3
    replace r4 : W2.cell? ⟨w.heap.size + 1, 4, none⟩ = some (.slice none 0 0) := (hb_W2.cell (p := ⟨w.heap.size + 1, 4, none⟩) zr).trans r4
    replace fr0 : W2.frozen? ⟨w.heap.size + 1, 0, none⟩ = false := (hb_W2.frozen (p := ⟨w.heap.size + 1, 0, none⟩) zr).trans fr0
    replace fr1 : W2.frozen? ⟨w.heap.size + 1, 1, none⟩ = false := (hb_W2.frozen (p := ⟨w.heap.size + 1, 1, none⟩) zr).trans fr1
    replace fr2 : W2.frozen? ⟨w.heap.size + 1, 2, none⟩ = false := (hb_W2.frozen (p := ⟨w.heap.size + 1, 2, none⟩) zr).trans fr2
    replace fr3 : W2.frozen? ⟨w.heap.size + 1, 3, none⟩ = false := (hb_W2.frozen (p := ⟨w.heap.size + 1, 3, none⟩) zr).trans fr3
    replace fr4 : W2.frozen? ⟨w.heap.size + 1, 4, none⟩ = false := (hb_W2.frozen (p := ⟨w.heap.size + 1, 4, none⟩) zr).trans fr4
    replace zr : w.heap.size + 1 < W2.heap.size := Nat.lt_of_lt_of_le zr hb_W2.size
    replace HB := hide (HB.out.trans (hb_W2.mono HB.out.size))
    clear hb_W2
    have zo : v1.heap.size < W2.heap.size := by rw [← hW2]; simp
    have o0 : W2.cell? ⟨v1.heap.size, 0, none⟩ = some (.slice o1 n1 k1) := by rw [← hW2]; simp [go_sem]
    have o1 : W2.cell? ⟨v1.heap.size, 1, none⟩ = some (.slice o2 n2 k2) := by rw [← hW2]; simp [go_sem]
    have o2 : W2.cell? ⟨v1.heap.size, 2, none⟩ = some (.int .i64 i) := by rw [← hW2]; simp [go_sem]
    have o3 : W2.cell? ⟨v1.heap.size, 3, none⟩ = some (.int .i64 l) := by rw [← hW2]; simp [go_sem]
    have o4 : W2.cell? ⟨v1.heap.size, 4, none⟩ = some (.bool d) := by rw [← hW2]; simp [go_sem]
    cases ok <;> cases bl <;> first | (exfalso; simp at hall; done) | skip
    all_goals (
      clear hall
      go_wp2_with (go_at_call 58; refine (hli _).mono ?_; rintro e w9 ⟨rfl, rfl⟩)
      refine bodyPost_ret (v := .tuple #[agt 0 0 false (.slice none 0 0) (.slice none 0 0), .bool false]) (by simp [results, Try.results22, go_sem, r0, r1, r2, r3, r4]) rfl ⟨_, by rw [HLB.out]; rfl, ?_, below_set5v HB.out (by omega) _ _ _ _ _⟩
      rw [HOM.out]
      exact am0_in (by simp; omega))

end Go.Proofs.Ythcbhfgbplgfiaa
