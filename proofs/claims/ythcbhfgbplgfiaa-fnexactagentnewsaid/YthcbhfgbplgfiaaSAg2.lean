/- The program's agent, laid out plainly; its AgentOk. -/
import Derived.Test.YthcbhfgbplgfiaaSAg
namespace Go.Proofs.Ythcbhfgbplgfiaa
open Go.ChangeShapes Go.WideShapes Go.ChangeAt Go.RowKit Go.Joins
set_option linter.unusedVariables false
set_option linter.unusedSimpArgs false

set_option maxHeartbeats 4000000 in
theorem plain_any (v : Value) (m : Am) (lo hi : Nat) (w : World) (hO : OwnG lo hi w v m) (hf : m.c.length + m.t.length ≤ 1048576) :
    Calls Try.prog 49 #[v] w fun e w' => ∃ v', e = .returned v' ∧ InA w.heap.size w'.heap.size w' v' m ∧ Below w.heap.size w w' := by
  obtain ⟨g, h, mid, rfl, i1, i2, hm1, hm2⟩ := hO
  have zg := (i1.1.lt g rfl).2
  have zh := (i2.1.lt h rfl).2
  have HC1 := hide (rd_of_own i1.1 rfl)
  have HC2 := hide (rd_of_own i2.1 rfl)
  clear i1 i2 hm1 hm2
  obtain ⟨W0, hW0⟩ : ∃ W, ((w.alloc (.cells #[.slice (some ⟨g, 0, none⟩) m.c.length m.c.length, .slice (some ⟨h, 0, none⟩) m.t.length m.t.length, .int .i64 m.id, .int .i64 m.lim, .bool m.dr] 83)).alloc (.cells #[.int .i64 0, .int .i64 0, .bool false, .slice none 0 0, .slice none 0 0] 27)) = W := ⟨_, rfl⟩
  have hb_W0 : Below w.heap.size w W0 := by rw [← hW0]; exact (((Below.refl _ _).alloc (Nat.le_refl _) _).alloc (by simp <;> omega) _)
  have HB := hide hb_W0
  clear hb_W0
  have zz : w.heap.size < W0.heap.size := by rw [← hW0]; simp <;> omega
  have z0 : W0.cell? ⟨w.heap.size, 0, none⟩ = some (.slice (some ⟨g, 0, none⟩) m.c.length m.c.length) := by rw [← hW0]; simp [go_sem]
  have z1 : W0.cell? ⟨w.heap.size, 1, none⟩ = some (.slice (some ⟨h, 0, none⟩) m.t.length m.t.length) := by rw [← hW0]; simp [go_sem]
  have z2 : W0.cell? ⟨w.heap.size, 2, none⟩ = some (.int .i64 m.id) := by rw [← hW0]; simp [go_sem]
  have z3 : W0.cell? ⟨w.heap.size, 3, none⟩ = some (.int .i64 m.lim) := by rw [← hW0]; simp [go_sem]
  have z4 : W0.cell? ⟨w.heap.size, 4, none⟩ = some (.bool m.dr) := by rw [← hW0]; simp [go_sem]
  have zr : w.heap.size + 1 < W0.heap.size := by rw [← hW0]; simp
  have r0 : W0.cell? ⟨w.heap.size + 1, 0, none⟩ = some (.int .i64 0) := by rw [← hW0]; simp [go_sem]
  have r1 : W0.cell? ⟨w.heap.size + 1, 1, none⟩ = some (.int .i64 0) := by rw [← hW0]; simp [go_sem]
  have r2 : W0.cell? ⟨w.heap.size + 1, 2, none⟩ = some (.bool false) := by rw [← hW0]; simp [go_sem]
  have r3 : W0.cell? ⟨w.heap.size + 1, 3, none⟩ = some (.slice none 0 0) := by rw [← hW0]; simp [go_sem]
  have r4 : W0.cell? ⟨w.heap.size + 1, 4, none⟩ = some (.slice none 0 0) := by rw [← hW0]; simp [go_sem]
  have fr0 : W0.frozen? ⟨w.heap.size + 1, 0, none⟩ = false := by rw [← hW0]; simp [go_sem]
  have fr1 : W0.frozen? ⟨w.heap.size + 1, 1, none⟩ = false := by rw [← hW0]; simp [go_sem]
  have fr2 : W0.frozen? ⟨w.heap.size + 1, 2, none⟩ = false := by rw [← hW0]; simp [go_sem]
  have fr3 : W0.frozen? ⟨w.heap.size + 1, 3, none⟩ = false := by rw [← hW0]; simp [go_sem]
  have fr4 : W0.frozen? ⟨w.heap.size + 1, 4, none⟩ = false := by rw [← hW0]; simp [go_sem]
  have hz1 : w.heap.size + 1 < W0.heap.size := zr
  have HBd := hide (Below.drew HB.out)
  have h1 := plainTable_any g 0 m.c.length m.c W0.drew (Nat.lt_of_lt_of_le zg HBd.out.size) (fun i hi j hj => (HBd.out.cell (p := ⟨g, 0 + i * layS.k + j, none⟩) zg).trans (HC1.out i hi j hj)) (by omega)
  have h2 := fun W (hb : Below w.heap.size w W) => plainTable_any h 0 m.t.length m.t W (Nat.lt_of_lt_of_le zh hb.size) (fun i hi j hj => (hb.cell (p := ⟨h, 0 + i * layS.k + j, none⟩) zh).trans (HC2.out i hi j hj)) (by omega)
  have H1 := hide h1
  have H2 := hide h2
  clear h1 h2
  go_enter Try.func49, Try.ntmps49
  go_wp2
  go_region_held3 (fun w' => w'.cell? ⟨w.heap.size, 0, none⟩ = some (.slice (some ⟨g, 0, none⟩) m.c.length m.c.length) ∧ w'.cell? ⟨w.heap.size, 1, none⟩ = some (.slice (some ⟨h, 0, none⟩) m.t.length m.t.length) ∧ w'.cell? ⟨w.heap.size, 2, none⟩ = some (.int .i64 m.id) ∧ w'.cell? ⟨w.heap.size, 3, none⟩ = some (.int .i64 m.lim) ∧ w'.cell? ⟨w.heap.size, 4, none⟩ = some (.bool m.dr)) (first | with_reducible exact ⟨qz0, qz1, qz2, qz3, qz4⟩ | with_reducible exact ⟨pz0, pz1, pz2, pz3, pz4⟩ | with_reducible exact ⟨set5v_cell qz0 (Nat.lt_succ_self _), set5v_cell qz1 (Nat.lt_succ_self _), set5v_cell qz2 (Nat.lt_succ_self _), set5v_cell qz3 (Nat.lt_succ_self _), set5v_cell qz4 (Nat.lt_succ_self _)⟩ | exact ⟨z0, z1, z2, z3, z4⟩ | go_keep) (first | (go_at_call 88; (with_reducible refine H1.out.mono ?_); rintro e v1 ⟨g1, rfl, hw1, hb⟩; have hp1 : Below W0.heap.size W0 v1 := (Below.drew (Below.refl _ _)).trans hb; have HB1 := hide (HB.out.trans (hp1.mono HB.out.size)); have HO1 := hide hw1; clear hb hw1; have pz0 := (hp1.cell (p := ⟨w.heap.size, 0, none⟩) zz).trans z0; have pz1 := (hp1.cell (p := ⟨w.heap.size, 1, none⟩) zz).trans z1; have pz2 := (hp1.cell (p := ⟨w.heap.size, 2, none⟩) zz).trans z2; have pz3 := (hp1.cell (p := ⟨w.heap.size, 3, none⟩) zz).trans z3; have pz4 := (hp1.cell (p := ⟨w.heap.size, 4, none⟩) zz).trans z4; have pr0 := (hp1.cell (p := ⟨w.heap.size + 1, 0, none⟩) zr).trans r0; have pr1 := (hp1.cell (p := ⟨w.heap.size + 1, 1, none⟩) zr).trans r1; have pr2 := (hp1.cell (p := ⟨w.heap.size + 1, 2, none⟩) zr).trans r2; have pr3 := (hp1.cell (p := ⟨w.heap.size + 1, 3, none⟩) zr).trans r3; have pr4 := (hp1.cell (p := ⟨w.heap.size + 1, 4, none⟩) zr).trans r4; have pf0 := (hp1.frozen (p := ⟨w.heap.size + 1, 0, none⟩) zr).trans fr0; have pf1 := (hp1.frozen (p := ⟨w.heap.size + 1, 1, none⟩) zr).trans fr1; have pf2 := (hp1.frozen (p := ⟨w.heap.size + 1, 2, none⟩) zr).trans fr2; have pf3 := (hp1.frozen (p := ⟨w.heap.size + 1, 3, none⟩) zr).trans fr3; have pf4 := (hp1.frozen (p := ⟨w.heap.size + 1, 4, none⟩) zr).trans fr4) | (go_at_call 88; (with_reducible refine (H2.out v1 HB1.out).mono ?_); rintro e v2 ⟨g2, rfl, hw2, hb⟩; have hp2 : Below W0.heap.size W0 v2 := hp1.trans (hb.mono hp1.size); have HK1 := hide (own_kept HO1.out hb); have HO2 := hide hw2; have HB2 := hide (HB1.out.trans (hb.mono HB1.out.size)); have hs21 := hb.size; clear hb hw2; have qz0 := (hp2.cell (p := ⟨w.heap.size, 0, none⟩) zz).trans z0; have qz1 := (hp2.cell (p := ⟨w.heap.size, 1, none⟩) zz).trans z1; have qz2 := (hp2.cell (p := ⟨w.heap.size, 2, none⟩) zz).trans z2; have qz3 := (hp2.cell (p := ⟨w.heap.size, 3, none⟩) zz).trans z3; have qz4 := (hp2.cell (p := ⟨w.heap.size, 4, none⟩) zz).trans z4; have qr0 := (hp2.cell (p := ⟨w.heap.size + 1, 0, none⟩) zr).trans r0; have qr1 := (hp2.cell (p := ⟨w.heap.size + 1, 1, none⟩) zr).trans r1; have qr2 := (hp2.cell (p := ⟨w.heap.size + 1, 2, none⟩) zr).trans r2; have qr3 := (hp2.cell (p := ⟨w.heap.size + 1, 3, none⟩) zr).trans r3; have qr4 := (hp2.cell (p := ⟨w.heap.size + 1, 4, none⟩) zr).trans r4; have qf0 := (hp2.frozen (p := ⟨w.heap.size + 1, 0, none⟩) zr).trans fr0; have qf1 := (hp2.frozen (p := ⟨w.heap.size + 1, 1, none⟩) zr).trans fr1; have qf2 := (hp2.frozen (p := ⟨w.heap.size + 1, 2, none⟩) zr).trans fr2; have qf3 := (hp2.frozen (p := ⟨w.heap.size + 1, 3, none⟩) zr).trans fr3; have qf4 := (hp2.frozen (p := ⟨w.heap.size + 1, 4, none⟩) zr).trans fr4) | fail)
  have hs10 := hp1.size
  go_wp2
  refine bodyPost_ret (v := agt m.id m.lim m.dr (.slice (some ⟨g1, 0, none⟩) m.c.length m.c.length) (.slice (some ⟨g2, 0, none⟩) m.t.length m.t.length)) (by simp [results, Try.results49, go_sem, qr0, qr1, qr2, qr3, qr4]) rfl ⟨_, rfl, ?_, ?_⟩
  · refine InA.mono (a := W0.heap.size) (InA.step (lo := w.heap.size + 1) (hi := w.heap.size + 1 + 1) (w := v2) ⟨_, _, v1.heap.size, rfl, ⟨HK1.out, fun b e => ?_⟩, InRow.of HO2.out, hs10, hs21⟩ (stp_set5v v2 (w.heap.size + 1) _ _ _ _ _) (.inl (by omega))) (by omega) (by rw [set5v_size]; exact Nat.le_refl _)
    exact (HO1.out.lt b e).2
  · exact below_set5v HB2.out (by omega) _ _ _ _ _

set_option maxHeartbeats 2000000 in
theorem implAgentOk_sh (v : Value) (m : Am) (w : World) (hR : RdA w.heap.size w v m) (hf : m.c.length + m.t.length ≤ 1048576) :
    Calls Try.prog 16 #[v] w fun e w' => e = .returned (.bool (agentOkB m)) ∧ Below w.heap.size w w' := by
  have hR0 := hR
  obtain ⟨vc, vt, rfl, ⟨oc, cc, rfl, rc⟩, ⟨ot, ct, rfl, rt⟩⟩ := hR0
  clear rc rt
  obtain ⟨W0, hW0⟩ : ∃ W, (w.alloc (.cells #[.int .i64 m.id, .int .i64 m.lim, .bool m.dr, .slice oc m.c.length cc, .slice ot m.t.length ct] 27)) = W := ⟨_, rfl⟩
  have hb_W0 : Below w.heap.size w W0 := by rw [← hW0]; exact ((Below.refl _ _).alloc (Nat.le_refl _) _)
  have HB := hide hb_W0
  clear hb_W0
  have zz : w.heap.size < W0.heap.size := by rw [← hW0]; simp
  have z0 : W0.cell? ⟨w.heap.size, 0, none⟩ = some (.int .i64 m.id) := by rw [← hW0]; simp [go_sem]
  have z1 : W0.cell? ⟨w.heap.size, 1, none⟩ = some (.int .i64 m.lim) := by rw [← hW0]; simp [go_sem]
  have z2 : W0.cell? ⟨w.heap.size, 2, none⟩ = some (.bool m.dr) := by rw [← hW0]; simp [go_sem]
  have z3 : W0.cell? ⟨w.heap.size, 3, none⟩ = some (.slice oc m.c.length cc) := by rw [← hW0]; simp [go_sem]
  have z4 : W0.cell? ⟨w.heap.size, 4, none⟩ = some (.slice ot m.t.length ct) := by rw [← hW0]; simp [go_sem]
  have h1 := agentFrom_any _ m W0 ((hR.kept HB.out (Nat.le_refl _)).le HB.out.size) hf
  go_enter Try.func16, Try.ntmps16
  go_wp2_with fail
  refine (h1).mono ?_
  rintro e v1 ⟨o1, n1, c1, o2, n2, c2, i, l, d, rfl, hv, hb⟩
  clear hv
  replace z0 : v1.cell? ⟨w.heap.size, 0, none⟩ = some (.int .i64 m.id) := (hb.cell (p := ⟨w.heap.size, 0, none⟩) zz).trans z0
  replace z1 : v1.cell? ⟨w.heap.size, 1, none⟩ = some (.int .i64 m.lim) := (hb.cell (p := ⟨w.heap.size, 1, none⟩) zz).trans z1
  replace z2 : v1.cell? ⟨w.heap.size, 2, none⟩ = some (.bool m.dr) := (hb.cell (p := ⟨w.heap.size, 2, none⟩) zz).trans z2
  replace z3 : v1.cell? ⟨w.heap.size, 3, none⟩ = some (.slice oc m.c.length cc) := (hb.cell (p := ⟨w.heap.size, 3, none⟩) zz).trans z3
  replace z4 : v1.cell? ⟨w.heap.size, 4, none⟩ = some (.slice ot m.t.length ct) := (hb.cell (p := ⟨w.heap.size, 4, none⟩) zz).trans z4
  replace zz : w.heap.size < v1.heap.size := Nat.lt_of_lt_of_le zz hb.size
  replace HB := hide (HB.out.trans (hb.mono HB.out.size))
  clear hb
  clear h1
  go_wp2
  go_ret
  exact ⟨rfl, HB.out.alloc HB.out.size _⟩

end Go.Proofs.Ythcbhfgbplgfiaa
