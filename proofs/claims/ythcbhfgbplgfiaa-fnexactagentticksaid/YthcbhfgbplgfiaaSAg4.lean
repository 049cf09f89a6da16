/- AgentTick, on both sides. -/
import Derived.Test.YthcbhfgbplgfiaaSAg3
import Derived.Test.YthcbhfgbplgfiaaSExp2
namespace Go.Proofs.Ythcbhfgbplgfiaa
open Go.ChangeShapes Go.WideShapes Go.ChangeAt Go.RowKit Go.Joins
set_option linter.unusedVariables false
set_option linter.unusedSimpArgs false

theorem Stp.same {lo hi b j : Nat} {w w' : World} (s : Stp lo hi w w') (hb : b < w.heap.size) (hd : b < lo ∨ hi ≤ b) : w'.cell? ⟨b, j, none⟩ = w.cell? ⟨b, j, none⟩ := by
  simp only [World.cell?, s.block b hb hd]
theorem Stp.wide' {a b lo hi : Nat} {w w' : World} (h : Stp a b w w') (h1 : lo ≤ a) (h2 : b ≤ hi) : Stp lo hi w w' := ⟨h.os, h.tape, h.output, h.size, fun k hk hn => h.block k hk (by omega)⟩
theorem expGo_le (now : Int) : ∀ (f : Nat) (l : List Sl) (c : Nat), (expGo now f l c).2 ≤ c + f
  | 0, l, c => Nat.le_refl _
  | f + 1, l, c => by
    unfold expGo
    cases dueAt l now with
    | none => simp
    | some i => exact Nat.le_trans (expGo_le now f (dropAtL l i) (c + 1)) (by omega)
theorem expL_le {l : List Sl} (now : Int) (h : l.length ≤ 16) : (expL l now).2 ≤ 17 := by
  have h1 := expGo_le now (cnt l + 1) l 0
  have h2 := cnt_le l
  unfold expL
  omega
def tickA (m : Am) (now : Int) : Am := { m with c := (expL m.c now).1, t := (expL m.t now).1 }
def tickB (m : Am) (now : Int) : Bool := agentOkB m && (decide (0 ≤ now) && decide (now ≤ 100000))
def tickM (m : Am) (now : Int) : Am := if tickB m now = true then tickA m now else am0
def tickN (m : Am) (now : Int) : Int := if tickB m now = true then ((expL m.c now).2 : Nat) + ((expL m.t now).2 : Nat) else -1
theorem tickM_fit {m : Am} (now : Int) (h : m.c.length + m.t.length ≤ 1048576) : (tickM m now).c.length + (tickM m now).t.length ≤ 1048576 := by
  unfold tickM
  split
  · unfold tickA; simp only [expL_length]; exact h
  · decide
theorem agent_tabs {m : Am} (h : agentOkB m = true) : tableOkB m.c = true ∧ tableOkB m.t = true ∧ m.c.length ≤ 16 ∧ m.t.length ≤ 16 := by
  have h := agentOkB_parts.1 h
  exact ⟨h.2.2.2.2.1, h.2.2.2.2.2.1, (tableOkB_iff.1 h.2.2.2.2.1).2.1, (tableOkB_iff.1 h.2.2.2.2.2.1).2.1⟩
theorem l6now_any (n : Int) (w : World) : Calls Try.prog 71 #[.int .i64 n] w fun e w' => e = .returned (.bool (decide (0 ≤ n) && decide (n ≤ 100000))) ∧ w = w' := by
  go_enter Try.func71, Try.ntmps71
  go_wp2
  all_goals go_ret
  all_goals refine ⟨ret_bool ?_, rfl⟩
  all_goals first | (simp [*]; done) | (simp; omega)
theorem isStampA_any (n : Int) (w : World) : Calls Try.prog 46 #[.int .i64 n] w fun e w' => e = .returned (.bool (decide (0 ≤ n) && decide (n ≤ 100000))) ∧ w = w' := by
  go_enter Try.func46, Try.ntmps46
  go_wp2
  all_goals go_ret
  all_goals refine ⟨ret_bool ?_, rfl⟩
  all_goals first | (simp [*]; done) | (simp; omega)

set_option maxHeartbeats 4000000 in
theorem l6tick_any (v : Value) (m : Am) (now : Int) (w : World) (hR : RdA w.heap.size w v m) (h1 : tableOkB m.c = true) (h2 : tableOkB m.t = true) (hf : m.c.length + m.t.length ≤ 1048576) :
    Calls Try.prog 72 #[v, .int .i64 now] w fun e w' => ∃ o1 c1 o2 c2, e = .returned (.tuple #[agt m.id m.lim m.dr (.slice o1 m.c.length c1) (.slice o2 m.t.length c2), .int .i64 (((expL m.c now).2 : Nat) + ((expL m.t now).2 : Nat))]) ∧ RdA w'.heap.size w' (agt m.id m.lim m.dr (.slice o1 m.c.length c1) (.slice o2 m.t.length c2)) (tickA m now) ∧ Below w.heap.size w w' := by
  have hc1 := (tableOkB_iff.1 h1).1
  have ht1 := (tableOkB_iff.1 h2).1
  have hb1 := expL_le now (tableOkB_iff.1 h1).2.1
  have hb2 := expL_le now (tableOkB_iff.1 h2).2.1
  have el1 := expL_length m.c now
  have el2 := expL_length m.t now
  obtain ⟨vc, vt, rfl, ⟨oc, cc, rfl, rc⟩, ⟨ot, ct, rfl, rt⟩⟩ := hR
  rcases rc with hrc | ⟨bc, fc, rfl, hbc, hcc⟩
  · rw [hrc] at hc1; simp at hc1
  rcases rt with hrt | ⟨bt, ft, rfl, hbt, hct⟩
  · rw [hrt] at ht1; simp at ht1
  have HC := hide hcc
  have HT := hide hct
  clear hcc hct
  obtain ⟨W0, hW0⟩ : ∃ W, ((w.alloc (.cells #[.int .i64 m.id, .int .i64 m.lim, .bool m.dr, .slice (some ⟨bc, fc, none⟩) m.c.length cc, .slice (some ⟨bt, ft, none⟩) m.t.length ct] 27)).alloc (.cells #[.int .i64 0, .int .i64 0, .bool false, .slice none 0 0, .slice none 0 0] 27)) = W := ⟨_, rfl⟩
  have hb_W0 : Below w.heap.size w W0 := by rw [← hW0]; exact (((Below.refl _ _).alloc (Nat.le_refl _) _).alloc (by simp <;> omega) _)
  have HB := hide hb_W0
  clear hb_W0
  have zz : w.heap.size < W0.heap.size := by rw [← hW0]; simp <;> omega
  have z0 : W0.cell? ⟨w.heap.size, 0, none⟩ = some (.int .i64 m.id) := by rw [← hW0]; simp [go_sem]
  have z1 : W0.cell? ⟨w.heap.size, 1, none⟩ = some (.int .i64 m.lim) := by rw [← hW0]; simp [go_sem]
  have z2 : W0.cell? ⟨w.heap.size, 2, none⟩ = some (.bool m.dr) := by rw [← hW0]; simp [go_sem]
  have z3 : W0.cell? ⟨w.heap.size, 3, none⟩ = some (.slice (some ⟨bc, fc, none⟩) m.c.length cc) := by rw [← hW0]; simp [go_sem]
  have z4 : W0.cell? ⟨w.heap.size, 4, none⟩ = some (.slice (some ⟨bt, ft, none⟩) m.t.length ct) := by rw [← hW0]; simp [go_sem]
  have fz0 : W0.frozen? ⟨w.heap.size, 0, none⟩ = false := by rw [← hW0]; simp [go_sem]
  have fz1 : W0.frozen? ⟨w.heap.size, 1, none⟩ = false := by rw [← hW0]; simp [go_sem]
  have fz2 : W0.frozen? ⟨w.heap.size, 2, none⟩ = false := by rw [← hW0]; simp [go_sem]
  have fz3 : W0.frozen? ⟨w.heap.size, 3, none⟩ = false := by rw [← hW0]; simp [go_sem]
  have fz4 : W0.frozen? ⟨w.heap.size, 4, none⟩ = false := by rw [← hW0]; simp [go_sem]
  have zr : w.heap.size + 1 < W0.heap.size := by rw [← hW0]; simp
  have r0 : W0.cell? ⟨w.heap.size + 1, 0, none⟩ = some (.int .i64 0) := by rw [← hW0]; simp [go_sem]
  have r1 : W0.cell? ⟨w.heap.size + 1, 1, none⟩ = some (.int .i64 0) := by rw [← hW0]; simp [go_sem]
  have r2 : W0.cell? ⟨w.heap.size + 1, 2, none⟩ = some (.bool false) := by rw [← hW0]; simp [go_sem]
  have r3 : W0.cell? ⟨w.heap.size + 1, 3, none⟩ = some (.slice none 0 0) := by rw [← hW0]; simp [go_sem]
  have r4 : W0.cell? ⟨w.heap.size + 1, 4, none⟩ = some (.slice none 0 0) := by rw [← hW0]; simp [go_sem]
  have fr0 : W0.frozen? ⟨w.heap.size + 1, 0, none⟩ = false := by rw [← hW0]; simp [go_sem]
  have fr1 : W0.frozen? ⟨w.heap.size + 1, 1, none⟩ = false := by rw [← hW0]; simp [go_sem]
  have fr2 : W0.frozen? ⟨w.heap.size + 1, 2, none⟩ = false := by rw [← hW0]; simp [go_sem]
  have fr3 : W0.frozen? ⟨w.heap.size + 1, 3, none⟩ = false := by rw [← hW0]; simp [go_sem]
  have fr4 : W0.frozen? ⟨w.heap.size + 1, 4, none⟩ = false := by rw [← hW0]; simp [go_sem]
  have H1 := hide (fun W (hb : Below w.heap.size w W) => l5expireW_any bc fc cc m.c now W h1 (Nat.lt_of_lt_of_le hbc hb.size) (fun i hi j hj => (hb.cell (p := ⟨bc, fc + i * layS.k + j, none⟩) hbc).trans (HC.out i hi j hj)))
  have H2 := hide (fun W (hb : Below w.heap.size w W) => l5expireW_any bt ft ct m.t now W h2 (Nat.lt_of_lt_of_le hbt hb.size) (fun i hi j hj => (hb.cell (p := ⟨bt, ft + i * layS.k + j, none⟩) hbt).trans (HT.out i hi j hj)))
  have hz0 := zr
  have HTA := hide (show tickA m now = { m with c := (expL m.c now).1, t := (expL m.t now).1 } from rfl)
  generalize expL m.c now = E1 at *
  generalize expL m.t now = E2 at *
  obtain ⟨l1, n1⟩ := E1
  obtain ⟨l2, n2⟩ := E2
  simp only at el1 el2 hb1 hb2 ⊢
  clear h1 h2
  go_enter Try.func72, Try.ntmps72
  go_wp2_with fail
  refine (H1.out W0 HB.out).mono ?_
  rintro e v1 ⟨b1, f1, c1, rfl, hz1, hrd, hb, hq1⟩
  have HR1 := hide hrd
  have hs0 := hb.size
  clear hrd
  replace z0 : v1.cell? ⟨w.heap.size, 0, none⟩ = some (.int .i64 m.id) := (hb.cell (p := ⟨w.heap.size, 0, none⟩) zz).trans z0
  replace z1 : v1.cell? ⟨w.heap.size, 1, none⟩ = some (.int .i64 m.lim) := (hb.cell (p := ⟨w.heap.size, 1, none⟩) zz).trans z1
  replace z2 : v1.cell? ⟨w.heap.size, 2, none⟩ = some (.bool m.dr) := (hb.cell (p := ⟨w.heap.size, 2, none⟩) zz).trans z2
  replace z3 : v1.cell? ⟨w.heap.size, 3, none⟩ = some (.slice (some ⟨bc, fc, none⟩) m.c.length cc) := (hb.cell (p := ⟨w.heap.size, 3, none⟩) zz).trans z3
  replace z4 : v1.cell? ⟨w.heap.size, 4, none⟩ = some (.slice (some ⟨bt, ft, none⟩) m.t.length ct) := (hb.cell (p := ⟨w.heap.size, 4, none⟩) zz).trans z4
  replace fz0 : v1.frozen? ⟨w.heap.size, 0, none⟩ = false := (hb.frozen (p := ⟨w.heap.size, 0, none⟩) zz).trans fz0
  replace fz1 : v1.frozen? ⟨w.heap.size, 1, none⟩ = false := (hb.frozen (p := ⟨w.heap.size, 1, none⟩) zz).trans fz1
  replace fz2 : v1.frozen? ⟨w.heap.size, 2, none⟩ = false := (hb.frozen (p := ⟨w.heap.size, 2, none⟩) zz).trans fz2
  replace fz3 : v1.frozen? ⟨w.heap.size, 3, none⟩ = false := (hb.frozen (p := ⟨w.heap.size, 3, none⟩) zz).trans fz3
  replace fz4 : v1.frozen? ⟨w.heap.size, 4, none⟩ = false := (hb.frozen (p := ⟨w.heap.size, 4, none⟩) zz).trans fz4
  replace zz : w.heap.size < v1.heap.size := Nat.lt_of_lt_of_le zz hb.size
  replace r0 : v1.cell? ⟨w.heap.size + 1, 0, none⟩ = some (.int .i64 0) := (hb.cell (p := ⟨w.heap.size + 1, 0, none⟩) zr).trans r0
  replace r1 : v1.cell? ⟨w.heap.size + 1, 1, none⟩ = some (.int .i64 0) := (hb.cell (p := ⟨w.heap.size + 1, 1, none⟩) zr).trans r1
  replace r2 : v1.cell? ⟨w.heap.size + 1, 2, none⟩ = some (.bool false) := (hb.cell (p := ⟨w.heap.size + 1, 2, none⟩) zr).trans r2
  replace r3 : v1.cell? ⟨w.heap.size + 1, 3, none⟩ = some (.slice none 0 0) := (hb.cell (p := ⟨w.heap.size + 1, 3, none⟩) zr).trans r3
  replace r4 : v1.cell? ⟨w.heap.size + 1, 4, none⟩ = some (.slice none 0 0) := (hb.cell (p := ⟨w.heap.size + 1, 4, none⟩) zr).trans r4
  replace fr0 : v1.frozen? ⟨w.heap.size + 1, 0, none⟩ = false := (hb.frozen (p := ⟨w.heap.size + 1, 0, none⟩) zr).trans fr0
  replace fr1 : v1.frozen? ⟨w.heap.size + 1, 1, none⟩ = false := (hb.frozen (p := ⟨w.heap.size + 1, 1, none⟩) zr).trans fr1
  replace fr2 : v1.frozen? ⟨w.heap.size + 1, 2, none⟩ = false := (hb.frozen (p := ⟨w.heap.size + 1, 2, none⟩) zr).trans fr2
  replace fr3 : v1.frozen? ⟨w.heap.size + 1, 3, none⟩ = false := (hb.frozen (p := ⟨w.heap.size + 1, 3, none⟩) zr).trans fr3
  replace fr4 : v1.frozen? ⟨w.heap.size + 1, 4, none⟩ = false := (hb.frozen (p := ⟨w.heap.size + 1, 4, none⟩) zr).trans fr4
  replace zr : w.heap.size + 1 < v1.heap.size := Nat.lt_of_lt_of_le zr hb.size
  replace HB := hide (HB.out.trans (hb.mono HB.out.size))
  clear hb
  obtain ⟨W2, hW2⟩ : ∃ W, (v1.alloc (.cells #[.slice (some ⟨b1, f1, none⟩) m.c.length c1] 25)) = W := ⟨_, rfl⟩
  have hb_W2 : Below v1.heap.size v1 W2 := by rw [← hW2]; exact ((Below.refl _ _).alloc (Nat.le_refl _) _)
  replace z0 : W2.cell? ⟨w.heap.size, 0, none⟩ = some (.int .i64 m.id) := (hb_W2.cell (p := ⟨w.heap.size, 0, none⟩) zz).trans z0
  replace z1 : W2.cell? ⟨w.heap.size, 1, none⟩ = some (.int .i64 m.lim) := (hb_W2.cell (p := ⟨w.heap.size, 1, none⟩) zz).trans z1
  replace z2 : W2.cell? ⟨w.heap.size, 2, none⟩ = some (.bool m.dr) := (hb_W2.cell (p := ⟨w.heap.size, 2, none⟩) zz).trans z2
  replace z3 : W2.cell? ⟨w.heap.size, 3, none⟩ = some (.slice (some ⟨bc, fc, none⟩) m.c.length cc) := (hb_W2.cell (p := ⟨w.heap.size, 3, none⟩) zz).trans z3
  replace z4 : W2.cell? ⟨w.heap.size, 4, none⟩ = some (.slice (some ⟨bt, ft, none⟩) m.t.length ct) := (hb_W2.cell (p := ⟨w.heap.size, 4, none⟩) zz).trans z4
  replace fz0 : W2.frozen? ⟨w.heap.size, 0, none⟩ = false := (hb_W2.frozen (p := ⟨w.heap.size, 0, none⟩) zz).trans fz0
  replace fz1 : W2.frozen? ⟨w.heap.size, 1, none⟩ = false := (hb_W2.frozen (p := ⟨w.heap.size, 1, none⟩) zz).trans fz1
  replace fz2 : W2.frozen? ⟨w.heap.size, 2, none⟩ = false := (hb_W2.frozen (p := ⟨w.heap.size, 2, none⟩) zz).trans fz2
  replace fz3 : W2.frozen? ⟨w.heap.size, 3, none⟩ = false := (hb_W2.frozen (p := ⟨w.heap.size, 3, none⟩) zz).trans fz3
  replace fz4 : W2.frozen? ⟨w.heap.size, 4, none⟩ = false := (hb_W2.frozen (p := ⟨w.heap.size, 4, none⟩) zz).trans fz4
  replace zz : w.heap.size < W2.heap.size := Nat.lt_of_lt_of_le zz hb_W2.size
  replace r0 : W2.cell? ⟨w.heap.size + 1, 0, none⟩ = some (.int .i64 0) := (hb_W2.cell (p := ⟨w.heap.size + 1, 0, none⟩) zr).trans r0
  replace r1 : W2.cell? ⟨w.heap.size + 1, 1, none⟩ = some (.int .i64 0) := (hb_W2.cell (p := ⟨w.heap.size + 1, 1, none⟩) zr).trans r1
  replace r2 : W2.cell? ⟨w.heap.size + 1, 2, none⟩ = some (.bool false) := (hb_W2.cell (p := ⟨w.heap.size + 1, 2, none⟩) zr).trans r2
  replace r3 : W2.cell? ⟨w.heap.size + 1, 3, none⟩ = some (.slice none 0 0) := (hb_W2.cell (p := ⟨w.heap.size + 1, 3, none⟩) zr).trans r3
  replace r4 : W2.cell? ⟨w.heap.size + 1, 4, none⟩ = some (.slice none 0 0) := (hb_W2.cell (p := ⟨w.heap.size + 1, 4, none⟩) zr).trans r4
  replace fr0 : W2.frozen? ⟨w.heap.size + 1, 0, none⟩ = false := (hb_W2.frozen (p := ⟨w.heap.size + 1, 0, none⟩) zr).trans fr0
  replace fr1 : W2.frozen? ⟨w.heap.size + 1, 1, none⟩ = false := (hb_W2.frozen (p := ⟨w.heap.size + 1, 1, none⟩) zr).trans fr1
  replace fr2 : W2.frozen? ⟨w.heap.size + 1, 2, none⟩ = false := (hb_W2.frozen (p := ⟨w.heap.size + 1, 2, none⟩) zr).trans fr2
  replace fr3 : W2.frozen? ⟨w.heap.size + 1, 3, none⟩ = false := (hb_W2.frozen (p := ⟨w.heap.size + 1, 3, none⟩) zr).trans fr3
  replace fr4 : W2.frozen? ⟨w.heap.size + 1, 4, none⟩ = false := (hb_W2.frozen (p := ⟨w.heap.size + 1, 4, none⟩) zr).trans fr4
  replace zr : w.heap.size + 1 < W2.heap.size := Nat.lt_of_lt_of_le zr hb_W2.size
  replace HB := hide (HB.out.trans (hb_W2.mono HB.out.size))
  clear hb_W2
  have zx : v1.heap.size < W2.heap.size := by rw [← hW2]; simp
  have x0 : W2.cell? ⟨v1.heap.size, 0, none⟩ = some (.slice (some ⟨b1, f1, none⟩) m.c.length c1) := by rw [← hW2]; simp [go_sem]
  have hsW2 : v1.heap.size < W2.heap.size := zx
  have HR2 : Hid (∀ i, i < l1.length → ∀ j, j < layS.k → W2.cell? ⟨b1, f1 + i * layS.k + j, none⟩ = (layS.cs (l1.getD i layS.d))[j]?) := fun i hi j hj => ((show Below v1.heap.size v1 W2 by rw [← hW2]; exact (Below.refl _ _).alloc (Nat.le_refl _) _).cell (p := ⟨b1, f1 + i * layS.k + j, none⟩) hz1).trans (HR1.out i hi j hj)
  have hz2 : b1 < W2.heap.size := by have := zx; omega
  clear HR1
  go_wp2_with fail
  refine (H2.out W2 HB.out).mono ?_
  rintro e v2 ⟨b2, f2, c2, rfl, hz3, hrd, hb, hq2⟩
  have HS1 := hide hrd
  have hs2 := hb.size
  clear hrd
  have HR3 : Hid (∀ i, i < l1.length → ∀ j, j < layS.k → v2.cell? ⟨b1, f1 + i * layS.k + j, none⟩ = (layS.cs (l1.getD i layS.d))[j]?) := fun i hi j hj => (hb.cell (p := ⟨b1, f1 + i * layS.k + j, none⟩) hz2).trans (HR2.out i hi j hj)
  have hz4 : b1 < v2.heap.size := by omega
  clear HR2
  replace z0 : v2.cell? ⟨w.heap.size, 0, none⟩ = some (.int .i64 m.id) := (hb.cell (p := ⟨w.heap.size, 0, none⟩) zz).trans z0
  replace z1 : v2.cell? ⟨w.heap.size, 1, none⟩ = some (.int .i64 m.lim) := (hb.cell (p := ⟨w.heap.size, 1, none⟩) zz).trans z1
  replace z2 : v2.cell? ⟨w.heap.size, 2, none⟩ = some (.bool m.dr) := (hb.cell (p := ⟨w.heap.size, 2, none⟩) zz).trans z2
  replace z3 : v2.cell? ⟨w.heap.size, 3, none⟩ = some (.slice (some ⟨bc, fc, none⟩) m.c.length cc) := (hb.cell (p := ⟨w.heap.size, 3, none⟩) zz).trans z3
  replace z4 : v2.cell? ⟨w.heap.size, 4, none⟩ = some (.slice (some ⟨bt, ft, none⟩) m.t.length ct) := (hb.cell (p := ⟨w.heap.size, 4, none⟩) zz).trans z4
  replace fz0 : v2.frozen? ⟨w.heap.size, 0, none⟩ = false := (hb.frozen (p := ⟨w.heap.size, 0, none⟩) zz).trans fz0
  replace fz1 : v2.frozen? ⟨w.heap.size, 1, none⟩ = false := (hb.frozen (p := ⟨w.heap.size, 1, none⟩) zz).trans fz1
  replace fz2 : v2.frozen? ⟨w.heap.size, 2, none⟩ = false := (hb.frozen (p := ⟨w.heap.size, 2, none⟩) zz).trans fz2
  replace fz3 : v2.frozen? ⟨w.heap.size, 3, none⟩ = false := (hb.frozen (p := ⟨w.heap.size, 3, none⟩) zz).trans fz3
  replace fz4 : v2.frozen? ⟨w.heap.size, 4, none⟩ = false := (hb.frozen (p := ⟨w.heap.size, 4, none⟩) zz).trans fz4
  replace zz : w.heap.size < v2.heap.size := Nat.lt_of_lt_of_le zz hb.size
  replace r0 : v2.cell? ⟨w.heap.size + 1, 0, none⟩ = some (.int .i64 0) := (hb.cell (p := ⟨w.heap.size + 1, 0, none⟩) zr).trans r0
  replace r1 : v2.cell? ⟨w.heap.size + 1, 1, none⟩ = some (.int .i64 0) := (hb.cell (p := ⟨w.heap.size + 1, 1, none⟩) zr).trans r1
  replace r2 : v2.cell? ⟨w.heap.size + 1, 2, none⟩ = some (.bool false) := (hb.cell (p := ⟨w.heap.size + 1, 2, none⟩) zr).trans r2
  replace r3 : v2.cell? ⟨w.heap.size + 1, 3, none⟩ = some (.slice none 0 0) := (hb.cell (p := ⟨w.heap.size + 1, 3, none⟩) zr).trans r3
  replace r4 : v2.cell? ⟨w.heap.size + 1, 4, none⟩ = some (.slice none 0 0) := (hb.cell (p := ⟨w.heap.size + 1, 4, none⟩) zr).trans r4
  replace fr0 : v2.frozen? ⟨w.heap.size + 1, 0, none⟩ = false := (hb.frozen (p := ⟨w.heap.size + 1, 0, none⟩) zr).trans fr0
  replace fr1 : v2.frozen? ⟨w.heap.size + 1, 1, none⟩ = false := (hb.frozen (p := ⟨w.heap.size + 1, 1, none⟩) zr).trans fr1
  replace fr2 : v2.frozen? ⟨w.heap.size + 1, 2, none⟩ = false := (hb.frozen (p := ⟨w.heap.size + 1, 2, none⟩) zr).trans fr2
  replace fr3 : v2.frozen? ⟨w.heap.size + 1, 3, none⟩ = false := (hb.frozen (p := ⟨w.heap.size + 1, 3, none⟩) zr).trans fr3
  replace fr4 : v2.frozen? ⟨w.heap.size + 1, 4, none⟩ = false := (hb.frozen (p := ⟨w.heap.size + 1, 4, none⟩) zr).trans fr4
  replace zr : w.heap.size + 1 < v2.heap.size := Nat.lt_of_lt_of_le zr hb.size
  replace x0 : v2.cell? ⟨v1.heap.size, 0, none⟩ = some (.slice (some ⟨b1, f1, none⟩) m.c.length c1) := (hb.cell (p := ⟨v1.heap.size, 0, none⟩) zx).trans x0
  replace zx : v1.heap.size < v2.heap.size := Nat.lt_of_lt_of_le zx hb.size
  replace HB := hide (HB.out.trans (hb.mono HB.out.size))
  clear hb
  obtain ⟨W4, hW4⟩ : ∃ W, (v2.alloc (.cells #[.slice (some ⟨b2, f2, none⟩) m.t.length c2] 25)) = W := ⟨_, rfl⟩
  have hb_W4 : Below v2.heap.size v2 W4 := by rw [← hW4]; exact ((Below.refl _ _).alloc (Nat.le_refl _) _)
  replace z0 : W4.cell? ⟨w.heap.size, 0, none⟩ = some (.int .i64 m.id) := (hb_W4.cell (p := ⟨w.heap.size, 0, none⟩) zz).trans z0
  replace z1 : W4.cell? ⟨w.heap.size, 1, none⟩ = some (.int .i64 m.lim) := (hb_W4.cell (p := ⟨w.heap.size, 1, none⟩) zz).trans z1
  replace z2 : W4.cell? ⟨w.heap.size, 2, none⟩ = some (.bool m.dr) := (hb_W4.cell (p := ⟨w.heap.size, 2, none⟩) zz).trans z2
  replace z3 : W4.cell? ⟨w.heap.size, 3, none⟩ = some (.slice (some ⟨bc, fc, none⟩) m.c.length cc) := (hb_W4.cell (p := ⟨w.heap.size, 3, none⟩) zz).trans z3
  replace z4 : W4.cell? ⟨w.heap.size, 4, none⟩ = some (.slice (some ⟨bt, ft, none⟩) m.t.length ct) := (hb_W4.cell (p := ⟨w.heap.size, 4, none⟩) zz).trans z4
  replace fz0 : W4.frozen? ⟨w.heap.size, 0, none⟩ = false := (hb_W4.frozen (p := ⟨w.heap.size, 0, none⟩) zz).trans fz0
  replace fz1 : W4.frozen? ⟨w.heap.size, 1, none⟩ = false := (hb_W4.frozen (p := ⟨w.heap.size, 1, none⟩) zz).trans fz1
  replace fz2 : W4.frozen? ⟨w.heap.size, 2, none⟩ = false := (hb_W4.frozen (p := ⟨w.heap.size, 2, none⟩) zz).trans fz2
  replace fz3 : W4.frozen? ⟨w.heap.size, 3, none⟩ = false := (hb_W4.frozen (p := ⟨w.heap.size, 3, none⟩) zz).trans fz3
  replace fz4 : W4.frozen? ⟨w.heap.size, 4, none⟩ = false := (hb_W4.frozen (p := ⟨w.heap.size, 4, none⟩) zz).trans fz4
  replace zz : w.heap.size < W4.heap.size := Nat.lt_of_lt_of_le zz hb_W4.size
  replace r0 : W4.cell? ⟨w.heap.size + 1, 0, none⟩ = some (.int .i64 0) := (hb_W4.cell (p := ⟨w.heap.size + 1, 0, none⟩) zr).trans r0
  replace r1 : W4.cell? ⟨w.heap.size + 1, 1, none⟩ = some (.int .i64 0) := (hb_W4.cell (p := ⟨w.heap.size + 1, 1, none⟩) zr).trans r1
  replace r2 : W4.cell? ⟨w.heap.size + 1, 2, none⟩ = some (.bool false) := (hb_W4.cell (p := ⟨w.heap.size + 1, 2, none⟩) zr).trans r2
  replace r3 : W4.cell? ⟨w.heap.size + 1, 3, none⟩ = some (.slice none 0 0) := (hb_W4.cell (p := ⟨w.heap.size + 1, 3, none⟩) zr).trans r3
  replace r4 : W4.cell? ⟨w.heap.size + 1, 4, none⟩ = some (.slice none 0 0) := (hb_W4.cell (p := ⟨w.heap.size + 1, 4, none⟩) zr).trans r4
  replace fr0 : W4.frozen? ⟨w.heap.size + 1, 0, none⟩ = false := (hb_W4.frozen (p := ⟨w.heap.size + 1, 0, none⟩) zr).trans fr0
  replace fr1 : W4.frozen? ⟨w.heap.size + 1, 1, none⟩ = false := (hb_W4.frozen (p := ⟨w.heap.size + 1, 1, none⟩) zr).trans fr1
  replace fr2 : W4.frozen? ⟨w.heap.size + 1, 2, none⟩ = false := (hb_W4.frozen (p := ⟨w.heap.size + 1, 2, none⟩) zr).trans fr2
  replace fr3 : W4.frozen? ⟨w.heap.size + 1, 3, none⟩ = false := (hb_W4.frozen (p := ⟨w.heap.size + 1, 3, none⟩) zr).trans fr3
  replace fr4 : W4.frozen? ⟨w.heap.size + 1, 4, none⟩ = false := (hb_W4.frozen (p := ⟨w.heap.size + 1, 4, none⟩) zr).trans fr4
  replace zr : w.heap.size + 1 < W4.heap.size := Nat.lt_of_lt_of_le zr hb_W4.size
  replace x0 : W4.cell? ⟨v1.heap.size, 0, none⟩ = some (.slice (some ⟨b1, f1, none⟩) m.c.length c1) := (hb_W4.cell (p := ⟨v1.heap.size, 0, none⟩) zx).trans x0
  replace zx : v1.heap.size < W4.heap.size := Nat.lt_of_lt_of_le zx hb_W4.size
  replace HB := hide (HB.out.trans (hb_W4.mono HB.out.size))
  clear hb_W4
  have zy : v2.heap.size < W4.heap.size := by rw [← hW4]; simp
  have y0 : W4.cell? ⟨v2.heap.size, 0, none⟩ = some (.slice (some ⟨b2, f2, none⟩) m.t.length c2) := by rw [← hW4]; simp [go_sem]
  have hb4 := (show Below v2.heap.size v2 W4 by rw [← hW4]; exact (Below.refl _ _).alloc (Nat.le_refl _) _)
  have HR4 : Hid (∀ i, i < l1.length → ∀ j, j < layS.k → W4.cell? ⟨b1, f1 + i * layS.k + j, none⟩ = (layS.cs (l1.getD i layS.d))[j]?) := fun i hi j hj => (hb4.cell (p := ⟨b1, f1 + i * layS.k + j, none⟩) hz4).trans (HR3.out i hi j hj)
  have HS4 : Hid (∀ i, i < l2.length → ∀ j, j < layS.k → W4.cell? ⟨b2, f2 + i * layS.k + j, none⟩ = (layS.cs (l2.getD i layS.d))[j]?) := fun i hi j hj => (hb4.cell (p := ⟨b2, f2 + i * layS.k + j, none⟩) hz3).trans (HS1.out i hi j hj)
  clear HR3 HS1 H1 H2 HC HT hb4
  have hne1 : v2.heap.size ≠ w.heap.size := by omega
  have hne2 : v1.heap.size ≠ w.heap.size := by omega
  have hne3 : w.heap.size ≠ v2.heap.size := by omega
  have hne4 : w.heap.size ≠ v1.heap.size := by omega
  have hqa : b1 < w.heap.size ∨ w.heap.size + 1 + 1 ≤ b1 := by omega
  have hqb : b2 < w.heap.size ∨ w.heap.size + 1 + 1 ≤ b2 := by omega
  go_wp2
  refine bodyPost_ret (v := .tuple #[agt m.id m.lim m.dr (.slice (some ⟨b1, f1, none⟩) m.c.length c1) (.slice (some ⟨b2, f2, none⟩) m.t.length c2), .int .i64 ((n1 : Int) + n2)]) (by simp [results, Try.results72, go_sem, r0, r1, r2, r3, r4]) rfl ⟨_, _, _, _, rfl, ?_, ?_⟩
  · have hst : Stp w.heap.size (w.heap.size + 1 + 1) W4 _ := (((stp_set1 W4 w.heap.size 3 (.slice (some ⟨b1, f1, none⟩) m.c.length c1)).trans (stp_set1 _ w.heap.size 4 (.slice (some ⟨b2, f2, none⟩) m.t.length c2))).wide' (Nat.le_refl _) (by omega)).trans ((stp_set5v _ (w.heap.size + 1) (.int .i64 m.id) (.int .i64 m.lim) (.bool m.dr) (.slice (some ⟨b1, f1, none⟩) m.c.length c1) (.slice (some ⟨b2, f2, none⟩) m.t.length c2)).wide' (by omega) (Nat.le_refl _))
    rw [HTA.out]
    refine ⟨_, _, rfl, ⟨_, _, by rw [el1], .inr ⟨b1, f1, rfl, by simp; omega, fun i hi j hj => (hst.same (by omega) hqa).trans (HR4.out i hi j hj)⟩⟩, ⟨_, _, by rw [el2], .inr ⟨b2, f2, rfl, by simp; omega, fun i hi j hj => (hst.same (by omega) hqb).trans (HS4.out i hi j hj)⟩⟩⟩
  · exact below_set5v ((HB.out.setCell (p := ⟨w.heap.size, 3, none⟩) (Nat.le_refl _) _).setCell (p := ⟨w.heap.size, 4, none⟩) (Nat.le_refl _) _) (by omega) _ _ _ _ _

set_option maxRecDepth 100000 in
set_option maxHeartbeats 4000000 in
theorem specAgentTick_sh (v : Value) (m : Am) (now : Int) (w : World) (hR : RdA w.heap.size w v m) (hf : m.c.length + m.t.length ≤ 1048576) :
    Calls Try.prog 37 #[v, .int .i64 now] w fun e w' => ∃ v', e = .returned (.tuple #[v', .int .i64 (tickN m now)]) ∧ InA w.heap.size w'.heap.size w' v' (tickM m now) ∧ Below w.heap.size w w' := by
  have hR0 := hR
  obtain ⟨vc, vt, rfl, ⟨oc, cc, rfl, rc⟩, ⟨ot, ct, rfl, rt⟩⟩ := hR0
  clear rc rt
  obtain ⟨W0, hW0⟩ : ∃ W, ((w.alloc (.cells #[.int .i64 m.id, .int .i64 m.lim, .bool m.dr, .slice oc m.c.length cc, .slice ot m.t.length ct] 27)).alloc (.cells #[.int .i64 0, .int .i64 0, .bool false, .slice none 0 0, .slice none 0 0] 27)) = W := ⟨_, rfl⟩
  have hb_W0 : Below w.heap.size w W0 := by rw [← hW0]; exact (((Below.refl _ _).alloc (Nat.le_refl _) _).alloc (by simp <;> omega) _)
  have HB := hide hb_W0
  clear hb_W0
  have zz : w.heap.size < W0.heap.size := by rw [← hW0]; simp <;> omega
  have z0 : W0.cell? ⟨w.heap.size, 0, none⟩ = some (.int .i64 m.id) := by rw [← hW0]; simp [go_sem]
  have z1 : W0.cell? ⟨w.heap.size, 1, none⟩ = some (.int .i64 m.lim) := by rw [← hW0]; simp [go_sem]
  have z2 : W0.cell? ⟨w.heap.size, 2, none⟩ = some (.bool m.dr) := by rw [← hW0]; simp [go_sem]
  have z3 : W0.cell? ⟨w.heap.size, 3, none⟩ = some (.slice oc m.c.length cc) := by rw [← hW0]; simp [go_sem]
  have z4 : W0.cell? ⟨w.heap.size, 4, none⟩ = some (.slice ot m.t.length ct) := by rw [← hW0]; simp [go_sem]
  have zr : w.heap.size + 1 < W0.heap.size := by rw [← hW0]; simp
  have r0 : W0.cell? ⟨w.heap.size + 1, 0, none⟩ = some (.int .i64 0) := by rw [← hW0]; simp [go_sem]
  have r1 : W0.cell? ⟨w.heap.size + 1, 1, none⟩ = some (.int .i64 0) := by rw [← hW0]; simp [go_sem]
  have r2 : W0.cell? ⟨w.heap.size + 1, 2, none⟩ = some (.bool false) := by rw [← hW0]; simp [go_sem]
  have r3 : W0.cell? ⟨w.heap.size + 1, 3, none⟩ = some (.slice none 0 0) := by rw [← hW0]; simp [go_sem]
  have r4 : W0.cell? ⟨w.heap.size + 1, 4, none⟩ = some (.slice none 0 0) := by rw [← hW0]; simp [go_sem]
  have fr0 : W0.frozen? ⟨w.heap.size + 1, 0, none⟩ = false := by rw [← hW0]; simp [go_sem]
  have fr1 : W0.frozen? ⟨w.heap.size + 1, 1, none⟩ = false := by rw [← hW0]; simp [go_sem]
  have fr2 : W0.frozen? ⟨w.heap.size + 1, 2, none⟩ = false := by rw [← hW0]; simp [go_sem]
  have fr3 : W0.frozen? ⟨w.heap.size + 1, 3, none⟩ = false := by rw [← hW0]; simp [go_sem]
  have fr4 : W0.frozen? ⟨w.heap.size + 1, 4, none⟩ = false := by rw [← hW0]; simp [go_sem]
  have hz0 := zr
  have HOK := hide (specAgentOk_sh _ m W0 ((hR.kept HB.out (Nat.le_refl _)).le HB.out.size) hf)
  have hnw := fun W => l6now_any now W
  have HTB := hide (show tickB m now = (agentOkB m && (decide (0 ≤ now) && decide (now ≤ 100000))) from rfl)
  have HTM := hide (show tickM m now = if tickB m now = true then tickA m now else am0 from rfl)
  have HTN := hide (show tickN m now = if tickB m now = true then (((expL m.c now).2 : Nat) : Int) + ((expL m.t now).2 : Nat) else -1 from rfl)
  have HAG := hide (fun h : agentOkB m = true => And.intro (agent_pos h) (agent_tabs h))
  generalize (decide (0 ≤ now) && decide (now ≤ 100000)) = bl at *
  rw [HTB.out] at HTM HTN
  generalize agentOkB m = ok at *
  by_cases hall : (ok && bl) = true
  · obtain ⟨rfl, rfl⟩ : ok = true ∧ bl = true := by cases ok <;> cases bl <;> simp_all
    obtain ⟨⟨hp1, hp2⟩, ht1, ht2, hl1, hl2⟩ := HAG.out rfl
    clear hall HAG
    go_enter Try.func37, Try.ntmps37
    go_wp2_with fail
    refine (HOK.out).mono ?_
    rintro e v1 ⟨rfl, hb⟩
    have hs0 := hb.size
    replace z0 : v1.cell? ⟨w.heap.size, 0, none⟩ = some (.int .i64 m.id) := (hb.cell (p := ⟨w.heap.size, 0, none⟩) zz).trans z0
    replace z1 : v1.cell? ⟨w.heap.size, 1, none⟩ = some (.int .i64 m.lim) := (hb.cell (p := ⟨w.heap.size, 1, none⟩) zz).trans z1
    replace z2 : v1.cell? ⟨w.heap.size, 2, none⟩ = some (.bool m.dr) := (hb.cell (p := ⟨w.heap.size, 2, none⟩) zz).trans z2
    replace z3 : v1.cell? ⟨w.heap.size, 3, none⟩ = some (.slice oc m.c.length cc) := (hb.cell (p := ⟨w.heap.size, 3, none⟩) zz).trans z3
    replace z4 : v1.cell? ⟨w.heap.size, 4, none⟩ = some (.slice ot m.t.length ct) := (hb.cell (p := ⟨w.heap.size, 4, none⟩) zz).trans z4
    replace zz : w.heap.size < v1.heap.size := Nat.lt_of_lt_of_le zz hb.size
    replace r0 : v1.cell? ⟨w.heap.size + 1, 0, none⟩ = some (.int .i64 0) := (hb.cell (p := ⟨w.heap.size + 1, 0, none⟩) zr).trans r0
    replace r1 : v1.cell? ⟨w.heap.size + 1, 1, none⟩ = some (.int .i64 0) := (hb.cell (p := ⟨w.heap.size + 1, 1, none⟩) zr).trans r1
    replace r2 : v1.cell? ⟨w.heap.size + 1, 2, none⟩ = some (.bool false) := (hb.cell (p := ⟨w.heap.size + 1, 2, none⟩) zr).trans r2
    replace r3 : v1.cell? ⟨w.heap.size + 1, 3, none⟩ = some (.slice none 0 0) := (hb.cell (p := ⟨w.heap.size + 1, 3, none⟩) zr).trans r3
    replace r4 : v1.cell? ⟨w.heap.size + 1, 4, none⟩ = some (.slice none 0 0) := (hb.cell (p := ⟨w.heap.size + 1, 4, none⟩) zr).trans r4
    replace fr0 : v1.frozen? ⟨w.heap.size + 1, 0, none⟩ = false := (hb.frozen (p := ⟨w.heap.size + 1, 0, none⟩) zr).trans fr0
    replace fr1 : v1.frozen? ⟨w.heap.size + 1, 1, none⟩ = false := (hb.frozen (p := ⟨w.heap.size + 1, 1, none⟩) zr).trans fr1
    replace fr2 : v1.frozen? ⟨w.heap.size + 1, 2, none⟩ = false := (hb.frozen (p := ⟨w.heap.size + 1, 2, none⟩) zr).trans fr2
    replace fr3 : v1.frozen? ⟨w.heap.size + 1, 3, none⟩ = false := (hb.frozen (p := ⟨w.heap.size + 1, 3, none⟩) zr).trans fr3
    replace fr4 : v1.frozen? ⟨w.heap.size + 1, 4, none⟩ = false := (hb.frozen (p := ⟨w.heap.size + 1, 4, none⟩) zr).trans fr4
    replace zr : w.heap.size + 1 < v1.heap.size := Nat.lt_of_lt_of_le zr hb.size
    replace HB := hide (HB.out.trans (hb.mono HB.out.size))
    clear hb
    go_wp2_with fail
    refine (hnw _).mono ?_
    rintro e w9 ⟨rfl, rfl⟩
    go_wp2_with fail
    refine (l6tick_any _ m now v1 ((hR.kept HB.out (Nat.le_refl _)).le HB.out.size) ht1 ht2 hf).mono ?_
    rintro e v2 ⟨s1, c1, s2, c2, rfl, hrd, hb⟩
    have HRD := hide hrd
    have hs1 := hb.size
    clear hrd
    replace z0 : v2.cell? ⟨w.heap.size, 0, none⟩ = some (.int .i64 m.id) := (hb.cell (p := ⟨w.heap.size, 0, none⟩) zz).trans z0
    replace z1 : v2.cell? ⟨w.heap.size, 1, none⟩ = some (.int .i64 m.lim) := (hb.cell (p := ⟨w.heap.size, 1, none⟩) zz).trans z1
    replace z2 : v2.cell? ⟨w.heap.size, 2, none⟩ = some (.bool m.dr) := (hb.cell (p := ⟨w.heap.size, 2, none⟩) zz).trans z2
    replace z3 : v2.cell? ⟨w.heap.size, 3, none⟩ = some (.slice oc m.c.length cc) := (hb.cell (p := ⟨w.heap.size, 3, none⟩) zz).trans z3
    replace z4 : v2.cell? ⟨w.heap.size, 4, none⟩ = some (.slice ot m.t.length ct) := (hb.cell (p := ⟨w.heap.size, 4, none⟩) zz).trans z4
    replace zz : w.heap.size < v2.heap.size := Nat.lt_of_lt_of_le zz hb.size
    replace r0 : v2.cell? ⟨w.heap.size + 1, 0, none⟩ = some (.int .i64 0) := (hb.cell (p := ⟨w.heap.size + 1, 0, none⟩) zr).trans r0
    replace r1 : v2.cell? ⟨w.heap.size + 1, 1, none⟩ = some (.int .i64 0) := (hb.cell (p := ⟨w.heap.size + 1, 1, none⟩) zr).trans r1
    replace r2 : v2.cell? ⟨w.heap.size + 1, 2, none⟩ = some (.bool false) := (hb.cell (p := ⟨w.heap.size + 1, 2, none⟩) zr).trans r2
    replace r3 : v2.cell? ⟨w.heap.size + 1, 3, none⟩ = some (.slice none 0 0) := (hb.cell (p := ⟨w.heap.size + 1, 3, none⟩) zr).trans r3
    replace r4 : v2.cell? ⟨w.heap.size + 1, 4, none⟩ = some (.slice none 0 0) := (hb.cell (p := ⟨w.heap.size + 1, 4, none⟩) zr).trans r4
    replace fr0 : v2.frozen? ⟨w.heap.size + 1, 0, none⟩ = false := (hb.frozen (p := ⟨w.heap.size + 1, 0, none⟩) zr).trans fr0
    replace fr1 : v2.frozen? ⟨w.heap.size + 1, 1, none⟩ = false := (hb.frozen (p := ⟨w.heap.size + 1, 1, none⟩) zr).trans fr1
    replace fr2 : v2.frozen? ⟨w.heap.size + 1, 2, none⟩ = false := (hb.frozen (p := ⟨w.heap.size + 1, 2, none⟩) zr).trans fr2
    replace fr3 : v2.frozen? ⟨w.heap.size + 1, 3, none⟩ = false := (hb.frozen (p := ⟨w.heap.size + 1, 3, none⟩) zr).trans fr3
    replace fr4 : v2.frozen? ⟨w.heap.size + 1, 4, none⟩ = false := (hb.frozen (p := ⟨w.heap.size + 1, 4, none⟩) zr).trans fr4
    replace zr : w.heap.size + 1 < v2.heap.size := Nat.lt_of_lt_of_le zr hb.size
    replace HB := hide (HB.out.trans (hb.mono HB.out.size))
    clear hb
    obtain ⟨W3, hW3⟩ : ∃ W, (v2.alloc (.cells #[.int .i64 m.id, .int .i64 m.lim, .bool m.dr, .slice s1 m.c.length c1, .slice s2 m.t.length c2] 27)) = W := ⟨_, rfl⟩
    have hb_W3 : Below v2.heap.size v2 W3 := by rw [← hW3]; exact ((Below.refl _ _).alloc (Nat.le_refl _) _)
    replace z0 : W3.cell? ⟨w.heap.size, 0, none⟩ = some (.int .i64 m.id) := (hb_W3.cell (p := ⟨w.heap.size, 0, none⟩) zz).trans z0
    replace z1 : W3.cell? ⟨w.heap.size, 1, none⟩ = some (.int .i64 m.lim) := (hb_W3.cell (p := ⟨w.heap.size, 1, none⟩) zz).trans z1
    replace z2 : W3.cell? ⟨w.heap.size, 2, none⟩ = some (.bool m.dr) := (hb_W3.cell (p := ⟨w.heap.size, 2, none⟩) zz).trans z2
    replace z3 : W3.cell? ⟨w.heap.size, 3, none⟩ = some (.slice oc m.c.length cc) := (hb_W3.cell (p := ⟨w.heap.size, 3, none⟩) zz).trans z3
    replace z4 : W3.cell? ⟨w.heap.size, 4, none⟩ = some (.slice ot m.t.length ct) := (hb_W3.cell (p := ⟨w.heap.size, 4, none⟩) zz).trans z4
    replace zz : w.heap.size < W3.heap.size := Nat.lt_of_lt_of_le zz hb_W3.size
    replace r0 : W3.cell? ⟨w.heap.size + 1, 0, none⟩ = some (.int .i64 0) := (hb_W3.cell (p := ⟨w.heap.size + 1, 0, none⟩) zr).trans r0
    replace r1 : W3.cell? ⟨w.heap.size + 1, 1, none⟩ = some (.int .i64 0) := (hb_W3.cell (p := ⟨w.heap.size + 1, 1, none⟩) zr).trans r1
    replace r2 : W3.cell? ⟨w.heap.size + 1, 2, none⟩ = some (.bool false) := (hb_W3.cell (p := ⟨w.heap.size + 1, 2, none⟩) zr).trans r2
    replace r3 : W3.cell? ⟨w.heap.size + 1, 3, none⟩ = some (.slice none 0 0) := (hb_W3.cell (p := ⟨w.heap.size + 1, 3, none⟩) zr).trans r3
    replace r4 : W3.cell? ⟨w.heap.size + 1, 4, none⟩ = some (.slice none 0 0) := (hb_W3.cell (p := ⟨w.heap.size + 1, 4, none⟩) zr).trans r4
    replace fr0 : W3.frozen? ⟨w.heap.size + 1, 0, none⟩ = false := (hb_W3.frozen (p := ⟨w.heap.size + 1, 0, none⟩) zr).trans fr0
    replace fr1 : W3.frozen? ⟨w.heap.size + 1, 1, none⟩ = false := (hb_W3.frozen (p := ⟨w.heap.size + 1, 1, none⟩) zr).trans fr1
    replace fr2 : W3.frozen? ⟨w.heap.size + 1, 2, none⟩ = false := (hb_W3.frozen (p := ⟨w.heap.size + 1, 2, none⟩) zr).trans fr2
    replace fr3 : W3.frozen? ⟨w.heap.size + 1, 3, none⟩ = false := (hb_W3.frozen (p := ⟨w.heap.size + 1, 3, none⟩) zr).trans fr3
    replace fr4 : W3.frozen? ⟨w.heap.size + 1, 4, none⟩ = false := (hb_W3.frozen (p := ⟨w.heap.size + 1, 4, none⟩) zr).trans fr4
    replace zr : w.heap.size + 1 < W3.heap.size := Nat.lt_of_lt_of_le zr hb_W3.size
    replace HB := hide (HB.out.trans (hb_W3.mono HB.out.size))
    clear hb_W3
    have zo : v2.heap.size < W3.heap.size := by rw [← hW3]; simp
    have o0 : W3.cell? ⟨v2.heap.size, 0, none⟩ = some (.int .i64 m.id) := by rw [← hW3]; simp [go_sem]
    have o1 : W3.cell? ⟨v2.heap.size, 1, none⟩ = some (.int .i64 m.lim) := by rw [← hW3]; simp [go_sem]
    have o2 : W3.cell? ⟨v2.heap.size, 2, none⟩ = some (.bool m.dr) := by rw [← hW3]; simp [go_sem]
    have o3 : W3.cell? ⟨v2.heap.size, 3, none⟩ = some (.slice s1 m.c.length c1) := by rw [← hW3]; simp [go_sem]
    have o4 : W3.cell? ⟨v2.heap.size, 4, none⟩ = some (.slice s2 m.t.length c2) := by rw [← hW3]; simp [go_sem]
    have hb3 := (show Below v2.heap.size v2 W3 by rw [← hW3]; exact (Below.refl _ _).alloc (Nat.le_refl _) _)
    have HR3 := hide ((HRD.out.kept hb3 (Nat.le_refl _)).le hb3.size)
    have hs3 := hb3.size
    clear HRD hb3
    have el1 := expL_length m.c now
    have el2 := expL_length m.t now
    go_wp2_with fail
    refine (l6own_any _ (tickA m now) W3 HR3.out (by unfold tickA; simp only; omega) (by unfold tickA; simp only; omega) (by unfold tickA; simp only; omega)).mono ?_
    rintro e v3 ⟨x1, rfl, hin, hb⟩
    obtain ⟨y1, y2, rfl, ⟨p1, d1, rfl, _⟩, ⟨p2, d2, rfl, _⟩⟩ := hin.rd
    have HI := hide hin
    have hs4 := hb.size
    clear hin
    replace z0 : v3.cell? ⟨w.heap.size, 0, none⟩ = some (.int .i64 m.id) := (hb.cell (p := ⟨w.heap.size, 0, none⟩) zz).trans z0
    replace z1 : v3.cell? ⟨w.heap.size, 1, none⟩ = some (.int .i64 m.lim) := (hb.cell (p := ⟨w.heap.size, 1, none⟩) zz).trans z1
    replace z2 : v3.cell? ⟨w.heap.size, 2, none⟩ = some (.bool m.dr) := (hb.cell (p := ⟨w.heap.size, 2, none⟩) zz).trans z2
    replace z3 : v3.cell? ⟨w.heap.size, 3, none⟩ = some (.slice oc m.c.length cc) := (hb.cell (p := ⟨w.heap.size, 3, none⟩) zz).trans z3
    replace z4 : v3.cell? ⟨w.heap.size, 4, none⟩ = some (.slice ot m.t.length ct) := (hb.cell (p := ⟨w.heap.size, 4, none⟩) zz).trans z4
    replace zz : w.heap.size < v3.heap.size := Nat.lt_of_lt_of_le zz hb.size
    replace r0 : v3.cell? ⟨w.heap.size + 1, 0, none⟩ = some (.int .i64 0) := (hb.cell (p := ⟨w.heap.size + 1, 0, none⟩) zr).trans r0
    replace r1 : v3.cell? ⟨w.heap.size + 1, 1, none⟩ = some (.int .i64 0) := (hb.cell (p := ⟨w.heap.size + 1, 1, none⟩) zr).trans r1
    replace r2 : v3.cell? ⟨w.heap.size + 1, 2, none⟩ = some (.bool false) := (hb.cell (p := ⟨w.heap.size + 1, 2, none⟩) zr).trans r2
    replace r3 : v3.cell? ⟨w.heap.size + 1, 3, none⟩ = some (.slice none 0 0) := (hb.cell (p := ⟨w.heap.size + 1, 3, none⟩) zr).trans r3
    replace r4 : v3.cell? ⟨w.heap.size + 1, 4, none⟩ = some (.slice none 0 0) := (hb.cell (p := ⟨w.heap.size + 1, 4, none⟩) zr).trans r4
    replace fr0 : v3.frozen? ⟨w.heap.size + 1, 0, none⟩ = false := (hb.frozen (p := ⟨w.heap.size + 1, 0, none⟩) zr).trans fr0
    replace fr1 : v3.frozen? ⟨w.heap.size + 1, 1, none⟩ = false := (hb.frozen (p := ⟨w.heap.size + 1, 1, none⟩) zr).trans fr1
    replace fr2 : v3.frozen? ⟨w.heap.size + 1, 2, none⟩ = false := (hb.frozen (p := ⟨w.heap.size + 1, 2, none⟩) zr).trans fr2
    replace fr3 : v3.frozen? ⟨w.heap.size + 1, 3, none⟩ = false := (hb.frozen (p := ⟨w.heap.size + 1, 3, none⟩) zr).trans fr3
    replace fr4 : v3.frozen? ⟨w.heap.size + 1, 4, none⟩ = false := (hb.frozen (p := ⟨w.heap.size + 1, 4, none⟩) zr).trans fr4
    replace zr : w.heap.size + 1 < v3.heap.size := Nat.lt_of_lt_of_le zr hb.size
    replace o0 : v3.cell? ⟨v2.heap.size, 0, none⟩ = some (.int .i64 m.id) := (hb.cell (p := ⟨v2.heap.size, 0, none⟩) zo).trans o0
    replace o1 : v3.cell? ⟨v2.heap.size, 1, none⟩ = some (.int .i64 m.lim) := (hb.cell (p := ⟨v2.heap.size, 1, none⟩) zo).trans o1
    replace o2 : v3.cell? ⟨v2.heap.size, 2, none⟩ = some (.bool m.dr) := (hb.cell (p := ⟨v2.heap.size, 2, none⟩) zo).trans o2
    replace o3 : v3.cell? ⟨v2.heap.size, 3, none⟩ = some (.slice s1 m.c.length c1) := (hb.cell (p := ⟨v2.heap.size, 3, none⟩) zo).trans o3
    replace o4 : v3.cell? ⟨v2.heap.size, 4, none⟩ = some (.slice s2 m.t.length c2) := (hb.cell (p := ⟨v2.heap.size, 4, none⟩) zo).trans o4
    replace zo : v2.heap.size < v3.heap.size := Nat.lt_of_lt_of_le zo hb.size
    replace HB := hide (HB.out.trans (hb.mono HB.out.size))
    clear hb
    go_wp2
    refine bodyPost_ret (v := .tuple #[agt (tickA m now).id (tickA m now).lim (tickA m now).dr (.slice p1 (tickA m now).c.length d1) (.slice p2 (tickA m now).t.length d2), .int .i64 (((expL m.c now).2 : Nat) + ((expL m.t now).2 : Nat))]) (by simp [results, Try.results37, go_sem, r0, r1, r2, r3, r4]) rfl ⟨_, by rw [HTN.out]; rfl, ?_, below_set5v HB.out (by omega) _ _ _ _ _⟩
    rw [HTM.out]
    exact (HI.out.step (stp_set5v _ (w.heap.size + 1) (.int .i64 (tickA m now).id) (.int .i64 (tickA m now).lim) (.bool (tickA m now).dr) (.slice p1 (tickA m now).c.length d1) (.slice p2 (tickA m now).t.length d2)) (.inl (by omega))).mono (by omega) (by simp)
  · go_enter Try.func37, Try.ntmps37
    go_wp2_with fail
    refine (HOK.out).mono ?_
    rintro e v1 ⟨rfl, hb⟩
    replace z0 : v1.cell? ⟨w.heap.size, 0, none⟩ = some (.int .i64 m.id) := (hb.cell (p := ⟨w.heap.size, 0, none⟩) zz).trans z0
    replace z1 : v1.cell? ⟨w.heap.size, 1, none⟩ = some (.int .i64 m.lim) := (hb.cell (p := ⟨w.heap.size, 1, none⟩) zz).trans z1
    replace z2 : v1.cell? ⟨w.heap.size, 2, none⟩ = some (.bool m.dr) := (hb.cell (p := ⟨w.heap.size, 2, none⟩) zz).trans z2
    replace z3 : v1.cell? ⟨w.heap.size, 3, none⟩ = some (.slice oc m.c.length cc) := (hb.cell (p := ⟨w.heap.size, 3, none⟩) zz).trans z3
    replace z4 : v1.cell? ⟨w.heap.size, 4, none⟩ = some (.slice ot m.t.length ct) := (hb.cell (p := ⟨w.heap.size, 4, none⟩) zz).trans z4
    replace zz : w.heap.size < v1.heap.size := Nat.lt_of_lt_of_le zz hb.size
    replace r0 : v1.cell? ⟨w.heap.size + 1, 0, none⟩ = some (.int .i64 0) := (hb.cell (p := ⟨w.heap.size + 1, 0, none⟩) zr).trans r0
    replace r1 : v1.cell? ⟨w.heap.size + 1, 1, none⟩ = some (.int .i64 0) := (hb.cell (p := ⟨w.heap.size + 1, 1, none⟩) zr).trans r1
    replace r2 : v1.cell? ⟨w.heap.size + 1, 2, none⟩ = some (.bool false) := (hb.cell (p := ⟨w.heap.size + 1, 2, none⟩) zr).trans r2
    replace r3 : v1.cell? ⟨w.heap.size + 1, 3, none⟩ = some (.slice none 0 0) := (hb.cell (p := ⟨w.heap.size + 1, 3, none⟩) zr).trans r3
    replace r4 : v1.cell? ⟨w.heap.size + 1, 4, none⟩ = some (.slice none 0 0) := (hb.cell (p := ⟨w.heap.size + 1, 4, none⟩) zr).trans r4
    replace fr0 : v1.frozen? ⟨w.heap.size + 1, 0, none⟩ = false := (hb.frozen (p := ⟨w.heap.size + 1, 0, none⟩) zr).trans fr0
    replace fr1 : v1.frozen? ⟨w.heap.size + 1, 1, none⟩ = false := (hb.frozen (p := ⟨w.heap.size + 1, 1, none⟩) zr).trans fr1
    replace fr2 : v1.frozen? ⟨w.heap.size + 1, 2, none⟩ = false := (hb.frozen (p := ⟨w.heap.size + 1, 2, none⟩) zr).trans fr2
    replace fr3 : v1.frozen? ⟨w.heap.size + 1, 3, none⟩ = false := (hb.frozen (p := ⟨w.heap.size + 1, 3, none⟩) zr).trans fr3
    replace fr4 : v1.frozen? ⟨w.heap.size + 1, 4, none⟩ = false := (hb.frozen (p := ⟨w.heap.size + 1, 4, none⟩) zr).trans fr4
    replace zr : w.heap.size + 1 < v1.heap.size := Nat.lt_of_lt_of_le zr hb.size
    replace HB := hide (HB.out.trans (hb.mono HB.out.size))
    clear hb
    cases ok <;> cases bl <;> first | (exfalso; simp at hall; done) | skip
    all_goals (
      clear hall HAG
      go_wp2_with (go_at_call 71; refine (hnw _).mono ?_; rintro e w9 ⟨rfl, rfl⟩)
      refine bodyPost_ret (v := .tuple #[agt 0 0 false (.slice none 0 0) (.slice none 0 0), .int .i64 (-1)]) (by simp [results, Try.results37, go_sem, r0, r1, r2, r3, r4]) rfl ⟨_, by rw [HTN.out]; rfl, ?_, below_set5v HB.out (by omega) _ _ _ _ _⟩
      rw [HTM.out]
      exact am0_in (by simp; omega))

set_option maxHeartbeats 4000000 in
theorem dropDueA_any (v : Value) (m : Am) (now : Int) (lo hi : Nat) (w : World) (hO : OwnG lo hi w v m) (h1 : tableOkB m.c = true) (h2 : tableOkB m.t = true) :
    Calls Try.prog 60 #[v, .int .i64 now] w fun e w' => e = .returned (.int .i64 (((expL m.c now).2 : Nat) + ((expL m.t now).2 : Nat))) ∧ OwnG lo hi w' v (tickA m now) ∧ Stp lo hi w w' := by
  obtain ⟨g, h, mid, rfl, i1, i2, g1, g2⟩ := hO
  have hb1 := expL_le now (tableOkB_iff.1 h1).2.1
  have hb2 := expL_le now (tableOkB_iff.1 h2).2.1
  have el1 := expL_length m.c now
  have el2 := expL_length m.t now
  have zg := (i1.1.lt g rfl).2
  have zh := (i2.1.lt h rfl).2
  have lg := (i1.1.lt g rfl).1
  have lh := (i2.1.lt h rfl).1
  have mg := i1.2 g rfl
  have mh := i2.2 h rfl
  obtain ⟨W0, hW0⟩ : ∃ W, (w.alloc (.cells #[.slice (some ⟨g, 0, none⟩) m.c.length m.c.length, .slice (some ⟨h, 0, none⟩) m.t.length m.t.length, .int .i64 m.id, .int .i64 m.lim, .bool m.dr] 83)) = W := ⟨_, rfl⟩
  have hb_W0 : Below w.heap.size w W0 := by rw [← hW0]; exact ((Below.refl _ _).alloc (Nat.le_refl _) _)
  have HB := hide hb_W0
  clear hb_W0
  have zz : w.heap.size < W0.heap.size := by rw [← hW0]; simp
  have z0 : W0.cell? ⟨w.heap.size, 0, none⟩ = some (.slice (some ⟨g, 0, none⟩) m.c.length m.c.length) := by rw [← hW0]; simp [go_sem]
  have z1 : W0.cell? ⟨w.heap.size, 1, none⟩ = some (.slice (some ⟨h, 0, none⟩) m.t.length m.t.length) := by rw [← hW0]; simp [go_sem]
  have z2 : W0.cell? ⟨w.heap.size, 2, none⟩ = some (.int .i64 m.id) := by rw [← hW0]; simp [go_sem]
  have z3 : W0.cell? ⟨w.heap.size, 3, none⟩ = some (.int .i64 m.lim) := by rw [← hW0]; simp [go_sem]
  have z4 : W0.cell? ⟨w.heap.size, 4, none⟩ = some (.bool m.dr) := by rw [← hW0]; simp [go_sem]
  have HO1 : Hid (W0.drew.ownsRow lo CellT 5 (.slice (some ⟨g, 0, none⟩) m.c.length m.c.length) m.c.length (m.c.flatMap layS.cs)) := own_kept i1.1 (Below.drew HB.out)
  have HO2 : Hid (W0.drew.ownsRow mid CellT 5 (.slice (some ⟨h, 0, none⟩) m.t.length m.t.length) m.t.length (m.t.flatMap layS.cs)) := own_kept i2.1 (Below.drew HB.out)
  have HS0 : Hid (Stp lo hi w W0.drew) := Stp.of (Below.drew HB.out)
  clear i1 i2
  have HD1 := hide (dropDue_any g m.c.length lo m.c.length m.c now W0.drew rfl h1 HO1.out)
  have HD2 := hide (fun W (ho : W.ownsRow mid CellT 5 (.slice (some ⟨h, 0, none⟩) m.t.length m.t.length) m.t.length (m.t.flatMap layS.cs)) => dropDue_any h m.t.length mid m.t.length m.t now W rfl h2 ho)
  have HTA := hide (show tickA m now = { m with c := (expL m.c now).1, t := (expL m.t now).1 } from rfl)
  generalize expL m.c now = E1 at *
  generalize expL m.t now = E2 at *
  obtain ⟨l1, n1⟩ := E1
  obtain ⟨l2, n2⟩ := E2
  simp only at el1 el2 hb1 hb2 HTA HD1 HD2 ⊢
  clear h1 h2
  go_enter Try.func60, Try.ntmps60
  go_wp2
  go_region_held3 (fun w' => w'.cell? ⟨w.heap.size, 0, none⟩ = some (.slice (some ⟨g, 0, none⟩) m.c.length m.c.length) ∧ w'.cell? ⟨w.heap.size, 1, none⟩ = some (.slice (some ⟨h, 0, none⟩) m.t.length m.t.length) ∧ w'.cell? ⟨w.heap.size, 2, none⟩ = some (.int .i64 m.id) ∧ w'.cell? ⟨w.heap.size, 3, none⟩ = some (.int .i64 m.lim) ∧ w'.cell? ⟨w.heap.size, 4, none⟩ = some (.bool m.dr)) (first | with_reducible exact ⟨qz0, qz1, qz2, qz3, qz4⟩ | with_reducible exact ⟨pz0, pz1, pz2, pz3, pz4⟩ | exact ⟨z0, z1, z2, z3, z4⟩ | go_keep) (first | (go_at_call 93; (with_reducible refine HD1.out.mono ?_); rintro e v1 ⟨rfl, ho1, st1⟩; have HP1 := hide ho1; have HQ1 : Hid (v1.ownsRow mid CellT 5 (.slice (some ⟨h, 0, none⟩) m.t.length m.t.length) m.t.length (m.t.flatMap layS.cs)) := (InRow.step (b := h + 1) ⟨HO2.out, fun b e => by simp [Value.ownBlock] at e; omega⟩ st1 (.inl (by omega))).1; have HS1 : Hid (Stp lo hi w v1) := HS0.out.trans (st1.wide' (by omega) (by omega)); have zs1 : W0.heap.size ≤ v1.heap.size := st1.size; have pz0 : v1.cell? ⟨w.heap.size, 0, none⟩ = some (.slice (some ⟨g, 0, none⟩) m.c.length m.c.length) := st1.cell z0 zz (.inr (by omega)); have pz1 : v1.cell? ⟨w.heap.size, 1, none⟩ = some (.slice (some ⟨h, 0, none⟩) m.t.length m.t.length) := st1.cell z1 zz (.inr (by omega)); have pz2 : v1.cell? ⟨w.heap.size, 2, none⟩ = some (.int .i64 m.id) := st1.cell z2 zz (.inr (by omega)); have pz3 : v1.cell? ⟨w.heap.size, 3, none⟩ = some (.int .i64 m.lim) := st1.cell z3 zz (.inr (by omega)); have pz4 : v1.cell? ⟨w.heap.size, 4, none⟩ = some (.bool m.dr) := st1.cell z4 zz (.inr (by omega)); clear ho1 st1) | (go_at_call 93; (with_reducible refine (HD2.out v1 HQ1.out).mono ?_); rintro e v2 ⟨rfl, ho2, st2⟩; have HP2 := hide ho2; have HQ2 : Hid (v2.ownsRow lo CellT 5 (.slice (some ⟨g, 0, none⟩) m.c.length m.c.length) m.c.length (l1.flatMap layS.cs)) := (InRow.step (b := g + 1) ⟨HP1.out, fun b e => by simp [Value.ownBlock] at e; omega⟩ st2 (.inr (by omega))).1; have HS2 : Hid (Stp lo hi w v2) := HS1.out.trans (st2.wide' (by omega) (by omega)); have qz0 : v2.cell? ⟨w.heap.size, 0, none⟩ = some (.slice (some ⟨g, 0, none⟩) m.c.length m.c.length) := st2.cell pz0 (by omega) (.inr (by omega)); have qz1 : v2.cell? ⟨w.heap.size, 1, none⟩ = some (.slice (some ⟨h, 0, none⟩) m.t.length m.t.length) := st2.cell pz1 (by omega) (.inr (by omega)); have qz2 : v2.cell? ⟨w.heap.size, 2, none⟩ = some (.int .i64 m.id) := st2.cell pz2 (by omega) (.inr (by omega)); have qz3 : v2.cell? ⟨w.heap.size, 3, none⟩ = some (.int .i64 m.lim) := st2.cell pz3 (by omega) (.inr (by omega)); have qz4 : v2.cell? ⟨w.heap.size, 4, none⟩ = some (.bool m.dr) := st2.cell pz4 (by omega) (.inr (by omega)); clear ho2 st2) | fail)
  have hw : IntKind.i64.wrap ((n1 : Int) + (n2 : Int)) = (n1 : Int) + (n2 : Int) := by rw [IntKind.wrap_i64]; omega
  go_wp2
  go_ret
  refine ⟨ret_int hw, ?_, HS2.out⟩
  rw [HTA.out]
  exact ⟨g, h, mid, by simp only [el1, el2], ⟨by rw [el1]; exact HQ2.out, fun b e => by simp [Value.ownBlock] at e; omega⟩, ⟨by rw [el2]; exact HP2.out, fun b e => by simp [Value.ownBlock] at e; omega⟩, g1, g2⟩

set_option maxRecDepth 100000 in
set_option maxHeartbeats 4000000 in
theorem implAgentTick_sh (v : Value) (m : Am) (now : Int) (w : World) (hR : RdA w.heap.size w v m) (hf : m.c.length + m.t.length ≤ 1048576) :
    Calls Try.prog 26 #[v, .int .i64 now] w fun e w' => ∃ v', e = .returned (.tuple #[v', .int .i64 (tickN m now)]) ∧ InA w.heap.size w'.heap.size w' v' (tickM m now) ∧ Below w.heap.size w w' := by
  have hR0 := hR
  obtain ⟨vc, vt, rfl, ⟨oc, cc, rfl, rc⟩, ⟨ot, ct, rfl, rt⟩⟩ := hR0
  clear rc rt
  obtain ⟨W0, hW0⟩ : ∃ W, ((w.alloc (.cells #[.int .i64 m.id, .int .i64 m.lim, .bool m.dr, .slice oc m.c.length cc, .slice ot m.t.length ct] 27)).alloc (.cells #[.int .i64 0, .int .i64 0, .bool false, .slice none 0 0, .slice none 0 0] 27)) = W := ⟨_, rfl⟩
  have hb_W0 : Below w.heap.size w W0 := by rw [← hW0]; exact (((Below.refl _ _).alloc (Nat.le_refl _) _).alloc (by simp <;> omega) _)
  have HB := hide hb_W0
  clear hb_W0
  have zz : w.heap.size < W0.heap.size := by rw [← hW0]; simp <;> omega
  have z0 : W0.cell? ⟨w.heap.size, 0, none⟩ = some (.int .i64 m.id) := by rw [← hW0]; simp [go_sem]
  have z1 : W0.cell? ⟨w.heap.size, 1, none⟩ = some (.int .i64 m.lim) := by rw [← hW0]; simp [go_sem]
  have z2 : W0.cell? ⟨w.heap.size, 2, none⟩ = some (.bool m.dr) := by rw [← hW0]; simp [go_sem]
  have z3 : W0.cell? ⟨w.heap.size, 3, none⟩ = some (.slice oc m.c.length cc) := by rw [← hW0]; simp [go_sem]
  have z4 : W0.cell? ⟨w.heap.size, 4, none⟩ = some (.slice ot m.t.length ct) := by rw [← hW0]; simp [go_sem]
  have zr : w.heap.size + 1 < W0.heap.size := by rw [← hW0]; simp
  have r0 : W0.cell? ⟨w.heap.size + 1, 0, none⟩ = some (.int .i64 0) := by rw [← hW0]; simp [go_sem]
  have r1 : W0.cell? ⟨w.heap.size + 1, 1, none⟩ = some (.int .i64 0) := by rw [← hW0]; simp [go_sem]
  have r2 : W0.cell? ⟨w.heap.size + 1, 2, none⟩ = some (.bool false) := by rw [← hW0]; simp [go_sem]
  have r3 : W0.cell? ⟨w.heap.size + 1, 3, none⟩ = some (.slice none 0 0) := by rw [← hW0]; simp [go_sem]
  have r4 : W0.cell? ⟨w.heap.size + 1, 4, none⟩ = some (.slice none 0 0) := by rw [← hW0]; simp [go_sem]
  have fr0 : W0.frozen? ⟨w.heap.size + 1, 0, none⟩ = false := by rw [← hW0]; simp [go_sem]
  have fr1 : W0.frozen? ⟨w.heap.size + 1, 1, none⟩ = false := by rw [← hW0]; simp [go_sem]
  have fr2 : W0.frozen? ⟨w.heap.size + 1, 2, none⟩ = false := by rw [← hW0]; simp [go_sem]
  have fr3 : W0.frozen? ⟨w.heap.size + 1, 3, none⟩ = false := by rw [← hW0]; simp [go_sem]
  have fr4 : W0.frozen? ⟨w.heap.size + 1, 4, none⟩ = false := by rw [← hW0]; simp [go_sem]
  have hz0 := zr
  have HOK := hide (agentFrom_any _ m W0 ((hR.kept HB.out (Nat.le_refl _)).le HB.out.size) hf)
  have hnw := fun W => isStampA_any now W
  have HTB := hide (show tickB m now = (agentOkB m && (decide (0 ≤ now) && decide (now ≤ 100000))) from rfl)
  have HTM := hide (show tickM m now = if tickB m now = true then tickA m now else am0 from rfl)
  have HTN := hide (show tickN m now = if tickB m now = true then (((expL m.c now).2 : Nat) : Int) + ((expL m.t now).2 : Nat) else -1 from rfl)
  have HAG := hide (fun h : agentOkB m = true => And.intro (agent_pos h) (agent_tabs h))
  generalize (decide (0 ≤ now) && decide (now ≤ 100000)) = bl at *
  rw [HTB.out] at HTM HTN
  generalize agentOkB m = ok at *
  by_cases hall : (ok && bl) = true
  · obtain ⟨rfl, rfl⟩ : ok = true ∧ bl = true := by cases ok <;> cases bl <;> simp_all
    obtain ⟨⟨hp1, hp2⟩, ht1, ht2, hl1, hl2⟩ := HAG.out rfl
    clear hall HAG
    go_enter Try.func26, Try.ntmps26
    go_wp2_with fail
    refine (HOK.out).mono ?_
    rintro e v1 ⟨o1, n1, k1, o2, n2, k2, i, l, d, rfl, hv, hb⟩
    have hO := hv (by simp)
    obtain ⟨g, h, mid, e, i1, i2, g1, g2⟩ := hO
    injection e with e
    simp at e
    obtain ⟨⟨rfl, rfl, rfl⟩, ⟨rfl, rfl, rfl⟩, rfl, rfl, rfl⟩ := e
    have HI : Hid (OwnG W0.heap.size v1.heap.size v1 (agi (.slice (some ⟨g, 0, none⟩) m.c.length m.c.length) (.slice (some ⟨h, 0, none⟩) m.t.length m.t.length) m.id m.lim m.dr) m) := ⟨g, h, mid, rfl, i1, i2, g1, g2⟩
    have hs1 := hb.size
    clear hv i1 i2 g1 g2
    replace z0 : v1.cell? ⟨w.heap.size, 0, none⟩ = some (.int .i64 m.id) := (hb.cell (p := ⟨w.heap.size, 0, none⟩) zz).trans z0
    replace z1 : v1.cell? ⟨w.heap.size, 1, none⟩ = some (.int .i64 m.lim) := (hb.cell (p := ⟨w.heap.size, 1, none⟩) zz).trans z1
    replace z2 : v1.cell? ⟨w.heap.size, 2, none⟩ = some (.bool m.dr) := (hb.cell (p := ⟨w.heap.size, 2, none⟩) zz).trans z2
    replace z3 : v1.cell? ⟨w.heap.size, 3, none⟩ = some (.slice oc m.c.length cc) := (hb.cell (p := ⟨w.heap.size, 3, none⟩) zz).trans z3
    replace z4 : v1.cell? ⟨w.heap.size, 4, none⟩ = some (.slice ot m.t.length ct) := (hb.cell (p := ⟨w.heap.size, 4, none⟩) zz).trans z4
    replace zz : w.heap.size < v1.heap.size := Nat.lt_of_lt_of_le zz hb.size
    replace r0 : v1.cell? ⟨w.heap.size + 1, 0, none⟩ = some (.int .i64 0) := (hb.cell (p := ⟨w.heap.size + 1, 0, none⟩) zr).trans r0
    replace r1 : v1.cell? ⟨w.heap.size + 1, 1, none⟩ = some (.int .i64 0) := (hb.cell (p := ⟨w.heap.size + 1, 1, none⟩) zr).trans r1
    replace r2 : v1.cell? ⟨w.heap.size + 1, 2, none⟩ = some (.bool false) := (hb.cell (p := ⟨w.heap.size + 1, 2, none⟩) zr).trans r2
    replace r3 : v1.cell? ⟨w.heap.size + 1, 3, none⟩ = some (.slice none 0 0) := (hb.cell (p := ⟨w.heap.size + 1, 3, none⟩) zr).trans r3
    replace r4 : v1.cell? ⟨w.heap.size + 1, 4, none⟩ = some (.slice none 0 0) := (hb.cell (p := ⟨w.heap.size + 1, 4, none⟩) zr).trans r4
    replace fr0 : v1.frozen? ⟨w.heap.size + 1, 0, none⟩ = false := (hb.frozen (p := ⟨w.heap.size + 1, 0, none⟩) zr).trans fr0
    replace fr1 : v1.frozen? ⟨w.heap.size + 1, 1, none⟩ = false := (hb.frozen (p := ⟨w.heap.size + 1, 1, none⟩) zr).trans fr1
    replace fr2 : v1.frozen? ⟨w.heap.size + 1, 2, none⟩ = false := (hb.frozen (p := ⟨w.heap.size + 1, 2, none⟩) zr).trans fr2
    replace fr3 : v1.frozen? ⟨w.heap.size + 1, 3, none⟩ = false := (hb.frozen (p := ⟨w.heap.size + 1, 3, none⟩) zr).trans fr3
    replace fr4 : v1.frozen? ⟨w.heap.size + 1, 4, none⟩ = false := (hb.frozen (p := ⟨w.heap.size + 1, 4, none⟩) zr).trans fr4
    replace zr : w.heap.size + 1 < v1.heap.size := Nat.lt_of_lt_of_le zr hb.size
    replace HB := hide (HB.out.trans (hb.mono HB.out.size))
    clear hb
    obtain ⟨W2, hW2⟩ : ∃ W, (v1.alloc (.cells #[.slice (some ⟨g, 0, none⟩) m.c.length m.c.length, .slice (some ⟨h, 0, none⟩) m.t.length m.t.length, .int .i64 m.id, .int .i64 m.lim, .bool m.dr] 83)) = W := ⟨_, rfl⟩
    have hb_W2 : Below v1.heap.size v1 W2 := by rw [← hW2]; exact ((Below.refl _ _).alloc (Nat.le_refl _) _)
    replace z0 : W2.cell? ⟨w.heap.size, 0, none⟩ = some (.int .i64 m.id) := (hb_W2.cell (p := ⟨w.heap.size, 0, none⟩) zz).trans z0
    replace z1 : W2.cell? ⟨w.heap.size, 1, none⟩ = some (.int .i64 m.lim) := (hb_W2.cell (p := ⟨w.heap.size, 1, none⟩) zz).trans z1
    replace z2 : W2.cell? ⟨w.heap.size, 2, none⟩ = some (.bool m.dr) := (hb_W2.cell (p := ⟨w.heap.size, 2, none⟩) zz).trans z2
    replace z3 : W2.cell? ⟨w.heap.size, 3, none⟩ = some (.slice oc m.c.length cc) := (hb_W2.cell (p := ⟨w.heap.size, 3, none⟩) zz).trans z3
    replace z4 : W2.cell? ⟨w.heap.size, 4, none⟩ = some (.slice ot m.t.length ct) := (hb_W2.cell (p := ⟨w.heap.size, 4, none⟩) zz).trans z4
    replace zz : w.heap.size < W2.heap.size := Nat.lt_of_lt_of_le zz hb_W2.size
    replace r0 : W2.cell? ⟨w.heap.size + 1, 0, none⟩ = some (.int .i64 0) := (hb_W2.cell (p := ⟨w.heap.size + 1, 0, none⟩) zr).trans r0
    replace r1 : W2.cell? ⟨w.heap.size + 1, 1, none⟩ = some (.int .i64 0) := (hb_W2.cell (p := ⟨w.heap.size + 1, 1, none⟩) zr).trans r1
    replace r2 : W2.cell? ⟨w.heap.size + 1, 2, none⟩ = some (.bool false) := (hb_W2.cell (p := ⟨w.heap.size + 1, 2, none⟩) zr).trans r2
    replace r3 : W2.cell? ⟨w.heap.size + 1, 3, none⟩ = some (.slice none 0 0) := (hb_W2.cell (p := ⟨w.heap.size + 1, 3, none⟩) zr).trans r3
    replace r4 : W2.cell? ⟨w.heap.size + 1, 4, none⟩ = some (.slice none 0 0) := (hb_W2.cell (p := ⟨w.heap.size + 1, 4, none⟩) zr).trans r4
    replace fr0 : W2.frozen? ⟨w.heap.size + 1, 0, none⟩ = false := (hb_W2.frozen (p := ⟨w.heap.size + 1, 0, none⟩) zr).trans fr0
    replace fr1 : W2.frozen? ⟨w.heap.size + 1, 1, none⟩ = false := (hb_W2.frozen (p := ⟨w.heap.size + 1, 1, none⟩) zr).trans fr1
    replace fr2 : W2.frozen? ⟨w.heap.size + 1, 2, none⟩ = false := (hb_W2.frozen (p := ⟨w.heap.size + 1, 2, none⟩) zr).trans fr2
    replace fr3 : W2.frozen? ⟨w.heap.size + 1, 3, none⟩ = false := (hb_W2.frozen (p := ⟨w.heap.size + 1, 3, none⟩) zr).trans fr3
    replace fr4 : W2.frozen? ⟨w.heap.size + 1, 4, none⟩ = false := (hb_W2.frozen (p := ⟨w.heap.size + 1, 4, none⟩) zr).trans fr4
    replace zr : w.heap.size + 1 < W2.heap.size := Nat.lt_of_lt_of_le zr hb_W2.size
    replace HB := hide (HB.out.trans (hb_W2.mono HB.out.size))
    clear hb_W2
    have zo : v1.heap.size < W2.heap.size := by rw [← hW2]; simp
    have o0 : W2.cell? ⟨v1.heap.size, 0, none⟩ = some (.slice (some ⟨g, 0, none⟩) m.c.length m.c.length) := by rw [← hW2]; simp [go_sem]
    have o1 : W2.cell? ⟨v1.heap.size, 1, none⟩ = some (.slice (some ⟨h, 0, none⟩) m.t.length m.t.length) := by rw [← hW2]; simp [go_sem]
    have o2 : W2.cell? ⟨v1.heap.size, 2, none⟩ = some (.int .i64 m.id) := by rw [← hW2]; simp [go_sem]
    have o3 : W2.cell? ⟨v1.heap.size, 3, none⟩ = some (.int .i64 m.lim) := by rw [← hW2]; simp [go_sem]
    have o4 : W2.cell? ⟨v1.heap.size, 4, none⟩ = some (.bool m.dr) := by rw [← hW2]; simp [go_sem]
    have fo0 : W2.frozen? ⟨v1.heap.size, 0, none⟩ = false := by rw [← hW2]; simp [go_sem]
    have fo1 : W2.frozen? ⟨v1.heap.size, 1, none⟩ = false := by rw [← hW2]; simp [go_sem]
    have fo2 : W2.frozen? ⟨v1.heap.size, 2, none⟩ = false := by rw [← hW2]; simp [go_sem]
    have fo3 : W2.frozen? ⟨v1.heap.size, 3, none⟩ = false := by rw [← hW2]; simp [go_sem]
    have fo4 : W2.frozen? ⟨v1.heap.size, 4, none⟩ = false := by rw [← hW2]; simp [go_sem]
    replace HI := hide (HI.out.step (Stp.of (lo := 0) (hi := 0) (show Below v1.heap.size v1 W2 by rw [← hW2]; exact (Below.refl _ _).alloc (Nat.le_refl _) _)) (.inl (Nat.zero_le _)))
    have hs2 : v1.heap.size ≤ W2.heap.size := by omega
    go_wp2_with fail
    refine (hnw _).mono ?_
    rintro e w9 ⟨rfl, rfl⟩
    go_wp2_with fail
    have hs00 : w.heap.size + 1 + 1 ≤ W0.heap.size := hz0
    refine (dropDueA_any _ m now W0.heap.size v1.heap.size W2 HI.out ht1 ht2).mono ?_
    rintro e v2 ⟨rfl, hO2, st⟩
    have HI2 := hide hO2
    replace r0 : v2.cell? ⟨w.heap.size + 1, 0, none⟩ = some (.int .i64 0) := st.cell r0 zr (by omega)
    replace fr0 : v2.frozen? ⟨w.heap.size + 1, 0, none⟩ = false := st.frozen fr0 zr (by omega)
    replace r1 : v2.cell? ⟨w.heap.size + 1, 1, none⟩ = some (.int .i64 0) := st.cell r1 zr (by omega)
    replace fr1 : v2.frozen? ⟨w.heap.size + 1, 1, none⟩ = false := st.frozen fr1 zr (by omega)
    replace r2 : v2.cell? ⟨w.heap.size + 1, 2, none⟩ = some (.bool false) := st.cell r2 zr (by omega)
    replace fr2 : v2.frozen? ⟨w.heap.size + 1, 2, none⟩ = false := st.frozen fr2 zr (by omega)
    replace r3 : v2.cell? ⟨w.heap.size + 1, 3, none⟩ = some (.slice none 0 0) := st.cell r3 zr (by omega)
    replace fr3 : v2.frozen? ⟨w.heap.size + 1, 3, none⟩ = false := st.frozen fr3 zr (by omega)
    replace r4 : v2.cell? ⟨w.heap.size + 1, 4, none⟩ = some (.slice none 0 0) := st.cell r4 zr (by omega)
    replace fr4 : v2.frozen? ⟨w.heap.size + 1, 4, none⟩ = false := st.frozen fr4 zr (by omega)
    replace zr : w.heap.size + 1 < v2.heap.size := Nat.lt_of_lt_of_le zr st.size
    replace o0 : v2.cell? ⟨v1.heap.size, 0, none⟩ = some (.slice (some ⟨g, 0, none⟩) m.c.length m.c.length) := st.cell o0 zo (by omega)
    replace fo0 : v2.frozen? ⟨v1.heap.size, 0, none⟩ = false := st.frozen fo0 zo (by omega)
    replace o1 : v2.cell? ⟨v1.heap.size, 1, none⟩ = some (.slice (some ⟨h, 0, none⟩) m.t.length m.t.length) := st.cell o1 zo (by omega)
    replace fo1 : v2.frozen? ⟨v1.heap.size, 1, none⟩ = false := st.frozen fo1 zo (by omega)
    replace o2 : v2.cell? ⟨v1.heap.size, 2, none⟩ = some (.int .i64 m.id) := st.cell o2 zo (by omega)
    replace fo2 : v2.frozen? ⟨v1.heap.size, 2, none⟩ = false := st.frozen fo2 zo (by omega)
    replace o3 : v2.cell? ⟨v1.heap.size, 3, none⟩ = some (.int .i64 m.lim) := st.cell o3 zo (by omega)
    replace fo3 : v2.frozen? ⟨v1.heap.size, 3, none⟩ = false := st.frozen fo3 zo (by omega)
    replace o4 : v2.cell? ⟨v1.heap.size, 4, none⟩ = some (.bool m.dr) := st.cell o4 zo (by omega)
    replace fo4 : v2.frozen? ⟨v1.heap.size, 4, none⟩ = false := st.frozen fo4 zo (by omega)
    replace zo : v1.heap.size < v2.heap.size := Nat.lt_of_lt_of_le zo st.size
    replace HB := hide (HB.out.trans (st.below (by omega) HB.out.size))
    have hs5 := st.size
    clear z0 z1 z2 z3 z4 zz hO2 st hW2
    have el1 := expL_length m.c now
    have el2 := expL_length m.t now
    go_wp2_with fail
    refine (plain_any _ (tickA m now) _ _ v2 HI2.out (by unfold tickA; simp only; omega)).mono ?_
    rintro e v3 ⟨x1, rfl, hin, hb⟩
    obtain ⟨y1, y2, rfl, ⟨p1, c1, rfl, _⟩, ⟨p2, c2, rfl, _⟩⟩ := hin.rd
    have HJ := hide hin
    have hs4 := hb.size
    clear hin
    replace r0 : v3.cell? ⟨w.heap.size + 1, 0, none⟩ = some (.int .i64 0) := (hb.cell (p := ⟨w.heap.size + 1, 0, none⟩) zr).trans r0
    replace r1 : v3.cell? ⟨w.heap.size + 1, 1, none⟩ = some (.int .i64 0) := (hb.cell (p := ⟨w.heap.size + 1, 1, none⟩) zr).trans r1
    replace r2 : v3.cell? ⟨w.heap.size + 1, 2, none⟩ = some (.bool false) := (hb.cell (p := ⟨w.heap.size + 1, 2, none⟩) zr).trans r2
    replace r3 : v3.cell? ⟨w.heap.size + 1, 3, none⟩ = some (.slice none 0 0) := (hb.cell (p := ⟨w.heap.size + 1, 3, none⟩) zr).trans r3
    replace r4 : v3.cell? ⟨w.heap.size + 1, 4, none⟩ = some (.slice none 0 0) := (hb.cell (p := ⟨w.heap.size + 1, 4, none⟩) zr).trans r4
    replace fr0 : v3.frozen? ⟨w.heap.size + 1, 0, none⟩ = false := (hb.frozen (p := ⟨w.heap.size + 1, 0, none⟩) zr).trans fr0
    replace fr1 : v3.frozen? ⟨w.heap.size + 1, 1, none⟩ = false := (hb.frozen (p := ⟨w.heap.size + 1, 1, none⟩) zr).trans fr1
    replace fr2 : v3.frozen? ⟨w.heap.size + 1, 2, none⟩ = false := (hb.frozen (p := ⟨w.heap.size + 1, 2, none⟩) zr).trans fr2
    replace fr3 : v3.frozen? ⟨w.heap.size + 1, 3, none⟩ = false := (hb.frozen (p := ⟨w.heap.size + 1, 3, none⟩) zr).trans fr3
    replace fr4 : v3.frozen? ⟨w.heap.size + 1, 4, none⟩ = false := (hb.frozen (p := ⟨w.heap.size + 1, 4, none⟩) zr).trans fr4
    replace zr : w.heap.size + 1 < v3.heap.size := Nat.lt_of_lt_of_le zr hb.size
    replace o0 : v3.cell? ⟨v1.heap.size, 0, none⟩ = some (.slice (some ⟨g, 0, none⟩) m.c.length m.c.length) := (hb.cell (p := ⟨v1.heap.size, 0, none⟩) zo).trans o0
    replace o1 : v3.cell? ⟨v1.heap.size, 1, none⟩ = some (.slice (some ⟨h, 0, none⟩) m.t.length m.t.length) := (hb.cell (p := ⟨v1.heap.size, 1, none⟩) zo).trans o1
    replace o2 : v3.cell? ⟨v1.heap.size, 2, none⟩ = some (.int .i64 m.id) := (hb.cell (p := ⟨v1.heap.size, 2, none⟩) zo).trans o2
    replace o3 : v3.cell? ⟨v1.heap.size, 3, none⟩ = some (.int .i64 m.lim) := (hb.cell (p := ⟨v1.heap.size, 3, none⟩) zo).trans o3
    replace o4 : v3.cell? ⟨v1.heap.size, 4, none⟩ = some (.bool m.dr) := (hb.cell (p := ⟨v1.heap.size, 4, none⟩) zo).trans o4
    replace fo0 : v3.frozen? ⟨v1.heap.size, 0, none⟩ = false := (hb.frozen (p := ⟨v1.heap.size, 0, none⟩) zo).trans fo0
    replace fo1 : v3.frozen? ⟨v1.heap.size, 1, none⟩ = false := (hb.frozen (p := ⟨v1.heap.size, 1, none⟩) zo).trans fo1
    replace fo2 : v3.frozen? ⟨v1.heap.size, 2, none⟩ = false := (hb.frozen (p := ⟨v1.heap.size, 2, none⟩) zo).trans fo2
    replace fo3 : v3.frozen? ⟨v1.heap.size, 3, none⟩ = false := (hb.frozen (p := ⟨v1.heap.size, 3, none⟩) zo).trans fo3
    replace fo4 : v3.frozen? ⟨v1.heap.size, 4, none⟩ = false := (hb.frozen (p := ⟨v1.heap.size, 4, none⟩) zo).trans fo4
    replace zo : v1.heap.size < v3.heap.size := Nat.lt_of_lt_of_le zo hb.size
    replace HB := hide (HB.out.trans (hb.mono HB.out.size))
    clear hb
    go_wp2
    refine bodyPost_ret (v := .tuple #[agt (tickA m now).id (tickA m now).lim (tickA m now).dr (.slice p1 (tickA m now).c.length c1) (.slice p2 (tickA m now).t.length c2), .int .i64 (((expL m.c now).2 : Nat) + ((expL m.t now).2 : Nat))]) (by simp [results, Try.results26, go_sem, r0, r1, r2, r3, r4]) rfl ⟨_, by rw [HTN.out]; rfl, ?_, below_set5v HB.out (by omega) _ _ _ _ _⟩
    rw [HTM.out]
    exact (HJ.out.step (stp_set5v _ (w.heap.size + 1) (.int .i64 (tickA m now).id) (.int .i64 (tickA m now).lim) (.bool (tickA m now).dr) (.slice p1 (tickA m now).c.length c1) (.slice p2 (tickA m now).t.length c2)) (.inl (by omega))).mono (by omega) (by simp)
  · go_enter Try.func26, Try.ntmps26
    go_wp2_with fail
    refine (HOK.out).mono ?_
    rintro e v1 ⟨o1, n1, k1, o2, n2, k2, i, l, d, rfl, hv, hb⟩
    clear hv
    replace z0 : v1.cell? ⟨w.heap.size, 0, none⟩ = some (.int .i64 m.id) := (hb.cell (p := ⟨w.heap.size, 0, none⟩) zz).trans z0
    replace z1 : v1.cell? ⟨w.heap.size, 1, none⟩ = some (.int .i64 m.lim) := (hb.cell (p := ⟨w.heap.size, 1, none⟩) zz).trans z1
    replace z2 : v1.cell? ⟨w.heap.size, 2, none⟩ = some (.bool m.dr) := (hb.cell (p := ⟨w.heap.size, 2, none⟩) zz).trans z2
    replace z3 : v1.cell? ⟨w.heap.size, 3, none⟩ = some (.slice oc m.c.length cc) := (hb.cell (p := ⟨w.heap.size, 3, none⟩) zz).trans z3
    replace z4 : v1.cell? ⟨w.heap.size, 4, none⟩ = some (.slice ot m.t.length ct) := (hb.cell (p := ⟨w.heap.size, 4, none⟩) zz).trans z4
    replace zz : w.heap.size < v1.heap.size := Nat.lt_of_lt_of_le zz hb.size
    replace r0 : v1.cell? ⟨w.heap.size + 1, 0, none⟩ = some (.int .i64 0) := (hb.cell (p := ⟨w.heap.size + 1, 0, none⟩) zr).trans r0
    replace r1 : v1.cell? ⟨w.heap.size + 1, 1, none⟩ = some (.int .i64 0) := (hb.cell (p := ⟨w.heap.size + 1, 1, none⟩) zr).trans r1
    replace r2 : v1.cell? ⟨w.heap.size + 1, 2, none⟩ = some (.bool false) := (hb.cell (p := ⟨w.heap.size + 1, 2, none⟩) zr).trans r2
    replace r3 : v1.cell? ⟨w.heap.size + 1, 3, none⟩ = some (.slice none 0 0) := (hb.cell (p := ⟨w.heap.size + 1, 3, none⟩) zr).trans r3
    replace r4 : v1.cell? ⟨w.heap.size + 1, 4, none⟩ = some (.slice none 0 0) := (hb.cell (p := ⟨w.heap.size + 1, 4, none⟩) zr).trans r4
    replace fr0 : v1.frozen? ⟨w.heap.size + 1, 0, none⟩ = false := (hb.frozen (p := ⟨w.heap.size + 1, 0, none⟩) zr).trans fr0
    replace fr1 : v1.frozen? ⟨w.heap.size + 1, 1, none⟩ = false := (hb.frozen (p := ⟨w.heap.size + 1, 1, none⟩) zr).trans fr1
    replace fr2 : v1.frozen? ⟨w.heap.size + 1, 2, none⟩ = false := (hb.frozen (p := ⟨w.heap.size + 1, 2, none⟩) zr).trans fr2
    replace fr3 : v1.frozen? ⟨w.heap.size + 1, 3, none⟩ = false := (hb.frozen (p := ⟨w.heap.size + 1, 3, none⟩) zr).trans fr3
    replace fr4 : v1.frozen? ⟨w.heap.size + 1, 4, none⟩ = false := (hb.frozen (p := ⟨w.heap.size + 1, 4, none⟩) zr).trans fr4
    replace zr : w.heap.size + 1 < v1.heap.size := Nat.lt_of_lt_of_le zr hb.size
    replace HB := hide (HB.out.trans (hb.mono HB.out.size))
    clear hb
    obtain ⟨W2, hW2⟩ : ∃ W, (v1.alloc (.cells #[.slice o1 n1 k1, .slice o2 n2 k2, .int .i64 i, .int .i64 l, .bool d] 83)) = W := ⟨_, rfl⟩
    have hb_W2 : Below v1.heap.size v1 W2 := by rw [← hW2]; exact ((Below.refl _ _).alloc (Nat.le_refl _) _)
    replace z0 : W2.cell? ⟨w.heap.size, 0, none⟩ = some (.int .i64 m.id) := (hb_W2.cell (p := ⟨w.heap.size, 0, none⟩) zz).trans z0
    replace z1 : W2.cell? ⟨w.heap.size, 1, none⟩ = some (.int .i64 m.lim) := (hb_W2.cell (p := ⟨w.heap.size, 1, none⟩) zz).trans z1
    replace z2 : W2.cell? ⟨w.heap.size, 2, none⟩ = some (.bool m.dr) := (hb_W2.cell (p := ⟨w.heap.size, 2, none⟩) zz).trans z2
    replace z3 : W2.cell? ⟨w.heap.size, 3, none⟩ = some (.slice oc m.c.length cc) := (hb_W2.cell (p := ⟨w.heap.size, 3, none⟩) zz).trans z3
    replace z4 : W2.cell? ⟨w.heap.size, 4, none⟩ = some (.slice ot m.t.length ct) := (hb_W2.cell (p := ⟨w.heap.size, 4, none⟩) zz).trans z4
    replace zz : w.heap.size < W2.heap.size := Nat.lt_of_lt_of_le zz hb_W2.size
    replace r0 : W2.cell? ⟨w.heap.size + 1, 0, none⟩ = some (.int .i64 0) := (hb_W2.cell (p := ⟨w.heap.size + 1, 0, none⟩) zr).trans r0
    replace r1 : W2.cell? ⟨w.heap.size + 1, 1, none⟩ = some (.int .i64 0) := (hb_W2.cell (p := ⟨w.heap.size + 1, 1, none⟩) zr).trans r1
    replace r2 : W2.cell? ⟨w.heap.size + 1, 2, none⟩ = some (.bool false) := (hb_W2.cell (p := ⟨w.heap.size + 1, 2, none⟩) zr).trans r2
    replace r3 : W2.cell? ⟨w.heap.size + 1, 3, none⟩ = some (.slice none 0 0) := (hb_W2.cell (p := ⟨w.heap.size + 1, 3, none⟩) zr).trans r3
    replace r4 : W2.cell? ⟨w.heap.size + 1, 4, none⟩ = some (.slice none 0 0) := (hb_W2.cell (p := ⟨w.heap.size + 1, 4, none⟩) zr).trans r4
    replace fr0 : W2.frozen? ⟨w.heap.size + 1, 0, none⟩ = false := (hb_W2.frozen (p := ⟨w.heap.size + 1, 0, none⟩) zr).trans fr0
    replace fr1 : W2.frozen? ⟨w.heap.size + 1, 1, none⟩ = false := (hb_W2.frozen (p := ⟨w.heap.size + 1, 1, none⟩) zr).trans fr1
    replace fr2 : W2.frozen? ⟨w.heap.size + 1, 2, none⟩ = false := (hb_W2.frozen (p := ⟨w.heap.size + 1, 2, none⟩) zr).trans fr2
    replace fr3 : W2.frozen? ⟨w.heap.size + 1, 3, none⟩ = false := (hb_W2.frozen (p := ⟨w.heap.size + 1, 3, none⟩) zr).trans fr3
    replace fr4 : W2.frozen? ⟨w.heap.size + 1, 4, none⟩ = false := (hb_W2.frozen (p := ⟨w.heap.size + 1, 4, none⟩) zr).trans fr4
    replace zr : w.heap.size + 1 < W2.heap.size := Nat.lt_of_lt_of_le zr hb_W2.size
    replace HB := hide (HB.out.trans (hb_W2.mono HB.out.size))
    clear hb_W2
    have zo : v1.heap.size < W2.heap.size := by rw [← hW2]; simp
    have o0 : W2.cell? ⟨v1.heap.size, 0, none⟩ = some (.slice o1 n1 k1) := by rw [← hW2]; simp [go_sem]
    have o1 : W2.cell? ⟨v1.heap.size, 1, none⟩ = some (.slice o2 n2 k2) := by rw [← hW2]; simp [go_sem]
    have o2 : W2.cell? ⟨v1.heap.size, 2, none⟩ = some (.int .i64 i) := by rw [← hW2]; simp [go_sem]
    have o3 : W2.cell? ⟨v1.heap.size, 3, none⟩ = some (.int .i64 l) := by rw [← hW2]; simp [go_sem]
    have o4 : W2.cell? ⟨v1.heap.size, 4, none⟩ = some (.bool d) := by rw [← hW2]; simp [go_sem]
    cases ok <;> cases bl <;> first | (exfalso; simp at hall; done) | skip
    all_goals (
      clear hall HAG
      go_wp2_with (go_at_call 46; refine (hnw _).mono ?_; rintro e w9 ⟨rfl, rfl⟩)
      refine bodyPost_ret (v := .tuple #[agt 0 0 false (.slice none 0 0) (.slice none 0 0), .int .i64 (-1)]) (by simp [results, Try.results26, go_sem, r0, r1, r2, r3, r4]) rfl ⟨_, by rw [HTN.out]; rfl, ?_, below_set5v HB.out (by omega) _ _ _ _ _⟩
      rw [HTM.out]
      exact am0_in (by simp; omega))

end Go.Proofs.Ythcbhfgbplgfiaa
