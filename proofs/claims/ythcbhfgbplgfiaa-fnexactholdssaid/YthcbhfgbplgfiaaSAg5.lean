/- Holds and Shuns, on both sides. -/
import Derived.Test.YthcbhfgbplgfiaaSAg2
import Derived.Test.YthcbhfgbplgfiaaSGet
namespace Go.Proofs.Ythcbhfgbplgfiaa
open Go.ChangeShapes Go.WideShapes Go.ChangeAt Go.RowKit Go.Joins
set_option linter.unusedVariables false
set_option linter.unusedSimpArgs false

def holdsB (m : Am) (a p : Int) : Bool := agentOkB m && flowOkB a p && (endL m.c a p).2
def shunsB (m : Am) (a p : Int) : Bool := agentOkB m && flowOkB a p && (endL m.t a p).2
theorem agent_pos5 {m : Am} (h : agentOkB m = true) : 0 < m.c.length ∧ 0 < m.t.length := by
  have h := agentOkB_parts.1 h
  have h1 := (tableOkB_iff.1 h.2.2.2.2.1).1
  have h2 := (tableOkB_iff.1 h.2.2.2.2.2.1).1
  omega

set_option maxHeartbeats 4000000 in
theorem l6holds_any (v : Value) (m : Am) (a p : Int) (w : World) (hR : RdA w.heap.size w v m) (hpos : 0 < m.c.length) (hfl : flowOkB a p = true) (hf : m.c.length + m.t.length ≤ 1048576) :
    Calls Try.prog 52 #[v, flow a p] w fun e w' => e = .returned (.bool (endL m.c a p).2) ∧ Below w.heap.size w w' := by
  obtain ⟨vc, vt, rfl, ⟨oc, cc, rfl, rc⟩, ⟨ot, ct, rfl, rt⟩⟩ := hR
  rcases rc with hr | ⟨b, off, rfl, hbl, hcell⟩
  · rw [hr] at hpos; simp at hpos
  have HC := hide hcell
  clear hcell
  obtain ⟨W0, hW0⟩ : ∃ W, ((w.alloc (.cells #[.int .i64 m.id, .int .i64 m.lim, .bool m.dr, .slice (some ⟨b, off, none⟩) m.c.length cc, .slice ot m.t.length ct] 27)).alloc (.cells #[.int .i64 a, .int .i64 p] 29)) = W := ⟨_, rfl⟩
  have hb_W0 : Below w.heap.size w W0 := by rw [← hW0]; exact (((Below.refl _ _).alloc (Nat.le_refl _) _).alloc (by simp <;> omega) _)
  have HB := hide hb_W0
  clear hb_W0
  have zz : w.heap.size < W0.heap.size := by rw [← hW0]; simp <;> omega
  have z0 : W0.cell? ⟨w.heap.size, 0, none⟩ = some (.int .i64 m.id) := by rw [← hW0]; simp [go_sem]
  have z1 : W0.cell? ⟨w.heap.size, 1, none⟩ = some (.int .i64 m.lim) := by rw [← hW0]; simp [go_sem]
  have z2 : W0.cell? ⟨w.heap.size, 2, none⟩ = some (.bool m.dr) := by rw [← hW0]; simp [go_sem]
  have z3 : W0.cell? ⟨w.heap.size, 3, none⟩ = some (.slice (some ⟨b, off, none⟩) m.c.length cc) := by rw [← hW0]; simp [go_sem]
  have z4 : W0.cell? ⟨w.heap.size, 4, none⟩ = some (.slice ot m.t.length ct) := by rw [← hW0]; simp [go_sem]
  have zf : w.heap.size + 1 < W0.heap.size := by rw [← hW0]; simp
  have f0 : W0.cell? ⟨w.heap.size + 1, 0, none⟩ = some (.int .i64 a) := by rw [← hW0]; simp [go_sem]
  have f1 : W0.cell? ⟨w.heap.size + 1, 1, none⟩ = some (.int .i64 p) := by rw [← hW0]; simp [go_sem]
  have H1 := hide (fun W (hb : Below w.heap.size w W) => l5get_any b off cc m.c a p W hpos (by omega) hfl (Nat.lt_of_lt_of_le hbl hb.size) (fun i hi j hj => (hb.cell (p := ⟨b, off + i * layS.k + j, none⟩) hbl).trans (HC.out i hi j hj)))
  clear rt HC
  generalize getL m.c a p = q at *
  generalize (endL m.c a p).2 = tt at *
  go_enter Try.func52, Try.ntmps52
  go_wp2_with fail
  refine (H1.out W0 HB.out).mono ?_
  rintro e v1 ⟨rfl, hb⟩
  replace z0 : v1.cell? ⟨w.heap.size, 0, none⟩ = some (.int .i64 m.id) := (hb.cell (p := ⟨w.heap.size, 0, none⟩) zz).trans z0
  replace z1 : v1.cell? ⟨w.heap.size, 1, none⟩ = some (.int .i64 m.lim) := (hb.cell (p := ⟨w.heap.size, 1, none⟩) zz).trans z1
  replace z2 : v1.cell? ⟨w.heap.size, 2, none⟩ = some (.bool m.dr) := (hb.cell (p := ⟨w.heap.size, 2, none⟩) zz).trans z2
  replace z3 : v1.cell? ⟨w.heap.size, 3, none⟩ = some (.slice (some ⟨b, off, none⟩) m.c.length cc) := (hb.cell (p := ⟨w.heap.size, 3, none⟩) zz).trans z3
  replace z4 : v1.cell? ⟨w.heap.size, 4, none⟩ = some (.slice ot m.t.length ct) := (hb.cell (p := ⟨w.heap.size, 4, none⟩) zz).trans z4
  replace zz : w.heap.size < v1.heap.size := Nat.lt_of_lt_of_le zz hb.size
  replace f0 : v1.cell? ⟨w.heap.size + 1, 0, none⟩ = some (.int .i64 a) := (hb.cell (p := ⟨w.heap.size + 1, 0, none⟩) zf).trans f0
  replace f1 : v1.cell? ⟨w.heap.size + 1, 1, none⟩ = some (.int .i64 p) := (hb.cell (p := ⟨w.heap.size + 1, 1, none⟩) zf).trans f1
  replace zf : w.heap.size + 1 < v1.heap.size := Nat.lt_of_lt_of_le zf hb.size
  replace HB := hide (HB.out.trans (hb.mono HB.out.size))
  clear hb
  obtain ⟨W2, hW2⟩ : ∃ W, (v1.alloc (.cells #[.bool q.u, .int .i64 q.a, .int .i64 q.p, .int .i64 q.v, .int .i64 q.t] 98)) = W := ⟨_, rfl⟩
  have hb_W2 : Below v1.heap.size v1 W2 := by rw [← hW2]; exact ((Below.refl _ _).alloc (Nat.le_refl _) _)
  replace z0 : W2.cell? ⟨w.heap.size, 0, none⟩ = some (.int .i64 m.id) := (hb_W2.cell (p := ⟨w.heap.size, 0, none⟩) zz).trans z0
  replace z1 : W2.cell? ⟨w.heap.size, 1, none⟩ = some (.int .i64 m.lim) := (hb_W2.cell (p := ⟨w.heap.size, 1, none⟩) zz).trans z1
  replace z2 : W2.cell? ⟨w.heap.size, 2, none⟩ = some (.bool m.dr) := (hb_W2.cell (p := ⟨w.heap.size, 2, none⟩) zz).trans z2
  replace z3 : W2.cell? ⟨w.heap.size, 3, none⟩ = some (.slice (some ⟨b, off, none⟩) m.c.length cc) := (hb_W2.cell (p := ⟨w.heap.size, 3, none⟩) zz).trans z3
  replace z4 : W2.cell? ⟨w.heap.size, 4, none⟩ = some (.slice ot m.t.length ct) := (hb_W2.cell (p := ⟨w.heap.size, 4, none⟩) zz).trans z4
  replace zz : w.heap.size < W2.heap.size := Nat.lt_of_lt_of_le zz hb_W2.size
  replace f0 : W2.cell? ⟨w.heap.size + 1, 0, none⟩ = some (.int .i64 a) := (hb_W2.cell (p := ⟨w.heap.size + 1, 0, none⟩) zf).trans f0
  replace f1 : W2.cell? ⟨w.heap.size + 1, 1, none⟩ = some (.int .i64 p) := (hb_W2.cell (p := ⟨w.heap.size + 1, 1, none⟩) zf).trans f1
  replace zf : w.heap.size + 1 < W2.heap.size := Nat.lt_of_lt_of_le zf hb_W2.size
  replace HB := hide (HB.out.trans (hb_W2.mono HB.out.size))
  clear hb_W2
  have zs : v1.heap.size < W2.heap.size := by rw [← hW2]; simp
  have s0 : W2.cell? ⟨v1.heap.size, 0, none⟩ = some (.bool q.u) := by rw [← hW2]; simp [go_sem]
  have s1 : W2.cell? ⟨v1.heap.size, 1, none⟩ = some (.int .i64 q.a) := by rw [← hW2]; simp [go_sem]
  have s2 : W2.cell? ⟨v1.heap.size, 2, none⟩ = some (.int .i64 q.p) := by rw [← hW2]; simp [go_sem]
  have s3 : W2.cell? ⟨v1.heap.size, 3, none⟩ = some (.int .i64 q.v) := by rw [← hW2]; simp [go_sem]
  have s4 : W2.cell? ⟨v1.heap.size, 4, none⟩ = some (.int .i64 q.t) := by rw [← hW2]; simp [go_sem]
  go_wp2
  go_ret
  exact ⟨rfl, HB.out⟩

set_option maxHeartbeats 4000000 in
theorem specHolds_sh (v : Value) (m : Am) (a p : Int) (w : World) (hR : RdA w.heap.size w v m) (hf : m.c.length + m.t.length ≤ 1048576) :
    Calls Try.prog 15 #[v, flow a p] w fun e w' => e = .returned (.bool (holdsB m a p)) ∧ Below w.heap.size w w' := by
  have hR0 := hR
  obtain ⟨vc, vt, rfl, ⟨oc, cc, rfl, rc⟩, ⟨ot, ct, rfl, rt⟩⟩ := hR0
  obtain ⟨W0, hW0⟩ : ∃ W, ((w.alloc (.cells #[.int .i64 m.id, .int .i64 m.lim, .bool m.dr, .slice oc m.c.length cc, .slice ot m.t.length ct] 27)).alloc (.cells #[.int .i64 a, .int .i64 p] 29)) = W := ⟨_, rfl⟩
  have hb_W0 : Below w.heap.size w W0 := by rw [← hW0]; exact (((Below.refl _ _).alloc (Nat.le_refl _) _).alloc (by simp <;> omega) _)
  have HB := hide hb_W0
  clear hb_W0
  have zz : w.heap.size < W0.heap.size := by rw [← hW0]; simp <;> omega
  have z0 : W0.cell? ⟨w.heap.size, 0, none⟩ = some (.int .i64 m.id) := by rw [← hW0]; simp [go_sem]
  have z1 : W0.cell? ⟨w.heap.size, 1, none⟩ = some (.int .i64 m.lim) := by rw [← hW0]; simp [go_sem]
  have z2 : W0.cell? ⟨w.heap.size, 2, none⟩ = some (.bool m.dr) := by rw [← hW0]; simp [go_sem]
  have z3 : W0.cell? ⟨w.heap.size, 3, none⟩ = some (.slice oc m.c.length cc) := by rw [← hW0]; simp [go_sem]
  have z4 : W0.cell? ⟨w.heap.size, 4, none⟩ = some (.slice ot m.t.length ct) := by rw [← hW0]; simp [go_sem]
  have zf : w.heap.size + 1 < W0.heap.size := by rw [← hW0]; simp
  have f0 : W0.cell? ⟨w.heap.size + 1, 0, none⟩ = some (.int .i64 a) := by rw [← hW0]; simp [go_sem]
  have f1 : W0.cell? ⟨w.heap.size + 1, 1, none⟩ = some (.int .i64 p) := by rw [← hW0]; simp [go_sem]
  have HOK := hide (specAgentOk_sh _ m W0 ((hR.kept HB.out (Nat.le_refl _)).le HB.out.size) hf)
  have hfo := fun W => specFlowOk_any a p W
  have HE := hide (show holdsB m a p = (agentOkB m && flowOkB a p && (endL m.c a p).2) from rfl)
  have HP := hide (fun h => agent_pos5 (m := m) h)
  clear rc rt
  cases hT : agentOkB m with
  | false =>
    rw [hT] at HOK HE
    clear hT hfo
    go_enter Try.func15, Try.ntmps15
    go_wp2_with fail
    refine (HOK.out).mono ?_
    rintro e v1 ⟨rfl, hb⟩
    replace z0 : v1.cell? ⟨w.heap.size, 0, none⟩ = some (.int .i64 m.id) := (hb.cell (p := ⟨w.heap.size, 0, none⟩) zz).trans z0
    replace z1 : v1.cell? ⟨w.heap.size, 1, none⟩ = some (.int .i64 m.lim) := (hb.cell (p := ⟨w.heap.size, 1, none⟩) zz).trans z1
    replace z2 : v1.cell? ⟨w.heap.size, 2, none⟩ = some (.bool m.dr) := (hb.cell (p := ⟨w.heap.size, 2, none⟩) zz).trans z2
    replace z3 : v1.cell? ⟨w.heap.size, 3, none⟩ = some (.slice oc m.c.length cc) := (hb.cell (p := ⟨w.heap.size, 3, none⟩) zz).trans z3
    replace z4 : v1.cell? ⟨w.heap.size, 4, none⟩ = some (.slice ot m.t.length ct) := (hb.cell (p := ⟨w.heap.size, 4, none⟩) zz).trans z4
    replace zz : w.heap.size < v1.heap.size := Nat.lt_of_lt_of_le zz hb.size
    replace f0 : v1.cell? ⟨w.heap.size + 1, 0, none⟩ = some (.int .i64 a) := (hb.cell (p := ⟨w.heap.size + 1, 0, none⟩) zf).trans f0
    replace f1 : v1.cell? ⟨w.heap.size + 1, 1, none⟩ = some (.int .i64 p) := (hb.cell (p := ⟨w.heap.size + 1, 1, none⟩) zf).trans f1
    replace zf : w.heap.size + 1 < v1.heap.size := Nat.lt_of_lt_of_le zf hb.size
    replace HB := hide (HB.out.trans (hb.mono HB.out.size))
    clear hb
    go_wp2
    go_ret
    exact ⟨by rw [HE.out]; rfl, HB.out⟩
  | true =>
    have hpos := (HP.out hT).1
    rw [hT] at HOK HE
    clear hT HP
    cases hF : flowOkB a p with
    | false =>
      rw [hF] at hfo HE
      clear hF
      go_enter Try.func15, Try.ntmps15
      go_wp2_with fail
      refine (HOK.out).mono ?_
      rintro e v1 ⟨rfl, hb⟩
      replace z0 : v1.cell? ⟨w.heap.size, 0, none⟩ = some (.int .i64 m.id) := (hb.cell (p := ⟨w.heap.size, 0, none⟩) zz).trans z0
      replace z1 : v1.cell? ⟨w.heap.size, 1, none⟩ = some (.int .i64 m.lim) := (hb.cell (p := ⟨w.heap.size, 1, none⟩) zz).trans z1
      replace z2 : v1.cell? ⟨w.heap.size, 2, none⟩ = some (.bool m.dr) := (hb.cell (p := ⟨w.heap.size, 2, none⟩) zz).trans z2
      replace z3 : v1.cell? ⟨w.heap.size, 3, none⟩ = some (.slice oc m.c.length cc) := (hb.cell (p := ⟨w.heap.size, 3, none⟩) zz).trans z3
      replace z4 : v1.cell? ⟨w.heap.size, 4, none⟩ = some (.slice ot m.t.length ct) := (hb.cell (p := ⟨w.heap.size, 4, none⟩) zz).trans z4
      replace zz : w.heap.size < v1.heap.size := Nat.lt_of_lt_of_le zz hb.size
      replace f0 : v1.cell? ⟨w.heap.size + 1, 0, none⟩ = some (.int .i64 a) := (hb.cell (p := ⟨w.heap.size + 1, 0, none⟩) zf).trans f0
      replace f1 : v1.cell? ⟨w.heap.size + 1, 1, none⟩ = some (.int .i64 p) := (hb.cell (p := ⟨w.heap.size + 1, 1, none⟩) zf).trans f1
      replace zf : w.heap.size + 1 < v1.heap.size := Nat.lt_of_lt_of_le zf hb.size
      replace HB := hide (HB.out.trans (hb.mono HB.out.size))
      clear hb
      go_wp2_with fail
      refine (hfo _).mono ?_
      rintro e v2 ⟨rfl, hb⟩
      replace z0 : v2.cell? ⟨w.heap.size, 0, none⟩ = some (.int .i64 m.id) := (hb.cell (p := ⟨w.heap.size, 0, none⟩) zz).trans z0
      replace z1 : v2.cell? ⟨w.heap.size, 1, none⟩ = some (.int .i64 m.lim) := (hb.cell (p := ⟨w.heap.size, 1, none⟩) zz).trans z1
      replace z2 : v2.cell? ⟨w.heap.size, 2, none⟩ = some (.bool m.dr) := (hb.cell (p := ⟨w.heap.size, 2, none⟩) zz).trans z2
      replace z3 : v2.cell? ⟨w.heap.size, 3, none⟩ = some (.slice oc m.c.length cc) := (hb.cell (p := ⟨w.heap.size, 3, none⟩) zz).trans z3
      replace z4 : v2.cell? ⟨w.heap.size, 4, none⟩ = some (.slice ot m.t.length ct) := (hb.cell (p := ⟨w.heap.size, 4, none⟩) zz).trans z4
      replace zz : w.heap.size < v2.heap.size := Nat.lt_of_lt_of_le zz hb.size
      replace f0 : v2.cell? ⟨w.heap.size + 1, 0, none⟩ = some (.int .i64 a) := (hb.cell (p := ⟨w.heap.size + 1, 0, none⟩) zf).trans f0
      replace f1 : v2.cell? ⟨w.heap.size + 1, 1, none⟩ = some (.int .i64 p) := (hb.cell (p := ⟨w.heap.size + 1, 1, none⟩) zf).trans f1
      replace zf : w.heap.size + 1 < v2.heap.size := Nat.lt_of_lt_of_le zf hb.size
      replace HB := hide (HB.out.trans (hb.mono HB.out.size))
      clear hb
      go_wp2
      go_ret
      exact ⟨by rw [HE.out]; rfl, HB.out⟩
    | true =>
      have HF := hide hF
      rw [hF] at hfo HE
      clear hF
      go_enter Try.func15, Try.ntmps15
      go_wp2_with fail
      refine (HOK.out).mono ?_
      rintro e v1 ⟨rfl, hb⟩
      replace z0 : v1.cell? ⟨w.heap.size, 0, none⟩ = some (.int .i64 m.id) := (hb.cell (p := ⟨w.heap.size, 0, none⟩) zz).trans z0
      replace z1 : v1.cell? ⟨w.heap.size, 1, none⟩ = some (.int .i64 m.lim) := (hb.cell (p := ⟨w.heap.size, 1, none⟩) zz).trans z1
      replace z2 : v1.cell? ⟨w.heap.size, 2, none⟩ = some (.bool m.dr) := (hb.cell (p := ⟨w.heap.size, 2, none⟩) zz).trans z2
      replace z3 : v1.cell? ⟨w.heap.size, 3, none⟩ = some (.slice oc m.c.length cc) := (hb.cell (p := ⟨w.heap.size, 3, none⟩) zz).trans z3
      replace z4 : v1.cell? ⟨w.heap.size, 4, none⟩ = some (.slice ot m.t.length ct) := (hb.cell (p := ⟨w.heap.size, 4, none⟩) zz).trans z4
      replace zz : w.heap.size < v1.heap.size := Nat.lt_of_lt_of_le zz hb.size
      replace f0 : v1.cell? ⟨w.heap.size + 1, 0, none⟩ = some (.int .i64 a) := (hb.cell (p := ⟨w.heap.size + 1, 0, none⟩) zf).trans f0
      replace f1 : v1.cell? ⟨w.heap.size + 1, 1, none⟩ = some (.int .i64 p) := (hb.cell (p := ⟨w.heap.size + 1, 1, none⟩) zf).trans f1
      replace zf : w.heap.size + 1 < v1.heap.size := Nat.lt_of_lt_of_le zf hb.size
      replace HB := hide (HB.out.trans (hb.mono HB.out.size))
      clear hb
      go_wp2_with fail
      refine (hfo _).mono ?_
      rintro e v2 ⟨rfl, hb⟩
      replace z0 : v2.cell? ⟨w.heap.size, 0, none⟩ = some (.int .i64 m.id) := (hb.cell (p := ⟨w.heap.size, 0, none⟩) zz).trans z0
      replace z1 : v2.cell? ⟨w.heap.size, 1, none⟩ = some (.int .i64 m.lim) := (hb.cell (p := ⟨w.heap.size, 1, none⟩) zz).trans z1
      replace z2 : v2.cell? ⟨w.heap.size, 2, none⟩ = some (.bool m.dr) := (hb.cell (p := ⟨w.heap.size, 2, none⟩) zz).trans z2
      replace z3 : v2.cell? ⟨w.heap.size, 3, none⟩ = some (.slice oc m.c.length cc) := (hb.cell (p := ⟨w.heap.size, 3, none⟩) zz).trans z3
      replace z4 : v2.cell? ⟨w.heap.size, 4, none⟩ = some (.slice ot m.t.length ct) := (hb.cell (p := ⟨w.heap.size, 4, none⟩) zz).trans z4
      replace zz : w.heap.size < v2.heap.size := Nat.lt_of_lt_of_le zz hb.size
      replace f0 : v2.cell? ⟨w.heap.size + 1, 0, none⟩ = some (.int .i64 a) := (hb.cell (p := ⟨w.heap.size + 1, 0, none⟩) zf).trans f0
      replace f1 : v2.cell? ⟨w.heap.size + 1, 1, none⟩ = some (.int .i64 p) := (hb.cell (p := ⟨w.heap.size + 1, 1, none⟩) zf).trans f1
      replace zf : w.heap.size + 1 < v2.heap.size := Nat.lt_of_lt_of_le zf hb.size
      replace HB := hide (HB.out.trans (hb.mono HB.out.size))
      clear hb
      go_wp2_with fail
      refine (l6holds_any _ m a p v2 ((hR.kept HB.out (Nat.le_refl _)).le HB.out.size) hpos HF.out hf).mono ?_
      rintro e v3 ⟨rfl, hb⟩
      replace z0 : v3.cell? ⟨w.heap.size, 0, none⟩ = some (.int .i64 m.id) := (hb.cell (p := ⟨w.heap.size, 0, none⟩) zz).trans z0
      replace z1 : v3.cell? ⟨w.heap.size, 1, none⟩ = some (.int .i64 m.lim) := (hb.cell (p := ⟨w.heap.size, 1, none⟩) zz).trans z1
      replace z2 : v3.cell? ⟨w.heap.size, 2, none⟩ = some (.bool m.dr) := (hb.cell (p := ⟨w.heap.size, 2, none⟩) zz).trans z2
      replace z3 : v3.cell? ⟨w.heap.size, 3, none⟩ = some (.slice oc m.c.length cc) := (hb.cell (p := ⟨w.heap.size, 3, none⟩) zz).trans z3
      replace z4 : v3.cell? ⟨w.heap.size, 4, none⟩ = some (.slice ot m.t.length ct) := (hb.cell (p := ⟨w.heap.size, 4, none⟩) zz).trans z4
      replace zz : w.heap.size < v3.heap.size := Nat.lt_of_lt_of_le zz hb.size
      replace f0 : v3.cell? ⟨w.heap.size + 1, 0, none⟩ = some (.int .i64 a) := (hb.cell (p := ⟨w.heap.size + 1, 0, none⟩) zf).trans f0
      replace f1 : v3.cell? ⟨w.heap.size + 1, 1, none⟩ = some (.int .i64 p) := (hb.cell (p := ⟨w.heap.size + 1, 1, none⟩) zf).trans f1
      replace zf : w.heap.size + 1 < v3.heap.size := Nat.lt_of_lt_of_le zf hb.size
      replace HB := hide (HB.out.trans (hb.mono HB.out.size))
      clear hb
      generalize (endL m.c a p).2 = tt at *
      go_wp2
      go_ret
      exact ⟨by rw [HE.out]; simp, HB.out⟩

set_option maxHeartbeats 4000000 in
theorem specShuns_sh (v : Value) (m : Am) (a p : Int) (w : World) (hR : RdA w.heap.size w v m) (hf : m.c.length + m.t.length ≤ 1048576) :
    Calls Try.prog 39 #[v, flow a p] w fun e w' => e = .returned (.bool (shunsB m a p)) ∧ Below w.heap.size w w' := by
  have hR0 := hR
  obtain ⟨vc, vt, rfl, ⟨oc, cc, rfl, rc⟩, ⟨ot, ct, rfl, rt⟩⟩ := hR0
  obtain ⟨W0, hW0⟩ : ∃ W, ((w.alloc (.cells #[.int .i64 m.id, .int .i64 m.lim, .bool m.dr, .slice oc m.c.length cc, .slice ot m.t.length ct] 27)).alloc (.cells #[.int .i64 a, .int .i64 p] 29)) = W := ⟨_, rfl⟩
  have hb_W0 : Below w.heap.size w W0 := by rw [← hW0]; exact (((Below.refl _ _).alloc (Nat.le_refl _) _).alloc (by simp <;> omega) _)
  have HB := hide hb_W0
  clear hb_W0
  have zz : w.heap.size < W0.heap.size := by rw [← hW0]; simp <;> omega
  have z0 : W0.cell? ⟨w.heap.size, 0, none⟩ = some (.int .i64 m.id) := by rw [← hW0]; simp [go_sem]
  have z1 : W0.cell? ⟨w.heap.size, 1, none⟩ = some (.int .i64 m.lim) := by rw [← hW0]; simp [go_sem]
  have z2 : W0.cell? ⟨w.heap.size, 2, none⟩ = some (.bool m.dr) := by rw [← hW0]; simp [go_sem]
  have z3 : W0.cell? ⟨w.heap.size, 3, none⟩ = some (.slice oc m.c.length cc) := by rw [← hW0]; simp [go_sem]
  have z4 : W0.cell? ⟨w.heap.size, 4, none⟩ = some (.slice ot m.t.length ct) := by rw [← hW0]; simp [go_sem]
  have zf : w.heap.size + 1 < W0.heap.size := by rw [← hW0]; simp
  have f0 : W0.cell? ⟨w.heap.size + 1, 0, none⟩ = some (.int .i64 a) := by rw [← hW0]; simp [go_sem]
  have f1 : W0.cell? ⟨w.heap.size + 1, 1, none⟩ = some (.int .i64 p) := by rw [← hW0]; simp [go_sem]
  have HOK := hide (specAgentOk_sh _ m W0 ((hR.kept HB.out (Nat.le_refl _)).le HB.out.size) hf)
  have hfo := fun W => specFlowOk_any a p W
  have HE := hide (show shunsB m a p = (agentOkB m && flowOkB a p && (endL m.t a p).2) from rfl)
  have HP := hide (fun h => agent_pos5 (m := m) h)
  clear rc
  cases hT : agentOkB m with
  | false =>
    rw [hT] at HOK HE
    clear hT hfo
    go_enter Try.func39, Try.ntmps39
    go_wp2_with fail
    refine (HOK.out).mono ?_
    rintro e v1 ⟨rfl, hb⟩
    replace z0 : v1.cell? ⟨w.heap.size, 0, none⟩ = some (.int .i64 m.id) := (hb.cell (p := ⟨w.heap.size, 0, none⟩) zz).trans z0
    replace z1 : v1.cell? ⟨w.heap.size, 1, none⟩ = some (.int .i64 m.lim) := (hb.cell (p := ⟨w.heap.size, 1, none⟩) zz).trans z1
    replace z2 : v1.cell? ⟨w.heap.size, 2, none⟩ = some (.bool m.dr) := (hb.cell (p := ⟨w.heap.size, 2, none⟩) zz).trans z2
    replace z3 : v1.cell? ⟨w.heap.size, 3, none⟩ = some (.slice oc m.c.length cc) := (hb.cell (p := ⟨w.heap.size, 3, none⟩) zz).trans z3
    replace z4 : v1.cell? ⟨w.heap.size, 4, none⟩ = some (.slice ot m.t.length ct) := (hb.cell (p := ⟨w.heap.size, 4, none⟩) zz).trans z4
    replace zz : w.heap.size < v1.heap.size := Nat.lt_of_lt_of_le zz hb.size
    replace f0 : v1.cell? ⟨w.heap.size + 1, 0, none⟩ = some (.int .i64 a) := (hb.cell (p := ⟨w.heap.size + 1, 0, none⟩) zf).trans f0
    replace f1 : v1.cell? ⟨w.heap.size + 1, 1, none⟩ = some (.int .i64 p) := (hb.cell (p := ⟨w.heap.size + 1, 1, none⟩) zf).trans f1
    replace zf : w.heap.size + 1 < v1.heap.size := Nat.lt_of_lt_of_le zf hb.size
    replace HB := hide (HB.out.trans (hb.mono HB.out.size))
    clear hb
    go_wp2
    go_ret
    exact ⟨by rw [HE.out]; rfl, HB.out⟩
  | true =>
    have hpos := (HP.out hT).2
    rw [hT] at HOK HE
    clear hT HP
    cases hF : flowOkB a p with
    | false =>
      rw [hF] at hfo HE
      clear hF
      go_enter Try.func39, Try.ntmps39
      go_wp2_with fail
      refine (HOK.out).mono ?_
      rintro e v1 ⟨rfl, hb⟩
      replace z0 : v1.cell? ⟨w.heap.size, 0, none⟩ = some (.int .i64 m.id) := (hb.cell (p := ⟨w.heap.size, 0, none⟩) zz).trans z0
      replace z1 : v1.cell? ⟨w.heap.size, 1, none⟩ = some (.int .i64 m.lim) := (hb.cell (p := ⟨w.heap.size, 1, none⟩) zz).trans z1
      replace z2 : v1.cell? ⟨w.heap.size, 2, none⟩ = some (.bool m.dr) := (hb.cell (p := ⟨w.heap.size, 2, none⟩) zz).trans z2
      replace z3 : v1.cell? ⟨w.heap.size, 3, none⟩ = some (.slice oc m.c.length cc) := (hb.cell (p := ⟨w.heap.size, 3, none⟩) zz).trans z3
      replace z4 : v1.cell? ⟨w.heap.size, 4, none⟩ = some (.slice ot m.t.length ct) := (hb.cell (p := ⟨w.heap.size, 4, none⟩) zz).trans z4
      replace zz : w.heap.size < v1.heap.size := Nat.lt_of_lt_of_le zz hb.size
      replace f0 : v1.cell? ⟨w.heap.size + 1, 0, none⟩ = some (.int .i64 a) := (hb.cell (p := ⟨w.heap.size + 1, 0, none⟩) zf).trans f0
      replace f1 : v1.cell? ⟨w.heap.size + 1, 1, none⟩ = some (.int .i64 p) := (hb.cell (p := ⟨w.heap.size + 1, 1, none⟩) zf).trans f1
      replace zf : w.heap.size + 1 < v1.heap.size := Nat.lt_of_lt_of_le zf hb.size
      replace HB := hide (HB.out.trans (hb.mono HB.out.size))
      clear hb
      go_wp2_with fail
      refine (hfo _).mono ?_
      rintro e v2 ⟨rfl, hb⟩
      replace z0 : v2.cell? ⟨w.heap.size, 0, none⟩ = some (.int .i64 m.id) := (hb.cell (p := ⟨w.heap.size, 0, none⟩) zz).trans z0
      replace z1 : v2.cell? ⟨w.heap.size, 1, none⟩ = some (.int .i64 m.lim) := (hb.cell (p := ⟨w.heap.size, 1, none⟩) zz).trans z1
      replace z2 : v2.cell? ⟨w.heap.size, 2, none⟩ = some (.bool m.dr) := (hb.cell (p := ⟨w.heap.size, 2, none⟩) zz).trans z2
      replace z3 : v2.cell? ⟨w.heap.size, 3, none⟩ = some (.slice oc m.c.length cc) := (hb.cell (p := ⟨w.heap.size, 3, none⟩) zz).trans z3
      replace z4 : v2.cell? ⟨w.heap.size, 4, none⟩ = some (.slice ot m.t.length ct) := (hb.cell (p := ⟨w.heap.size, 4, none⟩) zz).trans z4
      replace zz : w.heap.size < v2.heap.size := Nat.lt_of_lt_of_le zz hb.size
      replace f0 : v2.cell? ⟨w.heap.size + 1, 0, none⟩ = some (.int .i64 a) := (hb.cell (p := ⟨w.heap.size + 1, 0, none⟩) zf).trans f0
      replace f1 : v2.cell? ⟨w.heap.size + 1, 1, none⟩ = some (.int .i64 p) := (hb.cell (p := ⟨w.heap.size + 1, 1, none⟩) zf).trans f1
      replace zf : w.heap.size + 1 < v2.heap.size := Nat.lt_of_lt_of_le zf hb.size
      replace HB := hide (HB.out.trans (hb.mono HB.out.size))
      clear hb
      go_wp2
      go_ret
      exact ⟨by rw [HE.out]; rfl, HB.out⟩
    | true =>
      have HF := hide hF
      rw [hF] at hfo HE
      clear hF
      rcases rt with hr | ⟨b, off, rfl, hbl, hcell⟩
      · rw [hr] at hpos; simp at hpos
      have HC := hide hcell
      clear hcell
      have H1 := hide (fun W (hb : Below w.heap.size w W) => l5get_any b off ct m.t a p W hpos (by omega) HF.out (Nat.lt_of_lt_of_le hbl hb.size) (fun i hi j hj => (hb.cell (p := ⟨b, off + i * layS.k + j, none⟩) hbl).trans (HC.out i hi j hj)))
      clear HC
      generalize getL m.t a p = q at *
      generalize (endL m.t a p).2 = tt at *
      go_enter Try.func39, Try.ntmps39
      go_wp2_with fail
      refine (HOK.out).mono ?_
      rintro e v1 ⟨rfl, hb⟩
      replace z0 : v1.cell? ⟨w.heap.size, 0, none⟩ = some (.int .i64 m.id) := (hb.cell (p := ⟨w.heap.size, 0, none⟩) zz).trans z0
      replace z1 : v1.cell? ⟨w.heap.size, 1, none⟩ = some (.int .i64 m.lim) := (hb.cell (p := ⟨w.heap.size, 1, none⟩) zz).trans z1
      replace z2 : v1.cell? ⟨w.heap.size, 2, none⟩ = some (.bool m.dr) := (hb.cell (p := ⟨w.heap.size, 2, none⟩) zz).trans z2
      replace z3 : v1.cell? ⟨w.heap.size, 3, none⟩ = some (.slice oc m.c.length cc) := (hb.cell (p := ⟨w.heap.size, 3, none⟩) zz).trans z3
      replace z4 : v1.cell? ⟨w.heap.size, 4, none⟩ = some (.slice (some ⟨b, off, none⟩) m.t.length ct) := (hb.cell (p := ⟨w.heap.size, 4, none⟩) zz).trans z4
      replace zz : w.heap.size < v1.heap.size := Nat.lt_of_lt_of_le zz hb.size
      replace f0 : v1.cell? ⟨w.heap.size + 1, 0, none⟩ = some (.int .i64 a) := (hb.cell (p := ⟨w.heap.size + 1, 0, none⟩) zf).trans f0
      replace f1 : v1.cell? ⟨w.heap.size + 1, 1, none⟩ = some (.int .i64 p) := (hb.cell (p := ⟨w.heap.size + 1, 1, none⟩) zf).trans f1
      replace zf : w.heap.size + 1 < v1.heap.size := Nat.lt_of_lt_of_le zf hb.size
      replace HB := hide (HB.out.trans (hb.mono HB.out.size))
      clear hb
      go_wp2_with fail
      refine (hfo _).mono ?_
      rintro e v2 ⟨rfl, hb⟩
      replace z0 : v2.cell? ⟨w.heap.size, 0, none⟩ = some (.int .i64 m.id) := (hb.cell (p := ⟨w.heap.size, 0, none⟩) zz).trans z0
      replace z1 : v2.cell? ⟨w.heap.size, 1, none⟩ = some (.int .i64 m.lim) := (hb.cell (p := ⟨w.heap.size, 1, none⟩) zz).trans z1
      replace z2 : v2.cell? ⟨w.heap.size, 2, none⟩ = some (.bool m.dr) := (hb.cell (p := ⟨w.heap.size, 2, none⟩) zz).trans z2
      replace z3 : v2.cell? ⟨w.heap.size, 3, none⟩ = some (.slice oc m.c.length cc) := (hb.cell (p := ⟨w.heap.size, 3, none⟩) zz).trans z3
      replace z4 : v2.cell? ⟨w.heap.size, 4, none⟩ = some (.slice (some ⟨b, off, none⟩) m.t.length ct) := (hb.cell (p := ⟨w.heap.size, 4, none⟩) zz).trans z4
      replace zz : w.heap.size < v2.heap.size := Nat.lt_of_lt_of_le zz hb.size
      replace f0 : v2.cell? ⟨w.heap.size + 1, 0, none⟩ = some (.int .i64 a) := (hb.cell (p := ⟨w.heap.size + 1, 0, none⟩) zf).trans f0
      replace f1 : v2.cell? ⟨w.heap.size + 1, 1, none⟩ = some (.int .i64 p) := (hb.cell (p := ⟨w.heap.size + 1, 1, none⟩) zf).trans f1
      replace zf : w.heap.size + 1 < v2.heap.size := Nat.lt_of_lt_of_le zf hb.size
      replace HB := hide (HB.out.trans (hb.mono HB.out.size))
      clear hb
      go_wp2_with fail
      refine (H1.out v2 HB.out).mono ?_
      rintro e v3 ⟨rfl, hb⟩
      replace z0 : v3.cell? ⟨w.heap.size, 0, none⟩ = some (.int .i64 m.id) := (hb.cell (p := ⟨w.heap.size, 0, none⟩) zz).trans z0
      replace z1 : v3.cell? ⟨w.heap.size, 1, none⟩ = some (.int .i64 m.lim) := (hb.cell (p := ⟨w.heap.size, 1, none⟩) zz).trans z1
      replace z2 : v3.cell? ⟨w.heap.size, 2, none⟩ = some (.bool m.dr) := (hb.cell (p := ⟨w.heap.size, 2, none⟩) zz).trans z2
      replace z3 : v3.cell? ⟨w.heap.size, 3, none⟩ = some (.slice oc m.c.length cc) := (hb.cell (p := ⟨w.heap.size, 3, none⟩) zz).trans z3
      replace z4 : v3.cell? ⟨w.heap.size, 4, none⟩ = some (.slice (some ⟨b, off, none⟩) m.t.length ct) := (hb.cell (p := ⟨w.heap.size, 4, none⟩) zz).trans z4
      replace zz : w.heap.size < v3.heap.size := Nat.lt_of_lt_of_le zz hb.size
      replace f0 : v3.cell? ⟨w.heap.size + 1, 0, none⟩ = some (.int .i64 a) := (hb.cell (p := ⟨w.heap.size + 1, 0, none⟩) zf).trans f0
      replace f1 : v3.cell? ⟨w.heap.size + 1, 1, none⟩ = some (.int .i64 p) := (hb.cell (p := ⟨w.heap.size + 1, 1, none⟩) zf).trans f1
      replace zf : w.heap.size + 1 < v3.heap.size := Nat.lt_of_lt_of_le zf hb.size
      replace HB := hide (HB.out.trans (hb.mono HB.out.size))
      clear hb
      obtain ⟨W4, hW4⟩ : ∃ W, (v3.alloc (.cells #[.bool q.u, .int .i64 q.a, .int .i64 q.p, .int .i64 q.v, .int .i64 q.t] 98)) = W := ⟨_, rfl⟩
      have hb_W4 : Below v3.heap.size v3 W4 := by rw [← hW4]; exact ((Below.refl _ _).alloc (Nat.le_refl _) _)
      replace z0 : W4.cell? ⟨w.heap.size, 0, none⟩ = some (.int .i64 m.id) := (hb_W4.cell (p := ⟨w.heap.size, 0, none⟩) zz).trans z0
      replace z1 : W4.cell? ⟨w.heap.size, 1, none⟩ = some (.int .i64 m.lim) := (hb_W4.cell (p := ⟨w.heap.size, 1, none⟩) zz).trans z1
      replace z2 : W4.cell? ⟨w.heap.size, 2, none⟩ = some (.bool m.dr) := (hb_W4.cell (p := ⟨w.heap.size, 2, none⟩) zz).trans z2
      replace z3 : W4.cell? ⟨w.heap.size, 3, none⟩ = some (.slice oc m.c.length cc) := (hb_W4.cell (p := ⟨w.heap.size, 3, none⟩) zz).trans z3
      replace z4 : W4.cell? ⟨w.heap.size, 4, none⟩ = some (.slice (some ⟨b, off, none⟩) m.t.length ct) := (hb_W4.cell (p := ⟨w.heap.size, 4, none⟩) zz).trans z4
      replace zz : w.heap.size < W4.heap.size := Nat.lt_of_lt_of_le zz hb_W4.size
      replace f0 : W4.cell? ⟨w.heap.size + 1, 0, none⟩ = some (.int .i64 a) := (hb_W4.cell (p := ⟨w.heap.size + 1, 0, none⟩) zf).trans f0
      replace f1 : W4.cell? ⟨w.heap.size + 1, 1, none⟩ = some (.int .i64 p) := (hb_W4.cell (p := ⟨w.heap.size + 1, 1, none⟩) zf).trans f1
      replace zf : w.heap.size + 1 < W4.heap.size := Nat.lt_of_lt_of_le zf hb_W4.size
      replace HB := hide (HB.out.trans (hb_W4.mono HB.out.size))
      clear hb_W4
      have zs : v3.heap.size < W4.heap.size := by rw [← hW4]; simp
      have s0 : W4.cell? ⟨v3.heap.size, 0, none⟩ = some (.bool q.u) := by rw [← hW4]; simp [go_sem]
      have s1 : W4.cell? ⟨v3.heap.size, 1, none⟩ = some (.int .i64 q.a) := by rw [← hW4]; simp [go_sem]
      have s2 : W4.cell? ⟨v3.heap.size, 2, none⟩ = some (.int .i64 q.p) := by rw [← hW4]; simp [go_sem]
      have s3 : W4.cell? ⟨v3.heap.size, 3, none⟩ = some (.int .i64 q.v) := by rw [← hW4]; simp [go_sem]
      have s4 : W4.cell? ⟨v3.heap.size, 4, none⟩ = some (.int .i64 q.t) := by rw [← hW4]; simp [go_sem]
      go_wp2
      go_ret
      exact ⟨by rw [HE.out]; simp, HB.out⟩

set_option maxHeartbeats 4000000 in
theorem hasI_any (b off c : Nat) (l : List Sl) (a p : Int) (w : World) (hpos : 0 < l.length) (hl : l.length ≤ 1048576) (hfl : flowOkB a p = true) (hbl : b < w.heap.size) (hcell : ∀ i, i < l.length → ∀ j, j < layS.k → w.cell? ⟨b, off + i * layS.k + j, none⟩ = (layS.cs (l.getD i layS.d))[j]?) :
    Calls Try.prog 54 #[.agg #[.slice (some ⟨b, off, none⟩) l.length c], flow a p] w fun e w' => e = .returned (.bool (endL l a p).2) ∧ Below w.heap.size w w' := by
  have HC := hide hcell
  clear hcell
  obtain ⟨W0, hW0⟩ : ∃ W, ((w.alloc (.cells #[.slice (some ⟨b, off, none⟩) l.length c] 80)).alloc (.cells #[.int .i64 a, .int .i64 p] 29)) = W := ⟨_, rfl⟩
  have hb_W0 : Below w.heap.size w W0 := by rw [← hW0]; exact (((Below.refl _ _).alloc (Nat.le_refl _) _).alloc (by simp <;> omega) _)
  have HB := hide hb_W0
  clear hb_W0
  have zz : w.heap.size < W0.heap.size := by rw [← hW0]; simp <;> omega
  have z0 : W0.cell? ⟨w.heap.size, 0, none⟩ = some (.slice (some ⟨b, off, none⟩) l.length c) := by rw [← hW0]; simp [go_sem]
  have zf : w.heap.size + 1 < W0.heap.size := by rw [← hW0]; simp
  have f0 : W0.cell? ⟨w.heap.size + 1, 0, none⟩ = some (.int .i64 a) := by rw [← hW0]; simp [go_sem]
  have f1 : W0.cell? ⟨w.heap.size + 1, 1, none⟩ = some (.int .i64 p) := by rw [← hW0]; simp [go_sem]
  have H1 := hide (fun W (hb : Below w.heap.size w W) => get_any b off c l a p W hpos hl hfl (Nat.lt_of_lt_of_le hbl hb.size) (fun i hi j hj => (hb.cell (p := ⟨b, off + i * layS.k + j, none⟩) hbl).trans (HC.out i hi j hj)))
  clear HC
  generalize getL l a p = q at *
  generalize (endL l a p).2 = tt at *
  go_enter Try.func54, Try.ntmps54
  go_wp2_with fail
  refine (H1.out W0 HB.out).mono ?_
  rintro e v1 ⟨rfl, hb⟩
  replace z0 : v1.cell? ⟨w.heap.size, 0, none⟩ = some (.slice (some ⟨b, off, none⟩) l.length c) := (hb.cell (p := ⟨w.heap.size, 0, none⟩) zz).trans z0
  replace zz : w.heap.size < v1.heap.size := Nat.lt_of_lt_of_le zz hb.size
  replace f0 : v1.cell? ⟨w.heap.size + 1, 0, none⟩ = some (.int .i64 a) := (hb.cell (p := ⟨w.heap.size + 1, 0, none⟩) zf).trans f0
  replace f1 : v1.cell? ⟨w.heap.size + 1, 1, none⟩ = some (.int .i64 p) := (hb.cell (p := ⟨w.heap.size + 1, 1, none⟩) zf).trans f1
  replace zf : w.heap.size + 1 < v1.heap.size := Nat.lt_of_lt_of_le zf hb.size
  replace HB := hide (HB.out.trans (hb.mono HB.out.size))
  clear hb
  obtain ⟨W2, hW2⟩ : ∃ W, (v1.alloc (.cells #[.bool q.u, .int .i64 q.a, .int .i64 q.p, .int .i64 q.v, .int .i64 q.t] 121)) = W := ⟨_, rfl⟩
  have hb_W2 : Below v1.heap.size v1 W2 := by rw [← hW2]; exact ((Below.refl _ _).alloc (Nat.le_refl _) _)
  replace z0 : W2.cell? ⟨w.heap.size, 0, none⟩ = some (.slice (some ⟨b, off, none⟩) l.length c) := (hb_W2.cell (p := ⟨w.heap.size, 0, none⟩) zz).trans z0
  replace zz : w.heap.size < W2.heap.size := Nat.lt_of_lt_of_le zz hb_W2.size
  replace f0 : W2.cell? ⟨w.heap.size + 1, 0, none⟩ = some (.int .i64 a) := (hb_W2.cell (p := ⟨w.heap.size + 1, 0, none⟩) zf).trans f0
  replace f1 : W2.cell? ⟨w.heap.size + 1, 1, none⟩ = some (.int .i64 p) := (hb_W2.cell (p := ⟨w.heap.size + 1, 1, none⟩) zf).trans f1
  replace zf : w.heap.size + 1 < W2.heap.size := Nat.lt_of_lt_of_le zf hb_W2.size
  replace HB := hide (HB.out.trans (hb_W2.mono HB.out.size))
  clear hb_W2
  have zs : v1.heap.size < W2.heap.size := by rw [← hW2]; simp
  have s0 : W2.cell? ⟨v1.heap.size, 0, none⟩ = some (.bool q.u) := by rw [← hW2]; simp [go_sem]
  have s1 : W2.cell? ⟨v1.heap.size, 1, none⟩ = some (.int .i64 q.a) := by rw [← hW2]; simp [go_sem]
  have s2 : W2.cell? ⟨v1.heap.size, 2, none⟩ = some (.int .i64 q.p) := by rw [← hW2]; simp [go_sem]
  have s3 : W2.cell? ⟨v1.heap.size, 3, none⟩ = some (.int .i64 q.v) := by rw [← hW2]; simp [go_sem]
  have s4 : W2.cell? ⟨v1.heap.size, 4, none⟩ = some (.int .i64 q.t) := by rw [← hW2]; simp [go_sem]
  go_wp2
  go_ret
  exact ⟨rfl, HB.out⟩

set_option maxHeartbeats 4000000 in
theorem shunsI_any (b off c : Nat) (l : List Sl) (a p : Int) (w : World) (hpos : 0 < l.length) (hl : l.length ≤ 1048576) (hfl : flowOkB a p = true) (hbl : b < w.heap.size) (hcell : ∀ i, i < l.length → ∀ j, j < layS.k → w.cell? ⟨b, off + i * layS.k + j, none⟩ = (layS.cs (l.getD i layS.d))[j]?) :
    Calls Try.prog 57 #[.agg #[.slice (some ⟨b, off, none⟩) l.length c], flow a p] w fun e w' => e = .returned (.bool (endL l a p).2) ∧ Below w.heap.size w w' := by
  have HC := hide hcell
  clear hcell
  obtain ⟨W0, hW0⟩ : ∃ W, ((w.alloc (.cells #[.slice (some ⟨b, off, none⟩) l.length c] 81)).alloc (.cells #[.int .i64 a, .int .i64 p] 29)) = W := ⟨_, rfl⟩
  have hb_W0 : Below w.heap.size w W0 := by rw [← hW0]; exact (((Below.refl _ _).alloc (Nat.le_refl _) _).alloc (by simp <;> omega) _)
  have HB := hide hb_W0
  clear hb_W0
  have zz : w.heap.size < W0.heap.size := by rw [← hW0]; simp <;> omega
  have z0 : W0.cell? ⟨w.heap.size, 0, none⟩ = some (.slice (some ⟨b, off, none⟩) l.length c) := by rw [← hW0]; simp [go_sem]
  have zf : w.heap.size + 1 < W0.heap.size := by rw [← hW0]; simp
  have f0 : W0.cell? ⟨w.heap.size + 1, 0, none⟩ = some (.int .i64 a) := by rw [← hW0]; simp [go_sem]
  have f1 : W0.cell? ⟨w.heap.size + 1, 1, none⟩ = some (.int .i64 p) := by rw [← hW0]; simp [go_sem]
  have H1 := hide (fun W (hb : Below w.heap.size w W) => get_any b off c l a p W hpos hl hfl (Nat.lt_of_lt_of_le hbl hb.size) (fun i hi j hj => (hb.cell (p := ⟨b, off + i * layS.k + j, none⟩) hbl).trans (HC.out i hi j hj)))
  clear HC
  generalize getL l a p = q at *
  generalize (endL l a p).2 = tt at *
  go_enter Try.func57, Try.ntmps57
  go_wp2_with fail
  refine (H1.out W0 HB.out).mono ?_
  rintro e v1 ⟨rfl, hb⟩
  replace z0 : v1.cell? ⟨w.heap.size, 0, none⟩ = some (.slice (some ⟨b, off, none⟩) l.length c) := (hb.cell (p := ⟨w.heap.size, 0, none⟩) zz).trans z0
  replace zz : w.heap.size < v1.heap.size := Nat.lt_of_lt_of_le zz hb.size
  replace f0 : v1.cell? ⟨w.heap.size + 1, 0, none⟩ = some (.int .i64 a) := (hb.cell (p := ⟨w.heap.size + 1, 0, none⟩) zf).trans f0
  replace f1 : v1.cell? ⟨w.heap.size + 1, 1, none⟩ = some (.int .i64 p) := (hb.cell (p := ⟨w.heap.size + 1, 1, none⟩) zf).trans f1
  replace zf : w.heap.size + 1 < v1.heap.size := Nat.lt_of_lt_of_le zf hb.size
  replace HB := hide (HB.out.trans (hb.mono HB.out.size))
  clear hb
  obtain ⟨W2, hW2⟩ : ∃ W, (v1.alloc (.cells #[.bool q.u, .int .i64 q.a, .int .i64 q.p, .int .i64 q.v, .int .i64 q.t] 121)) = W := ⟨_, rfl⟩
  have hb_W2 : Below v1.heap.size v1 W2 := by rw [← hW2]; exact ((Below.refl _ _).alloc (Nat.le_refl _) _)
  replace z0 : W2.cell? ⟨w.heap.size, 0, none⟩ = some (.slice (some ⟨b, off, none⟩) l.length c) := (hb_W2.cell (p := ⟨w.heap.size, 0, none⟩) zz).trans z0
  replace zz : w.heap.size < W2.heap.size := Nat.lt_of_lt_of_le zz hb_W2.size
  replace f0 : W2.cell? ⟨w.heap.size + 1, 0, none⟩ = some (.int .i64 a) := (hb_W2.cell (p := ⟨w.heap.size + 1, 0, none⟩) zf).trans f0
  replace f1 : W2.cell? ⟨w.heap.size + 1, 1, none⟩ = some (.int .i64 p) := (hb_W2.cell (p := ⟨w.heap.size + 1, 1, none⟩) zf).trans f1
  replace zf : w.heap.size + 1 < W2.heap.size := Nat.lt_of_lt_of_le zf hb_W2.size
  replace HB := hide (HB.out.trans (hb_W2.mono HB.out.size))
  clear hb_W2
  have zs : v1.heap.size < W2.heap.size := by rw [← hW2]; simp
  have s0 : W2.cell? ⟨v1.heap.size, 0, none⟩ = some (.bool q.u) := by rw [← hW2]; simp [go_sem]
  have s1 : W2.cell? ⟨v1.heap.size, 1, none⟩ = some (.int .i64 q.a) := by rw [← hW2]; simp [go_sem]
  have s2 : W2.cell? ⟨v1.heap.size, 2, none⟩ = some (.int .i64 q.p) := by rw [← hW2]; simp [go_sem]
  have s3 : W2.cell? ⟨v1.heap.size, 3, none⟩ = some (.int .i64 q.v) := by rw [← hW2]; simp [go_sem]
  have s4 : W2.cell? ⟨v1.heap.size, 4, none⟩ = some (.int .i64 q.t) := by rw [← hW2]; simp [go_sem]
  go_wp2
  go_ret
  exact ⟨rfl, HB.out⟩

set_option maxHeartbeats 4000000 in
theorem implHolds_sh (v : Value) (m : Am) (a p : Int) (w : World) (hR : RdA w.heap.size w v m) (hf : m.c.length + m.t.length ≤ 1048576) :
    Calls Try.prog 17 #[v, flow a p] w fun e w' => e = .returned (.bool (holdsB m a p)) ∧ Below w.heap.size w w' := by
  have hR0 := hR
  obtain ⟨vc, vt, rfl, ⟨oc, cc, rfl, rc⟩, ⟨ot, ct, rfl, rt⟩⟩ := hR0
  obtain ⟨W0, hW0⟩ : ∃ W, ((w.alloc (.cells #[.int .i64 m.id, .int .i64 m.lim, .bool m.dr, .slice oc m.c.length cc, .slice ot m.t.length ct] 27)).alloc (.cells #[.int .i64 a, .int .i64 p] 29)) = W := ⟨_, rfl⟩
  have hb_W0 : Below w.heap.size w W0 := by rw [← hW0]; exact (((Below.refl _ _).alloc (Nat.le_refl _) _).alloc (by simp <;> omega) _)
  have HB := hide hb_W0
  clear hb_W0
  have zz : w.heap.size < W0.heap.size := by rw [← hW0]; simp <;> omega
  have z0 : W0.cell? ⟨w.heap.size, 0, none⟩ = some (.int .i64 m.id) := by rw [← hW0]; simp [go_sem]
  have z1 : W0.cell? ⟨w.heap.size, 1, none⟩ = some (.int .i64 m.lim) := by rw [← hW0]; simp [go_sem]
  have z2 : W0.cell? ⟨w.heap.size, 2, none⟩ = some (.bool m.dr) := by rw [← hW0]; simp [go_sem]
  have z3 : W0.cell? ⟨w.heap.size, 3, none⟩ = some (.slice oc m.c.length cc) := by rw [← hW0]; simp [go_sem]
  have z4 : W0.cell? ⟨w.heap.size, 4, none⟩ = some (.slice ot m.t.length ct) := by rw [← hW0]; simp [go_sem]
  have zf : w.heap.size + 1 < W0.heap.size := by rw [← hW0]; simp
  have f0 : W0.cell? ⟨w.heap.size + 1, 0, none⟩ = some (.int .i64 a) := by rw [← hW0]; simp [go_sem]
  have f1 : W0.cell? ⟨w.heap.size + 1, 1, none⟩ = some (.int .i64 p) := by rw [← hW0]; simp [go_sem]
  have HOK := hide (agentFrom_any _ m W0 ((hR.kept HB.out (Nat.le_refl _)).le HB.out.size) hf)
  have hfo := fun W => implFlowOk_any a p W
  have HE := hide (show holdsB m a p = (agentOkB m && flowOkB a p && (endL m.c a p).2) from rfl)
  have HP := hide (fun h => agent_pos5 (m := m) h)
  clear rc rt
  cases hT : agentOkB m with
  | false =>
    rw [hT] at HOK HE
    clear hT hfo
    go_enter Try.func17, Try.ntmps17
    go_wp2_with fail
    refine (HOK.out).mono ?_
    rintro e v1 ⟨s1, n1, k1, s2, n2, k2, i, l, d, rfl, hv, hb⟩
    clear hv
    replace z0 : v1.cell? ⟨w.heap.size, 0, none⟩ = some (.int .i64 m.id) := (hb.cell (p := ⟨w.heap.size, 0, none⟩) zz).trans z0
    replace z1 : v1.cell? ⟨w.heap.size, 1, none⟩ = some (.int .i64 m.lim) := (hb.cell (p := ⟨w.heap.size, 1, none⟩) zz).trans z1
    replace z2 : v1.cell? ⟨w.heap.size, 2, none⟩ = some (.bool m.dr) := (hb.cell (p := ⟨w.heap.size, 2, none⟩) zz).trans z2
    replace z3 : v1.cell? ⟨w.heap.size, 3, none⟩ = some (.slice oc m.c.length cc) := (hb.cell (p := ⟨w.heap.size, 3, none⟩) zz).trans z3
    replace z4 : v1.cell? ⟨w.heap.size, 4, none⟩ = some (.slice ot m.t.length ct) := (hb.cell (p := ⟨w.heap.size, 4, none⟩) zz).trans z4
    replace zz : w.heap.size < v1.heap.size := Nat.lt_of_lt_of_le zz hb.size
    replace f0 : v1.cell? ⟨w.heap.size + 1, 0, none⟩ = some (.int .i64 a) := (hb.cell (p := ⟨w.heap.size + 1, 0, none⟩) zf).trans f0
    replace f1 : v1.cell? ⟨w.heap.size + 1, 1, none⟩ = some (.int .i64 p) := (hb.cell (p := ⟨w.heap.size + 1, 1, none⟩) zf).trans f1
    replace zf : w.heap.size + 1 < v1.heap.size := Nat.lt_of_lt_of_le zf hb.size
    replace HB := hide (HB.out.trans (hb.mono HB.out.size))
    clear hb
    obtain ⟨W2, hW2⟩ : ∃ W, (v1.alloc (.cells #[.slice s1 n1 k1, .slice s2 n2 k2, .int .i64 i, .int .i64 l, .bool d] 83)) = W := ⟨_, rfl⟩
    have hb_W2 : Below v1.heap.size v1 W2 := by rw [← hW2]; exact ((Below.refl _ _).alloc (Nat.le_refl _) _)
    replace z0 : W2.cell? ⟨w.heap.size, 0, none⟩ = some (.int .i64 m.id) := (hb_W2.cell (p := ⟨w.heap.size, 0, none⟩) zz).trans z0
    replace z1 : W2.cell? ⟨w.heap.size, 1, none⟩ = some (.int .i64 m.lim) := (hb_W2.cell (p := ⟨w.heap.size, 1, none⟩) zz).trans z1
    replace z2 : W2.cell? ⟨w.heap.size, 2, none⟩ = some (.bool m.dr) := (hb_W2.cell (p := ⟨w.heap.size, 2, none⟩) zz).trans z2
    replace z3 : W2.cell? ⟨w.heap.size, 3, none⟩ = some (.slice oc m.c.length cc) := (hb_W2.cell (p := ⟨w.heap.size, 3, none⟩) zz).trans z3
    replace z4 : W2.cell? ⟨w.heap.size, 4, none⟩ = some (.slice ot m.t.length ct) := (hb_W2.cell (p := ⟨w.heap.size, 4, none⟩) zz).trans z4
    replace zz : w.heap.size < W2.heap.size := Nat.lt_of_lt_of_le zz hb_W2.size
    replace f0 : W2.cell? ⟨w.heap.size + 1, 0, none⟩ = some (.int .i64 a) := (hb_W2.cell (p := ⟨w.heap.size + 1, 0, none⟩) zf).trans f0
    replace f1 : W2.cell? ⟨w.heap.size + 1, 1, none⟩ = some (.int .i64 p) := (hb_W2.cell (p := ⟨w.heap.size + 1, 1, none⟩) zf).trans f1
    replace zf : w.heap.size + 1 < W2.heap.size := Nat.lt_of_lt_of_le zf hb_W2.size
    replace HB := hide (HB.out.trans (hb_W2.mono HB.out.size))
    clear hb_W2
    have zo : v1.heap.size < W2.heap.size := by rw [← hW2]; simp
    have o0 : W2.cell? ⟨v1.heap.size, 0, none⟩ = some (.slice s1 n1 k1) := by rw [← hW2]; simp [go_sem]
    have o1 : W2.cell? ⟨v1.heap.size, 1, none⟩ = some (.slice s2 n2 k2) := by rw [← hW2]; simp [go_sem]
    have o2 : W2.cell? ⟨v1.heap.size, 2, none⟩ = some (.int .i64 i) := by rw [← hW2]; simp [go_sem]
    have o3 : W2.cell? ⟨v1.heap.size, 3, none⟩ = some (.int .i64 l) := by rw [← hW2]; simp [go_sem]
    have o4 : W2.cell? ⟨v1.heap.size, 4, none⟩ = some (.bool d) := by rw [← hW2]; simp [go_sem]
    go_wp2
    go_ret
    exact ⟨by rw [HE.out]; rfl, HB.out⟩
  | true =>
    have hpos := (HP.out hT).1
    rw [hT] at HOK HE
    clear hT HP
    cases hF : flowOkB a p with
    | false =>
      rw [hF] at hfo HE
      clear hF
      go_enter Try.func17, Try.ntmps17
      go_wp2_with fail
      refine (HOK.out).mono ?_
      rintro e v1 ⟨s1, n1, k1, s2, n2, k2, i, l, d, rfl, hv, hb⟩
      clear hv
      replace z0 : v1.cell? ⟨w.heap.size, 0, none⟩ = some (.int .i64 m.id) := (hb.cell (p := ⟨w.heap.size, 0, none⟩) zz).trans z0
      replace z1 : v1.cell? ⟨w.heap.size, 1, none⟩ = some (.int .i64 m.lim) := (hb.cell (p := ⟨w.heap.size, 1, none⟩) zz).trans z1
      replace z2 : v1.cell? ⟨w.heap.size, 2, none⟩ = some (.bool m.dr) := (hb.cell (p := ⟨w.heap.size, 2, none⟩) zz).trans z2
      replace z3 : v1.cell? ⟨w.heap.size, 3, none⟩ = some (.slice oc m.c.length cc) := (hb.cell (p := ⟨w.heap.size, 3, none⟩) zz).trans z3
      replace z4 : v1.cell? ⟨w.heap.size, 4, none⟩ = some (.slice ot m.t.length ct) := (hb.cell (p := ⟨w.heap.size, 4, none⟩) zz).trans z4
      replace zz : w.heap.size < v1.heap.size := Nat.lt_of_lt_of_le zz hb.size
      replace f0 : v1.cell? ⟨w.heap.size + 1, 0, none⟩ = some (.int .i64 a) := (hb.cell (p := ⟨w.heap.size + 1, 0, none⟩) zf).trans f0
      replace f1 : v1.cell? ⟨w.heap.size + 1, 1, none⟩ = some (.int .i64 p) := (hb.cell (p := ⟨w.heap.size + 1, 1, none⟩) zf).trans f1
      replace zf : w.heap.size + 1 < v1.heap.size := Nat.lt_of_lt_of_le zf hb.size
      replace HB := hide (HB.out.trans (hb.mono HB.out.size))
      clear hb
      obtain ⟨W2, hW2⟩ : ∃ W, (v1.alloc (.cells #[.slice s1 n1 k1, .slice s2 n2 k2, .int .i64 i, .int .i64 l, .bool d] 83)) = W := ⟨_, rfl⟩
      have hb_W2 : Below v1.heap.size v1 W2 := by rw [← hW2]; exact ((Below.refl _ _).alloc (Nat.le_refl _) _)
      replace z0 : W2.cell? ⟨w.heap.size, 0, none⟩ = some (.int .i64 m.id) := (hb_W2.cell (p := ⟨w.heap.size, 0, none⟩) zz).trans z0
      replace z1 : W2.cell? ⟨w.heap.size, 1, none⟩ = some (.int .i64 m.lim) := (hb_W2.cell (p := ⟨w.heap.size, 1, none⟩) zz).trans z1
      replace z2 : W2.cell? ⟨w.heap.size, 2, none⟩ = some (.bool m.dr) := (hb_W2.cell (p := ⟨w.heap.size, 2, none⟩) zz).trans z2
      replace z3 : W2.cell? ⟨w.heap.size, 3, none⟩ = some (.slice oc m.c.length cc) := (hb_W2.cell (p := ⟨w.heap.size, 3, none⟩) zz).trans z3
      replace z4 : W2.cell? ⟨w.heap.size, 4, none⟩ = some (.slice ot m.t.length ct) := (hb_W2.cell (p := ⟨w.heap.size, 4, none⟩) zz).trans z4
      replace zz : w.heap.size < W2.heap.size := Nat.lt_of_lt_of_le zz hb_W2.size
      replace f0 : W2.cell? ⟨w.heap.size + 1, 0, none⟩ = some (.int .i64 a) := (hb_W2.cell (p := ⟨w.heap.size + 1, 0, none⟩) zf).trans f0
      replace f1 : W2.cell? ⟨w.heap.size + 1, 1, none⟩ = some (.int .i64 p) := (hb_W2.cell (p := ⟨w.heap.size + 1, 1, none⟩) zf).trans f1
      replace zf : w.heap.size + 1 < W2.heap.size := Nat.lt_of_lt_of_le zf hb_W2.size
      replace HB := hide (HB.out.trans (hb_W2.mono HB.out.size))
      clear hb_W2
      have zo : v1.heap.size < W2.heap.size := by rw [← hW2]; simp
      have o0 : W2.cell? ⟨v1.heap.size, 0, none⟩ = some (.slice s1 n1 k1) := by rw [← hW2]; simp [go_sem]
      have o1 : W2.cell? ⟨v1.heap.size, 1, none⟩ = some (.slice s2 n2 k2) := by rw [← hW2]; simp [go_sem]
      have o2 : W2.cell? ⟨v1.heap.size, 2, none⟩ = some (.int .i64 i) := by rw [← hW2]; simp [go_sem]
      have o3 : W2.cell? ⟨v1.heap.size, 3, none⟩ = some (.int .i64 l) := by rw [← hW2]; simp [go_sem]
      have o4 : W2.cell? ⟨v1.heap.size, 4, none⟩ = some (.bool d) := by rw [← hW2]; simp [go_sem]
      go_wp2_with fail
      refine (hfo _).mono ?_
      rintro e v2 ⟨rfl, hb⟩
      replace z0 : v2.cell? ⟨w.heap.size, 0, none⟩ = some (.int .i64 m.id) := (hb.cell (p := ⟨w.heap.size, 0, none⟩) zz).trans z0
      replace z1 : v2.cell? ⟨w.heap.size, 1, none⟩ = some (.int .i64 m.lim) := (hb.cell (p := ⟨w.heap.size, 1, none⟩) zz).trans z1
      replace z2 : v2.cell? ⟨w.heap.size, 2, none⟩ = some (.bool m.dr) := (hb.cell (p := ⟨w.heap.size, 2, none⟩) zz).trans z2
      replace z3 : v2.cell? ⟨w.heap.size, 3, none⟩ = some (.slice oc m.c.length cc) := (hb.cell (p := ⟨w.heap.size, 3, none⟩) zz).trans z3
      replace z4 : v2.cell? ⟨w.heap.size, 4, none⟩ = some (.slice ot m.t.length ct) := (hb.cell (p := ⟨w.heap.size, 4, none⟩) zz).trans z4
      replace zz : w.heap.size < v2.heap.size := Nat.lt_of_lt_of_le zz hb.size
      replace f0 : v2.cell? ⟨w.heap.size + 1, 0, none⟩ = some (.int .i64 a) := (hb.cell (p := ⟨w.heap.size + 1, 0, none⟩) zf).trans f0
      replace f1 : v2.cell? ⟨w.heap.size + 1, 1, none⟩ = some (.int .i64 p) := (hb.cell (p := ⟨w.heap.size + 1, 1, none⟩) zf).trans f1
      replace zf : w.heap.size + 1 < v2.heap.size := Nat.lt_of_lt_of_le zf hb.size
      replace o0 : v2.cell? ⟨v1.heap.size, 0, none⟩ = some (.slice s1 n1 k1) := (hb.cell (p := ⟨v1.heap.size, 0, none⟩) zo).trans o0
      replace o1 : v2.cell? ⟨v1.heap.size, 1, none⟩ = some (.slice s2 n2 k2) := (hb.cell (p := ⟨v1.heap.size, 1, none⟩) zo).trans o1
      replace o2 : v2.cell? ⟨v1.heap.size, 2, none⟩ = some (.int .i64 i) := (hb.cell (p := ⟨v1.heap.size, 2, none⟩) zo).trans o2
      replace o3 : v2.cell? ⟨v1.heap.size, 3, none⟩ = some (.int .i64 l) := (hb.cell (p := ⟨v1.heap.size, 3, none⟩) zo).trans o3
      replace o4 : v2.cell? ⟨v1.heap.size, 4, none⟩ = some (.bool d) := (hb.cell (p := ⟨v1.heap.size, 4, none⟩) zo).trans o4
      replace zo : v1.heap.size < v2.heap.size := Nat.lt_of_lt_of_le zo hb.size
      replace HB := hide (HB.out.trans (hb.mono HB.out.size))
      clear hb
      go_wp2
      go_ret
      exact ⟨by rw [HE.out]; rfl, HB.out⟩
    | true =>
      have HF := hide hF
      rw [hF] at hfo HE
      clear hF
      go_enter Try.func17, Try.ntmps17
      go_wp2_with fail
      refine (HOK.out).mono ?_
      rintro e v1 ⟨s1, n1, k1, s2, n2, k2, i, l, d, rfl, hv, hb⟩
      obtain ⟨g, h, mid, e, i1, i2, g1, g2⟩ := hv (by simp)
      injection e with e
      simp at e
      obtain ⟨⟨rfl, rfl, rfl⟩, ⟨rfl, rfl, rfl⟩, rfl, rfl, rfl⟩ := e
      have hz := (i1.1.lt g rfl).2
      have HC := hide (rd_of_own i1.1 rfl)
      clear hv i1 i2
      replace z0 : v1.cell? ⟨w.heap.size, 0, none⟩ = some (.int .i64 m.id) := (hb.cell (p := ⟨w.heap.size, 0, none⟩) zz).trans z0
      replace z1 : v1.cell? ⟨w.heap.size, 1, none⟩ = some (.int .i64 m.lim) := (hb.cell (p := ⟨w.heap.size, 1, none⟩) zz).trans z1
      replace z2 : v1.cell? ⟨w.heap.size, 2, none⟩ = some (.bool m.dr) := (hb.cell (p := ⟨w.heap.size, 2, none⟩) zz).trans z2
      replace z3 : v1.cell? ⟨w.heap.size, 3, none⟩ = some (.slice oc m.c.length cc) := (hb.cell (p := ⟨w.heap.size, 3, none⟩) zz).trans z3
      replace z4 : v1.cell? ⟨w.heap.size, 4, none⟩ = some (.slice ot m.t.length ct) := (hb.cell (p := ⟨w.heap.size, 4, none⟩) zz).trans z4
      replace zz : w.heap.size < v1.heap.size := Nat.lt_of_lt_of_le zz hb.size
      replace f0 : v1.cell? ⟨w.heap.size + 1, 0, none⟩ = some (.int .i64 a) := (hb.cell (p := ⟨w.heap.size + 1, 0, none⟩) zf).trans f0
      replace f1 : v1.cell? ⟨w.heap.size + 1, 1, none⟩ = some (.int .i64 p) := (hb.cell (p := ⟨w.heap.size + 1, 1, none⟩) zf).trans f1
      replace zf : w.heap.size + 1 < v1.heap.size := Nat.lt_of_lt_of_le zf hb.size
      replace HB := hide (HB.out.trans (hb.mono HB.out.size))
      clear hb
      obtain ⟨W2, hW2⟩ : ∃ W, (v1.alloc (.cells #[.slice (some ⟨g, 0, none⟩) m.c.length m.c.length, .slice (some ⟨h, 0, none⟩) m.t.length m.t.length, .int .i64 m.id, .int .i64 m.lim, .bool m.dr] 83)) = W := ⟨_, rfl⟩
      have hb_W2 : Below v1.heap.size v1 W2 := by rw [← hW2]; exact ((Below.refl _ _).alloc (Nat.le_refl _) _)
      replace z0 : W2.cell? ⟨w.heap.size, 0, none⟩ = some (.int .i64 m.id) := (hb_W2.cell (p := ⟨w.heap.size, 0, none⟩) zz).trans z0
      replace z1 : W2.cell? ⟨w.heap.size, 1, none⟩ = some (.int .i64 m.lim) := (hb_W2.cell (p := ⟨w.heap.size, 1, none⟩) zz).trans z1
      replace z2 : W2.cell? ⟨w.heap.size, 2, none⟩ = some (.bool m.dr) := (hb_W2.cell (p := ⟨w.heap.size, 2, none⟩) zz).trans z2
      replace z3 : W2.cell? ⟨w.heap.size, 3, none⟩ = some (.slice oc m.c.length cc) := (hb_W2.cell (p := ⟨w.heap.size, 3, none⟩) zz).trans z3
      replace z4 : W2.cell? ⟨w.heap.size, 4, none⟩ = some (.slice ot m.t.length ct) := (hb_W2.cell (p := ⟨w.heap.size, 4, none⟩) zz).trans z4
      replace zz : w.heap.size < W2.heap.size := Nat.lt_of_lt_of_le zz hb_W2.size
      replace f0 : W2.cell? ⟨w.heap.size + 1, 0, none⟩ = some (.int .i64 a) := (hb_W2.cell (p := ⟨w.heap.size + 1, 0, none⟩) zf).trans f0
      replace f1 : W2.cell? ⟨w.heap.size + 1, 1, none⟩ = some (.int .i64 p) := (hb_W2.cell (p := ⟨w.heap.size + 1, 1, none⟩) zf).trans f1
      replace zf : w.heap.size + 1 < W2.heap.size := Nat.lt_of_lt_of_le zf hb_W2.size
      replace HB := hide (HB.out.trans (hb_W2.mono HB.out.size))
      clear hb_W2
      have zo : v1.heap.size < W2.heap.size := by rw [← hW2]; simp
      have o0 : W2.cell? ⟨v1.heap.size, 0, none⟩ = some (.slice (some ⟨g, 0, none⟩) m.c.length m.c.length) := by rw [← hW2]; simp [go_sem]
      have o1 : W2.cell? ⟨v1.heap.size, 1, none⟩ = some (.slice (some ⟨h, 0, none⟩) m.t.length m.t.length) := by rw [← hW2]; simp [go_sem]
      have o2 : W2.cell? ⟨v1.heap.size, 2, none⟩ = some (.int .i64 m.id) := by rw [← hW2]; simp [go_sem]
      have o3 : W2.cell? ⟨v1.heap.size, 3, none⟩ = some (.int .i64 m.lim) := by rw [← hW2]; simp [go_sem]
      have o4 : W2.cell? ⟨v1.heap.size, 4, none⟩ = some (.bool m.dr) := by rw [← hW2]; simp [go_sem]
      have hz2 := (show Below v1.heap.size v1 W2 by rw [← hW2]; exact (Below.refl _ _).alloc (Nat.le_refl _) _)
      go_wp2_with fail
      refine (hfo _).mono ?_
      rintro e v2 ⟨rfl, hb⟩
      replace hz2 := hz2.trans (hb.mono hz2.size)
      replace z0 : v2.cell? ⟨w.heap.size, 0, none⟩ = some (.int .i64 m.id) := (hb.cell (p := ⟨w.heap.size, 0, none⟩) zz).trans z0
      replace z1 : v2.cell? ⟨w.heap.size, 1, none⟩ = some (.int .i64 m.lim) := (hb.cell (p := ⟨w.heap.size, 1, none⟩) zz).trans z1
      replace z2 : v2.cell? ⟨w.heap.size, 2, none⟩ = some (.bool m.dr) := (hb.cell (p := ⟨w.heap.size, 2, none⟩) zz).trans z2
      replace z3 : v2.cell? ⟨w.heap.size, 3, none⟩ = some (.slice oc m.c.length cc) := (hb.cell (p := ⟨w.heap.size, 3, none⟩) zz).trans z3
      replace z4 : v2.cell? ⟨w.heap.size, 4, none⟩ = some (.slice ot m.t.length ct) := (hb.cell (p := ⟨w.heap.size, 4, none⟩) zz).trans z4
      replace zz : w.heap.size < v2.heap.size := Nat.lt_of_lt_of_le zz hb.size
      replace f0 : v2.cell? ⟨w.heap.size + 1, 0, none⟩ = some (.int .i64 a) := (hb.cell (p := ⟨w.heap.size + 1, 0, none⟩) zf).trans f0
      replace f1 : v2.cell? ⟨w.heap.size + 1, 1, none⟩ = some (.int .i64 p) := (hb.cell (p := ⟨w.heap.size + 1, 1, none⟩) zf).trans f1
      replace zf : w.heap.size + 1 < v2.heap.size := Nat.lt_of_lt_of_le zf hb.size
      replace o0 : v2.cell? ⟨v1.heap.size, 0, none⟩ = some (.slice (some ⟨g, 0, none⟩) m.c.length m.c.length) := (hb.cell (p := ⟨v1.heap.size, 0, none⟩) zo).trans o0
      replace o1 : v2.cell? ⟨v1.heap.size, 1, none⟩ = some (.slice (some ⟨h, 0, none⟩) m.t.length m.t.length) := (hb.cell (p := ⟨v1.heap.size, 1, none⟩) zo).trans o1
      replace o2 : v2.cell? ⟨v1.heap.size, 2, none⟩ = some (.int .i64 m.id) := (hb.cell (p := ⟨v1.heap.size, 2, none⟩) zo).trans o2
      replace o3 : v2.cell? ⟨v1.heap.size, 3, none⟩ = some (.int .i64 m.lim) := (hb.cell (p := ⟨v1.heap.size, 3, none⟩) zo).trans o3
      replace o4 : v2.cell? ⟨v1.heap.size, 4, none⟩ = some (.bool m.dr) := (hb.cell (p := ⟨v1.heap.size, 4, none⟩) zo).trans o4
      replace zo : v1.heap.size < v2.heap.size := Nat.lt_of_lt_of_le zo hb.size
      replace HB := hide (HB.out.trans (hb.mono HB.out.size))
      clear hb
      go_wp2_with fail
      refine (hasI_any g 0 m.c.length m.c a p v2 hpos (by omega) HF.out (Nat.lt_of_lt_of_le hz hz2.size) (fun i hi j hj => (hz2.cell (p := ⟨g, 0 + i * layS.k + j, none⟩) hz).trans (HC.out i hi j hj))).mono ?_
      rintro e v3 ⟨rfl, hb⟩
      replace z0 : v3.cell? ⟨w.heap.size, 0, none⟩ = some (.int .i64 m.id) := (hb.cell (p := ⟨w.heap.size, 0, none⟩) zz).trans z0
      replace z1 : v3.cell? ⟨w.heap.size, 1, none⟩ = some (.int .i64 m.lim) := (hb.cell (p := ⟨w.heap.size, 1, none⟩) zz).trans z1
      replace z2 : v3.cell? ⟨w.heap.size, 2, none⟩ = some (.bool m.dr) := (hb.cell (p := ⟨w.heap.size, 2, none⟩) zz).trans z2
      replace z3 : v3.cell? ⟨w.heap.size, 3, none⟩ = some (.slice oc m.c.length cc) := (hb.cell (p := ⟨w.heap.size, 3, none⟩) zz).trans z3
      replace z4 : v3.cell? ⟨w.heap.size, 4, none⟩ = some (.slice ot m.t.length ct) := (hb.cell (p := ⟨w.heap.size, 4, none⟩) zz).trans z4
      replace zz : w.heap.size < v3.heap.size := Nat.lt_of_lt_of_le zz hb.size
      replace f0 : v3.cell? ⟨w.heap.size + 1, 0, none⟩ = some (.int .i64 a) := (hb.cell (p := ⟨w.heap.size + 1, 0, none⟩) zf).trans f0
      replace f1 : v3.cell? ⟨w.heap.size + 1, 1, none⟩ = some (.int .i64 p) := (hb.cell (p := ⟨w.heap.size + 1, 1, none⟩) zf).trans f1
      replace zf : w.heap.size + 1 < v3.heap.size := Nat.lt_of_lt_of_le zf hb.size
      replace o0 : v3.cell? ⟨v1.heap.size, 0, none⟩ = some (.slice (some ⟨g, 0, none⟩) m.c.length m.c.length) := (hb.cell (p := ⟨v1.heap.size, 0, none⟩) zo).trans o0
      replace o1 : v3.cell? ⟨v1.heap.size, 1, none⟩ = some (.slice (some ⟨h, 0, none⟩) m.t.length m.t.length) := (hb.cell (p := ⟨v1.heap.size, 1, none⟩) zo).trans o1
      replace o2 : v3.cell? ⟨v1.heap.size, 2, none⟩ = some (.int .i64 m.id) := (hb.cell (p := ⟨v1.heap.size, 2, none⟩) zo).trans o2
      replace o3 : v3.cell? ⟨v1.heap.size, 3, none⟩ = some (.int .i64 m.lim) := (hb.cell (p := ⟨v1.heap.size, 3, none⟩) zo).trans o3
      replace o4 : v3.cell? ⟨v1.heap.size, 4, none⟩ = some (.bool m.dr) := (hb.cell (p := ⟨v1.heap.size, 4, none⟩) zo).trans o4
      replace zo : v1.heap.size < v3.heap.size := Nat.lt_of_lt_of_le zo hb.size
      replace HB := hide (HB.out.trans (hb.mono HB.out.size))
      clear hb
      generalize (endL m.c a p).2 = tt at *
      go_wp2
      go_ret
      exact ⟨by rw [HE.out]; simp, HB.out⟩

set_option maxHeartbeats 4000000 in
theorem implShuns_sh (v : Value) (m : Am) (a p : Int) (w : World) (hR : RdA w.heap.size w v m) (hf : m.c.length + m.t.length ≤ 1048576) :
    Calls Try.prog 19 #[v, flow a p] w fun e w' => e = .returned (.bool (shunsB m a p)) ∧ Below w.heap.size w w' := by
  have hR0 := hR
  obtain ⟨vc, vt, rfl, ⟨oc, cc, rfl, rc⟩, ⟨ot, ct, rfl, rt⟩⟩ := hR0
  obtain ⟨W0, hW0⟩ : ∃ W, ((w.alloc (.cells #[.int .i64 m.id, .int .i64 m.lim, .bool m.dr, .slice oc m.c.length cc, .slice ot m.t.length ct] 27)).alloc (.cells #[.int .i64 a, .int .i64 p] 29)) = W := ⟨_, rfl⟩
  have hb_W0 : Below w.heap.size w W0 := by rw [← hW0]; exact (((Below.refl _ _).alloc (Nat.le_refl _) _).alloc (by simp <;> omega) _)
  have HB := hide hb_W0
  clear hb_W0
  have zz : w.heap.size < W0.heap.size := by rw [← hW0]; simp <;> omega
  have z0 : W0.cell? ⟨w.heap.size, 0, none⟩ = some (.int .i64 m.id) := by rw [← hW0]; simp [go_sem]
  have z1 : W0.cell? ⟨w.heap.size, 1, none⟩ = some (.int .i64 m.lim) := by rw [← hW0]; simp [go_sem]
  have z2 : W0.cell? ⟨w.heap.size, 2, none⟩ = some (.bool m.dr) := by rw [← hW0]; simp [go_sem]
  have z3 : W0.cell? ⟨w.heap.size, 3, none⟩ = some (.slice oc m.c.length cc) := by rw [← hW0]; simp [go_sem]
  have z4 : W0.cell? ⟨w.heap.size, 4, none⟩ = some (.slice ot m.t.length ct) := by rw [← hW0]; simp [go_sem]
  have zf : w.heap.size + 1 < W0.heap.size := by rw [← hW0]; simp
  have f0 : W0.cell? ⟨w.heap.size + 1, 0, none⟩ = some (.int .i64 a) := by rw [← hW0]; simp [go_sem]
  have f1 : W0.cell? ⟨w.heap.size + 1, 1, none⟩ = some (.int .i64 p) := by rw [← hW0]; simp [go_sem]
  have HOK := hide (agentFrom_any _ m W0 ((hR.kept HB.out (Nat.le_refl _)).le HB.out.size) hf)
  have hfo := fun W => implFlowOk_any a p W
  have HE := hide (show shunsB m a p = (agentOkB m && flowOkB a p && (endL m.t a p).2) from rfl)
  have HP := hide (fun h => agent_pos5 (m := m) h)
  clear rc rt
  cases hT : agentOkB m with
  | false =>
    rw [hT] at HOK HE
    clear hT hfo
    go_enter Try.func19, Try.ntmps19
    go_wp2_with fail
    refine (HOK.out).mono ?_
    rintro e v1 ⟨s1, n1, k1, s2, n2, k2, i, l, d, rfl, hv, hb⟩
    clear hv
    replace z0 : v1.cell? ⟨w.heap.size, 0, none⟩ = some (.int .i64 m.id) := (hb.cell (p := ⟨w.heap.size, 0, none⟩) zz).trans z0
    replace z1 : v1.cell? ⟨w.heap.size, 1, none⟩ = some (.int .i64 m.lim) := (hb.cell (p := ⟨w.heap.size, 1, none⟩) zz).trans z1
    replace z2 : v1.cell? ⟨w.heap.size, 2, none⟩ = some (.bool m.dr) := (hb.cell (p := ⟨w.heap.size, 2, none⟩) zz).trans z2
    replace z3 : v1.cell? ⟨w.heap.size, 3, none⟩ = some (.slice oc m.c.length cc) := (hb.cell (p := ⟨w.heap.size, 3, none⟩) zz).trans z3
    replace z4 : v1.cell? ⟨w.heap.size, 4, none⟩ = some (.slice ot m.t.length ct) := (hb.cell (p := ⟨w.heap.size, 4, none⟩) zz).trans z4
    replace zz : w.heap.size < v1.heap.size := Nat.lt_of_lt_of_le zz hb.size
    replace f0 : v1.cell? ⟨w.heap.size + 1, 0, none⟩ = some (.int .i64 a) := (hb.cell (p := ⟨w.heap.size + 1, 0, none⟩) zf).trans f0
    replace f1 : v1.cell? ⟨w.heap.size + 1, 1, none⟩ = some (.int .i64 p) := (hb.cell (p := ⟨w.heap.size + 1, 1, none⟩) zf).trans f1
    replace zf : w.heap.size + 1 < v1.heap.size := Nat.lt_of_lt_of_le zf hb.size
    replace HB := hide (HB.out.trans (hb.mono HB.out.size))
    clear hb
    obtain ⟨W2, hW2⟩ : ∃ W, (v1.alloc (.cells #[.slice s1 n1 k1, .slice s2 n2 k2, .int .i64 i, .int .i64 l, .bool d] 83)) = W := ⟨_, rfl⟩
    have hb_W2 : Below v1.heap.size v1 W2 := by rw [← hW2]; exact ((Below.refl _ _).alloc (Nat.le_refl _) _)
    replace z0 : W2.cell? ⟨w.heap.size, 0, none⟩ = some (.int .i64 m.id) := (hb_W2.cell (p := ⟨w.heap.size, 0, none⟩) zz).trans z0
    replace z1 : W2.cell? ⟨w.heap.size, 1, none⟩ = some (.int .i64 m.lim) := (hb_W2.cell (p := ⟨w.heap.size, 1, none⟩) zz).trans z1
    replace z2 : W2.cell? ⟨w.heap.size, 2, none⟩ = some (.bool m.dr) := (hb_W2.cell (p := ⟨w.heap.size, 2, none⟩) zz).trans z2
    replace z3 : W2.cell? ⟨w.heap.size, 3, none⟩ = some (.slice oc m.c.length cc) := (hb_W2.cell (p := ⟨w.heap.size, 3, none⟩) zz).trans z3
    replace z4 : W2.cell? ⟨w.heap.size, 4, none⟩ = some (.slice ot m.t.length ct) := (hb_W2.cell (p := ⟨w.heap.size, 4, none⟩) zz).trans z4
    replace zz : w.heap.size < W2.heap.size := Nat.lt_of_lt_of_le zz hb_W2.size
    replace f0 : W2.cell? ⟨w.heap.size + 1, 0, none⟩ = some (.int .i64 a) := (hb_W2.cell (p := ⟨w.heap.size + 1, 0, none⟩) zf).trans f0
    replace f1 : W2.cell? ⟨w.heap.size + 1, 1, none⟩ = some (.int .i64 p) := (hb_W2.cell (p := ⟨w.heap.size + 1, 1, none⟩) zf).trans f1
    replace zf : w.heap.size + 1 < W2.heap.size := Nat.lt_of_lt_of_le zf hb_W2.size
    replace HB := hide (HB.out.trans (hb_W2.mono HB.out.size))
    clear hb_W2
    have zo : v1.heap.size < W2.heap.size := by rw [← hW2]; simp
    have o0 : W2.cell? ⟨v1.heap.size, 0, none⟩ = some (.slice s1 n1 k1) := by rw [← hW2]; simp [go_sem]
    have o1 : W2.cell? ⟨v1.heap.size, 1, none⟩ = some (.slice s2 n2 k2) := by rw [← hW2]; simp [go_sem]
    have o2 : W2.cell? ⟨v1.heap.size, 2, none⟩ = some (.int .i64 i) := by rw [← hW2]; simp [go_sem]
    have o3 : W2.cell? ⟨v1.heap.size, 3, none⟩ = some (.int .i64 l) := by rw [← hW2]; simp [go_sem]
    have o4 : W2.cell? ⟨v1.heap.size, 4, none⟩ = some (.bool d) := by rw [← hW2]; simp [go_sem]
    go_wp2
    go_ret
    exact ⟨by rw [HE.out]; rfl, HB.out⟩
  | true =>
    have hpos := (HP.out hT).2
    rw [hT] at HOK HE
    clear hT HP
    cases hF : flowOkB a p with
    | false =>
      rw [hF] at hfo HE
      clear hF
      go_enter Try.func19, Try.ntmps19
      go_wp2_with fail
      refine (HOK.out).mono ?_
      rintro e v1 ⟨s1, n1, k1, s2, n2, k2, i, l, d, rfl, hv, hb⟩
      clear hv
      replace z0 : v1.cell? ⟨w.heap.size, 0, none⟩ = some (.int .i64 m.id) := (hb.cell (p := ⟨w.heap.size, 0, none⟩) zz).trans z0
      replace z1 : v1.cell? ⟨w.heap.size, 1, none⟩ = some (.int .i64 m.lim) := (hb.cell (p := ⟨w.heap.size, 1, none⟩) zz).trans z1
      replace z2 : v1.cell? ⟨w.heap.size, 2, none⟩ = some (.bool m.dr) := (hb.cell (p := ⟨w.heap.size, 2, none⟩) zz).trans z2
      replace z3 : v1.cell? ⟨w.heap.size, 3, none⟩ = some (.slice oc m.c.length cc) := (hb.cell (p := ⟨w.heap.size, 3, none⟩) zz).trans z3
      replace z4 : v1.cell? ⟨w.heap.size, 4, none⟩ = some (.slice ot m.t.length ct) := (hb.cell (p := ⟨w.heap.size, 4, none⟩) zz).trans z4
      replace zz : w.heap.size < v1.heap.size := Nat.lt_of_lt_of_le zz hb.size
      replace f0 : v1.cell? ⟨w.heap.size + 1, 0, none⟩ = some (.int .i64 a) := (hb.cell (p := ⟨w.heap.size + 1, 0, none⟩) zf).trans f0
      replace f1 : v1.cell? ⟨w.heap.size + 1, 1, none⟩ = some (.int .i64 p) := (hb.cell (p := ⟨w.heap.size + 1, 1, none⟩) zf).trans f1
      replace zf : w.heap.size + 1 < v1.heap.size := Nat.lt_of_lt_of_le zf hb.size
      replace HB := hide (HB.out.trans (hb.mono HB.out.size))
      clear hb
      obtain ⟨W2, hW2⟩ : ∃ W, (v1.alloc (.cells #[.slice s1 n1 k1, .slice s2 n2 k2, .int .i64 i, .int .i64 l, .bool d] 83)) = W := ⟨_, rfl⟩
      have hb_W2 : Below v1.heap.size v1 W2 := by rw [← hW2]; exact ((Below.refl _ _).alloc (Nat.le_refl _) _)
      replace z0 : W2.cell? ⟨w.heap.size, 0, none⟩ = some (.int .i64 m.id) := (hb_W2.cell (p := ⟨w.heap.size, 0, none⟩) zz).trans z0
      replace z1 : W2.cell? ⟨w.heap.size, 1, none⟩ = some (.int .i64 m.lim) := (hb_W2.cell (p := ⟨w.heap.size, 1, none⟩) zz).trans z1
      replace z2 : W2.cell? ⟨w.heap.size, 2, none⟩ = some (.bool m.dr) := (hb_W2.cell (p := ⟨w.heap.size, 2, none⟩) zz).trans z2
      replace z3 : W2.cell? ⟨w.heap.size, 3, none⟩ = some (.slice oc m.c.length cc) := (hb_W2.cell (p := ⟨w.heap.size, 3, none⟩) zz).trans z3
      replace z4 : W2.cell? ⟨w.heap.size, 4, none⟩ = some (.slice ot m.t.length ct) := (hb_W2.cell (p := ⟨w.heap.size, 4, none⟩) zz).trans z4
      replace zz : w.heap.size < W2.heap.size := Nat.lt_of_lt_of_le zz hb_W2.size
      replace f0 : W2.cell? ⟨w.heap.size + 1, 0, none⟩ = some (.int .i64 a) := (hb_W2.cell (p := ⟨w.heap.size + 1, 0, none⟩) zf).trans f0
      replace f1 : W2.cell? ⟨w.heap.size + 1, 1, none⟩ = some (.int .i64 p) := (hb_W2.cell (p := ⟨w.heap.size + 1, 1, none⟩) zf).trans f1
      replace zf : w.heap.size + 1 < W2.heap.size := Nat.lt_of_lt_of_le zf hb_W2.size
      replace HB := hide (HB.out.trans (hb_W2.mono HB.out.size))
      clear hb_W2
      have zo : v1.heap.size < W2.heap.size := by rw [← hW2]; simp
      have o0 : W2.cell? ⟨v1.heap.size, 0, none⟩ = some (.slice s1 n1 k1) := by rw [← hW2]; simp [go_sem]
      have o1 : W2.cell? ⟨v1.heap.size, 1, none⟩ = some (.slice s2 n2 k2) := by rw [← hW2]; simp [go_sem]
      have o2 : W2.cell? ⟨v1.heap.size, 2, none⟩ = some (.int .i64 i) := by rw [← hW2]; simp [go_sem]
      have o3 : W2.cell? ⟨v1.heap.size, 3, none⟩ = some (.int .i64 l) := by rw [← hW2]; simp [go_sem]
      have o4 : W2.cell? ⟨v1.heap.size, 4, none⟩ = some (.bool d) := by rw [← hW2]; simp [go_sem]
      go_wp2_with fail
      refine (hfo _).mono ?_
      rintro e v2 ⟨rfl, hb⟩
      replace z0 : v2.cell? ⟨w.heap.size, 0, none⟩ = some (.int .i64 m.id) := (hb.cell (p := ⟨w.heap.size, 0, none⟩) zz).trans z0
      replace z1 : v2.cell? ⟨w.heap.size, 1, none⟩ = some (.int .i64 m.lim) := (hb.cell (p := ⟨w.heap.size, 1, none⟩) zz).trans z1
      replace z2 : v2.cell? ⟨w.heap.size, 2, none⟩ = some (.bool m.dr) := (hb.cell (p := ⟨w.heap.size, 2, none⟩) zz).trans z2
      replace z3 : v2.cell? ⟨w.heap.size, 3, none⟩ = some (.slice oc m.c.length cc) := (hb.cell (p := ⟨w.heap.size, 3, none⟩) zz).trans z3
      replace z4 : v2.cell? ⟨w.heap.size, 4, none⟩ = some (.slice ot m.t.length ct) := (hb.cell (p := ⟨w.heap.size, 4, none⟩) zz).trans z4
      replace zz : w.heap.size < v2.heap.size := Nat.lt_of_lt_of_le zz hb.size
      replace f0 : v2.cell? ⟨w.heap.size + 1, 0, none⟩ = some (.int .i64 a) := (hb.cell (p := ⟨w.heap.size + 1, 0, none⟩) zf).trans f0
      replace f1 : v2.cell? ⟨w.heap.size + 1, 1, none⟩ = some (.int .i64 p) := (hb.cell (p := ⟨w.heap.size + 1, 1, none⟩) zf).trans f1
      replace zf : w.heap.size + 1 < v2.heap.size := Nat.lt_of_lt_of_le zf hb.size
      replace o0 : v2.cell? ⟨v1.heap.size, 0, none⟩ = some (.slice s1 n1 k1) := (hb.cell (p := ⟨v1.heap.size, 0, none⟩) zo).trans o0
      replace o1 : v2.cell? ⟨v1.heap.size, 1, none⟩ = some (.slice s2 n2 k2) := (hb.cell (p := ⟨v1.heap.size, 1, none⟩) zo).trans o1
      replace o2 : v2.cell? ⟨v1.heap.size, 2, none⟩ = some (.int .i64 i) := (hb.cell (p := ⟨v1.heap.size, 2, none⟩) zo).trans o2
      replace o3 : v2.cell? ⟨v1.heap.size, 3, none⟩ = some (.int .i64 l) := (hb.cell (p := ⟨v1.heap.size, 3, none⟩) zo).trans o3
      replace o4 : v2.cell? ⟨v1.heap.size, 4, none⟩ = some (.bool d) := (hb.cell (p := ⟨v1.heap.size, 4, none⟩) zo).trans o4
      replace zo : v1.heap.size < v2.heap.size := Nat.lt_of_lt_of_le zo hb.size
      replace HB := hide (HB.out.trans (hb.mono HB.out.size))
      clear hb
      go_wp2
      go_ret
      exact ⟨by rw [HE.out]; rfl, HB.out⟩
    | true =>
      have HF := hide hF
      rw [hF] at hfo HE
      clear hF
      go_enter Try.func19, Try.ntmps19
      go_wp2_with fail
      refine (HOK.out).mono ?_
      rintro e v1 ⟨s1, n1, k1, s2, n2, k2, i, l, d, rfl, hv, hb⟩
      obtain ⟨g, h, mid, e, i1, i2, g1, g2⟩ := hv (by simp)
      injection e with e
      simp at e
      obtain ⟨⟨rfl, rfl, rfl⟩, ⟨rfl, rfl, rfl⟩, rfl, rfl, rfl⟩ := e
      have hz := (i2.1.lt h rfl).2
      have HC := hide (rd_of_own i2.1 rfl)
      clear hv i1 i2
      replace z0 : v1.cell? ⟨w.heap.size, 0, none⟩ = some (.int .i64 m.id) := (hb.cell (p := ⟨w.heap.size, 0, none⟩) zz).trans z0
      replace z1 : v1.cell? ⟨w.heap.size, 1, none⟩ = some (.int .i64 m.lim) := (hb.cell (p := ⟨w.heap.size, 1, none⟩) zz).trans z1
      replace z2 : v1.cell? ⟨w.heap.size, 2, none⟩ = some (.bool m.dr) := (hb.cell (p := ⟨w.heap.size, 2, none⟩) zz).trans z2
      replace z3 : v1.cell? ⟨w.heap.size, 3, none⟩ = some (.slice oc m.c.length cc) := (hb.cell (p := ⟨w.heap.size, 3, none⟩) zz).trans z3
      replace z4 : v1.cell? ⟨w.heap.size, 4, none⟩ = some (.slice ot m.t.length ct) := (hb.cell (p := ⟨w.heap.size, 4, none⟩) zz).trans z4
      replace zz : w.heap.size < v1.heap.size := Nat.lt_of_lt_of_le zz hb.size
      replace f0 : v1.cell? ⟨w.heap.size + 1, 0, none⟩ = some (.int .i64 a) := (hb.cell (p := ⟨w.heap.size + 1, 0, none⟩) zf).trans f0
      replace f1 : v1.cell? ⟨w.heap.size + 1, 1, none⟩ = some (.int .i64 p) := (hb.cell (p := ⟨w.heap.size + 1, 1, none⟩) zf).trans f1
      replace zf : w.heap.size + 1 < v1.heap.size := Nat.lt_of_lt_of_le zf hb.size
      replace HB := hide (HB.out.trans (hb.mono HB.out.size))
      clear hb
      obtain ⟨W2, hW2⟩ : ∃ W, (v1.alloc (.cells #[.slice (some ⟨g, 0, none⟩) m.c.length m.c.length, .slice (some ⟨h, 0, none⟩) m.t.length m.t.length, .int .i64 m.id, .int .i64 m.lim, .bool m.dr] 83)) = W := ⟨_, rfl⟩
      have hb_W2 : Below v1.heap.size v1 W2 := by rw [← hW2]; exact ((Below.refl _ _).alloc (Nat.le_refl _) _)
      replace z0 : W2.cell? ⟨w.heap.size, 0, none⟩ = some (.int .i64 m.id) := (hb_W2.cell (p := ⟨w.heap.size, 0, none⟩) zz).trans z0
      replace z1 : W2.cell? ⟨w.heap.size, 1, none⟩ = some (.int .i64 m.lim) := (hb_W2.cell (p := ⟨w.heap.size, 1, none⟩) zz).trans z1
      replace z2 : W2.cell? ⟨w.heap.size, 2, none⟩ = some (.bool m.dr) := (hb_W2.cell (p := ⟨w.heap.size, 2, none⟩) zz).trans z2
      replace z3 : W2.cell? ⟨w.heap.size, 3, none⟩ = some (.slice oc m.c.length cc) := (hb_W2.cell (p := ⟨w.heap.size, 3, none⟩) zz).trans z3
      replace z4 : W2.cell? ⟨w.heap.size, 4, none⟩ = some (.slice ot m.t.length ct) := (hb_W2.cell (p := ⟨w.heap.size, 4, none⟩) zz).trans z4
      replace zz : w.heap.size < W2.heap.size := Nat.lt_of_lt_of_le zz hb_W2.size
      replace f0 : W2.cell? ⟨w.heap.size + 1, 0, none⟩ = some (.int .i64 a) := (hb_W2.cell (p := ⟨w.heap.size + 1, 0, none⟩) zf).trans f0
      replace f1 : W2.cell? ⟨w.heap.size + 1, 1, none⟩ = some (.int .i64 p) := (hb_W2.cell (p := ⟨w.heap.size + 1, 1, none⟩) zf).trans f1
      replace zf : w.heap.size + 1 < W2.heap.size := Nat.lt_of_lt_of_le zf hb_W2.size
      replace HB := hide (HB.out.trans (hb_W2.mono HB.out.size))
      clear hb_W2
      have zo : v1.heap.size < W2.heap.size := by rw [← hW2]; simp
      have o0 : W2.cell? ⟨v1.heap.size, 0, none⟩ = some (.slice (some ⟨g, 0, none⟩) m.c.length m.c.length) := by rw [← hW2]; simp [go_sem]
      have o1 : W2.cell? ⟨v1.heap.size, 1, none⟩ = some (.slice (some ⟨h, 0, none⟩) m.t.length m.t.length) := by rw [← hW2]; simp [go_sem]
      have o2 : W2.cell? ⟨v1.heap.size, 2, none⟩ = some (.int .i64 m.id) := by rw [← hW2]; simp [go_sem]
      have o3 : W2.cell? ⟨v1.heap.size, 3, none⟩ = some (.int .i64 m.lim) := by rw [← hW2]; simp [go_sem]
      have o4 : W2.cell? ⟨v1.heap.size, 4, none⟩ = some (.bool m.dr) := by rw [← hW2]; simp [go_sem]
      have hz2 := (show Below v1.heap.size v1 W2 by rw [← hW2]; exact (Below.refl _ _).alloc (Nat.le_refl _) _)
      go_wp2_with fail
      refine (hfo _).mono ?_
      rintro e v2 ⟨rfl, hb⟩
      replace hz2 := hz2.trans (hb.mono hz2.size)
      replace z0 : v2.cell? ⟨w.heap.size, 0, none⟩ = some (.int .i64 m.id) := (hb.cell (p := ⟨w.heap.size, 0, none⟩) zz).trans z0
      replace z1 : v2.cell? ⟨w.heap.size, 1, none⟩ = some (.int .i64 m.lim) := (hb.cell (p := ⟨w.heap.size, 1, none⟩) zz).trans z1
      replace z2 : v2.cell? ⟨w.heap.size, 2, none⟩ = some (.bool m.dr) := (hb.cell (p := ⟨w.heap.size, 2, none⟩) zz).trans z2
      replace z3 : v2.cell? ⟨w.heap.size, 3, none⟩ = some (.slice oc m.c.length cc) := (hb.cell (p := ⟨w.heap.size, 3, none⟩) zz).trans z3
      replace z4 : v2.cell? ⟨w.heap.size, 4, none⟩ = some (.slice ot m.t.length ct) := (hb.cell (p := ⟨w.heap.size, 4, none⟩) zz).trans z4
      replace zz : w.heap.size < v2.heap.size := Nat.lt_of_lt_of_le zz hb.size
      replace f0 : v2.cell? ⟨w.heap.size + 1, 0, none⟩ = some (.int .i64 a) := (hb.cell (p := ⟨w.heap.size + 1, 0, none⟩) zf).trans f0
      replace f1 : v2.cell? ⟨w.heap.size + 1, 1, none⟩ = some (.int .i64 p) := (hb.cell (p := ⟨w.heap.size + 1, 1, none⟩) zf).trans f1
      replace zf : w.heap.size + 1 < v2.heap.size := Nat.lt_of_lt_of_le zf hb.size
      replace o0 : v2.cell? ⟨v1.heap.size, 0, none⟩ = some (.slice (some ⟨g, 0, none⟩) m.c.length m.c.length) := (hb.cell (p := ⟨v1.heap.size, 0, none⟩) zo).trans o0
      replace o1 : v2.cell? ⟨v1.heap.size, 1, none⟩ = some (.slice (some ⟨h, 0, none⟩) m.t.length m.t.length) := (hb.cell (p := ⟨v1.heap.size, 1, none⟩) zo).trans o1
      replace o2 : v2.cell? ⟨v1.heap.size, 2, none⟩ = some (.int .i64 m.id) := (hb.cell (p := ⟨v1.heap.size, 2, none⟩) zo).trans o2
      replace o3 : v2.cell? ⟨v1.heap.size, 3, none⟩ = some (.int .i64 m.lim) := (hb.cell (p := ⟨v1.heap.size, 3, none⟩) zo).trans o3
      replace o4 : v2.cell? ⟨v1.heap.size, 4, none⟩ = some (.bool m.dr) := (hb.cell (p := ⟨v1.heap.size, 4, none⟩) zo).trans o4
      replace zo : v1.heap.size < v2.heap.size := Nat.lt_of_lt_of_le zo hb.size
      replace HB := hide (HB.out.trans (hb.mono HB.out.size))
      clear hb
      go_wp2_with fail
      refine (shunsI_any h 0 m.t.length m.t a p v2 hpos (by omega) HF.out (Nat.lt_of_lt_of_le hz hz2.size) (fun i hi j hj => (hz2.cell (p := ⟨h, 0 + i * layS.k + j, none⟩) hz).trans (HC.out i hi j hj))).mono ?_
      rintro e v3 ⟨rfl, hb⟩
      replace z0 : v3.cell? ⟨w.heap.size, 0, none⟩ = some (.int .i64 m.id) := (hb.cell (p := ⟨w.heap.size, 0, none⟩) zz).trans z0
      replace z1 : v3.cell? ⟨w.heap.size, 1, none⟩ = some (.int .i64 m.lim) := (hb.cell (p := ⟨w.heap.size, 1, none⟩) zz).trans z1
      replace z2 : v3.cell? ⟨w.heap.size, 2, none⟩ = some (.bool m.dr) := (hb.cell (p := ⟨w.heap.size, 2, none⟩) zz).trans z2
      replace z3 : v3.cell? ⟨w.heap.size, 3, none⟩ = some (.slice oc m.c.length cc) := (hb.cell (p := ⟨w.heap.size, 3, none⟩) zz).trans z3
      replace z4 : v3.cell? ⟨w.heap.size, 4, none⟩ = some (.slice ot m.t.length ct) := (hb.cell (p := ⟨w.heap.size, 4, none⟩) zz).trans z4
      replace zz : w.heap.size < v3.heap.size := Nat.lt_of_lt_of_le zz hb.size
      replace f0 : v3.cell? ⟨w.heap.size + 1, 0, none⟩ = some (.int .i64 a) := (hb.cell (p := ⟨w.heap.size + 1, 0, none⟩) zf).trans f0
      replace f1 : v3.cell? ⟨w.heap.size + 1, 1, none⟩ = some (.int .i64 p) := (hb.cell (p := ⟨w.heap.size + 1, 1, none⟩) zf).trans f1
      replace zf : w.heap.size + 1 < v3.heap.size := Nat.lt_of_lt_of_le zf hb.size
      replace o0 : v3.cell? ⟨v1.heap.size, 0, none⟩ = some (.slice (some ⟨g, 0, none⟩) m.c.length m.c.length) := (hb.cell (p := ⟨v1.heap.size, 0, none⟩) zo).trans o0
      replace o1 : v3.cell? ⟨v1.heap.size, 1, none⟩ = some (.slice (some ⟨h, 0, none⟩) m.t.length m.t.length) := (hb.cell (p := ⟨v1.heap.size, 1, none⟩) zo).trans o1
      replace o2 : v3.cell? ⟨v1.heap.size, 2, none⟩ = some (.int .i64 m.id) := (hb.cell (p := ⟨v1.heap.size, 2, none⟩) zo).trans o2
      replace o3 : v3.cell? ⟨v1.heap.size, 3, none⟩ = some (.int .i64 m.lim) := (hb.cell (p := ⟨v1.heap.size, 3, none⟩) zo).trans o3
      replace o4 : v3.cell? ⟨v1.heap.size, 4, none⟩ = some (.bool m.dr) := (hb.cell (p := ⟨v1.heap.size, 4, none⟩) zo).trans o4
      replace zo : v1.heap.size < v3.heap.size := Nat.lt_of_lt_of_le zo hb.size
      replace HB := hide (HB.out.trans (hb.mono HB.out.size))
      clear hb
      generalize (endL m.t a p).2 = tt at *
      go_wp2
      go_ret
      exact ⟨by rw [HE.out]; simp, HB.out⟩

end Go.Proofs.Ythcbhfgbplgfiaa
