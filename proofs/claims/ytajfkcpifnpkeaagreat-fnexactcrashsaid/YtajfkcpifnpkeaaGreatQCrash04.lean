/- Several texts in one: SCrashS, SCrash3. -/
import Derived.Laws.MakeOwn
import Derived.Deep.RegionHeld3
import Derived.Deep.RegionLaw
import Derived.Test.YtajfkcpifnpkeaaGreatQCrash02
import Derived.Test.YtajfkcpifnpkeaaGreatQCrash03
import Derived.Test.YtajfkcpifnpkeaaGreatGrOpenB
/- A balancer crashes: the model's side. -/
namespace Go.Proofs.YtajfkcpifnpkeaaGreat
open Go.ChangeShapes Go.WideShapes Go.ChangeAt Go.RowKit Go.Joins
set_option linter.unusedVariables false
set_option linter.unusedSimpArgs false


theorem l4replay_rc {key safe : Int} {o : Option Addr} {n cap : Nat} {cs : List Cd} {w : World} (hn : n = cs.length) (hR : RdC w.heap.size w o cs) (h : journalB key cs safe = true) :
    Calls Tryz.prog 50 #[.int .i64 key, .slice o n cap] w fun e w' => ∃ uo un uc vo vn vc, e = .returned (plv key (.slice uo un uc) (.slice vo vn vc)) ∧ RcPm w.heap.size w'.heap.size w' (plv key (.slice uo un uc) (.slice vo vn vc)) (replayM ⟨key, cs, safe⟩) ∧ Below w.heap.size w w' := by
  subst hn
  have h0 := h
  unfold journalB at h
  simp only [Bool.and_eq_true, decide_eq_true_eq] at h
  refine (l4replay_any key o cap cs w hR h.1.1.1.1 h.1.1.1.2 h.2).mono ?_
  rintro e w' ⟨oB, cB, oR, cR, hs, rfl, owB, owR, pt, hs3, hb⟩
  have e9 : replayM ⟨key, cs, safe⟩ = ⟨key, servedOf cs cs.length, ringT key (ringR cs cs.length)⟩ := if_pos h0
  refine ⟨_, _, _, _, _, _, rfl, ?_, hb⟩
  rw [e9]
  exact own_pool rfl owB owR (ptabs_g pt)
/-- What l7crash leaves. -/
def Crash7 (m : Bm) (keep : Int) (w : World) (e : Ending) (w' : World) : Prop := ∃ v, e = .returned v ∧ OwBm w.heap.size w'.heap.size w' v (crashM m keep) ∧ Below w.heap.size w w'

set_option maxRecDepth 100000 in
set_option maxHeartbeats 8000000 in
theorem l7crash_any (kj : Int) (o : Option Addr) (nj c : Nat) (sj kp : Int) (ob : Option Addr) (np cb : Nat) (oR : Option Addr) (nr cR : Nat) (ot : Option Addr) (nt ct : Nat) (lj : List Cd) (lb : List Bk) (lr : List (List (List Int))) (lt : List Sl) (keep : Int) (w : World)
    (hnj : nj = lj.length) (hnt : nt = lt.length) (h1 : RdC w.heap.size w o lj) (h1c : o = none → c = 0) (h2 : RdPm w.heap.size w (plv kp (.slice ob np cb) (.slice oR nr cR)) ⟨kp, lb, lr⟩) (h4 : RdS w.heap.size w ot lt) (hf : fitB0 ⟨⟨kj, lj, sj⟩, ⟨kp, lb, lr⟩, lt⟩) (hrm : nj ≤ c) (hb : balB ⟨⟨kj, lj, sj⟩, ⟨kp, lb, lr⟩, lt⟩ = true) (hkp : 0 ≤ keep) :
    Calls Tryz.prog 93 #[balv kj (.slice o nj c) sj kp (.slice ob np cb) (.slice oR nr cR) (.slice ot nt ct), .int .i64 keep] w fun e w' => Crash7 ⟨⟨kj, lj, sj⟩, ⟨kp, lb, lr⟩, lt⟩ keep w e w' := by
  have ht := (tableOkB_iff.1 (balB_tab hb)).2.1
  dsimp only at ht
  obtain ⟨cs, hmk, hown⟩ := madeN nt (by omega)
  have HO := hide hown
  have HCU := hide (fun W (hb : Below w.heap.size w W) => specCut_sh (jrn kj (.slice o nj c) sj) ⟨kj, lj, sj⟩ keep W ⟨_, rfl, o, c, by rw [hnj], (h1.kept hb (Nat.le_refl _)).le hb.size⟩ ⟨kj, o, nj, c, sj, rfl, hrm, h1c⟩ hf.1)
  have hcj := cut_jrn (m := ⟨kj, lj, sj⟩) (keep := keep) (balB_jrn hb) hkp
  have HCM := hide (show crashM ⟨⟨kj, lj, sj⟩, ⟨kp, lb, lr⟩, lt⟩ keep = ⟨cutM ⟨kj, lj, sj⟩ keep, replayM (cutM ⟨kj, lj, sj⟩ keep), List.replicate lt.length sl0⟩ from rfl)
  rw [← hnt] at HCM
  obtain ⟨cm, hcm⟩ : ∃ x, cutM ⟨kj, lj, sj⟩ keep = x := ⟨_, rfl⟩
  rw [hcm] at HCU hcj HCM
  obtain ⟨kc, lc, sc⟩ := cm
  dsimp only at hcj
  have HKK := hide (show (replayM ⟨kc, lc, sc⟩).key = kc by unfold replayM; rw [if_pos hcj])
  have HRP := hide (fun n9 o9 c9 W (hn9 : n9 = lc.length) (h9 : RdC W.heap.size W o9 lc) => l4replay_rc (key := kc) (safe := sc) (cap := c9) hn9 h9 hcj)
  clear hown hcm hb h1 h2 h4 hrm hf hnj hnt ht hcj
  obtain ⟨W0, hW0⟩ : ∃ W, ((w.alloc (.cells #[.int .i64 kj, .slice o nj c, .int .i64 sj, .int .i64 kp, .slice ob np cb, .slice oR nr cR, .slice ot nt ct] 46)).alloc (.cells #[.int .i64 0, .slice none 0 0, .int .i64 0, .int .i64 0, .slice none 0 0, .slice none 0 0, .slice none 0 0] 46)) = W := ⟨_, rfl⟩
  have hb_W0 : Below w.heap.size w W0 := by rw [← hW0]; exact (((Below.refl _ _).alloc (Nat.le_refl _) _).alloc (by simp <;> omega) _)
  have HB := hide hb_W0
  clear hb_W0
  have zz : w.heap.size < W0.heap.size := by rw [← hW0]; simp <;> omega
  have z0 : W0.cell? ⟨w.heap.size, 0, none⟩ = some (.int .i64 kj) := by rw [← hW0]; simp [go_sem]
  have z1 : W0.cell? ⟨w.heap.size, 1, none⟩ = some (.slice o nj c) := by rw [← hW0]; simp [go_sem]
  have z2 : W0.cell? ⟨w.heap.size, 2, none⟩ = some (.int .i64 sj) := by rw [← hW0]; simp [go_sem]
  have z3 : W0.cell? ⟨w.heap.size, 3, none⟩ = some (.int .i64 kp) := by rw [← hW0]; simp [go_sem]
  have z4 : W0.cell? ⟨w.heap.size, 4, none⟩ = some (.slice ob np cb) := by rw [← hW0]; simp [go_sem]
  have z5 : W0.cell? ⟨w.heap.size, 5, none⟩ = some (.slice oR nr cR) := by rw [← hW0]; simp [go_sem]
  have z6 : W0.cell? ⟨w.heap.size, 6, none⟩ = some (.slice ot nt ct) := by rw [← hW0]; simp [go_sem]
  have zr : w.heap.size + 1 < W0.heap.size := by rw [← hW0]; simp
  have r0 : W0.cell? ⟨w.heap.size + 1, 0, none⟩ = some (.int .i64 0) := by rw [← hW0]; simp [go_sem]
  have r1 : W0.cell? ⟨w.heap.size + 1, 1, none⟩ = some (.slice none 0 0) := by rw [← hW0]; simp [go_sem]
  have r2 : W0.cell? ⟨w.heap.size + 1, 2, none⟩ = some (.int .i64 0) := by rw [← hW0]; simp [go_sem]
  have r3 : W0.cell? ⟨w.heap.size + 1, 3, none⟩ = some (.int .i64 0) := by rw [← hW0]; simp [go_sem]
  have r4 : W0.cell? ⟨w.heap.size + 1, 4, none⟩ = some (.slice none 0 0) := by rw [← hW0]; simp [go_sem]
  have r5 : W0.cell? ⟨w.heap.size + 1, 5, none⟩ = some (.slice none 0 0) := by rw [← hW0]; simp [go_sem]
  have r6 : W0.cell? ⟨w.heap.size + 1, 6, none⟩ = some (.slice none 0 0) := by rw [← hW0]; simp [go_sem]
  have fr0 : W0.frozen? ⟨w.heap.size + 1, 0, none⟩ = false := by rw [← hW0]; simp [go_sem]
  have fr1 : W0.frozen? ⟨w.heap.size + 1, 1, none⟩ = false := by rw [← hW0]; simp [go_sem]
  have fr2 : W0.frozen? ⟨w.heap.size + 1, 2, none⟩ = false := by rw [← hW0]; simp [go_sem]
  have fr3 : W0.frozen? ⟨w.heap.size + 1, 3, none⟩ = false := by rw [← hW0]; simp [go_sem]
  have fr4 : W0.frozen? ⟨w.heap.size + 1, 4, none⟩ = false := by rw [← hW0]; simp [go_sem]
  have fr5 : W0.frozen? ⟨w.heap.size + 1, 5, none⟩ = false := by rw [← hW0]; simp [go_sem]
  have fr6 : W0.frozen? ⟨w.heap.size + 1, 6, none⟩ = false := by rw [← hW0]; simp [go_sem]
  have hzr : w.heap.size + 1 < W0.heap.size := zr
  have HXR := hide (show W0.heap[w.heap.size + 1]? = some (.cells #[.int .i64 0, .slice none 0 0, .int .i64 0, .int .i64 0, .slice none 0 0, .slice none 0 0, .slice none 0 0] 46 (0, 0)) by rw [← hW0]; exact box_new2 w _ _ _)
  go_enter Tryz.func93, Tryz.ntmps93
  go_wp2_with fail
  refine (HCU.out W0 HB.out).mono ?_
  rintro e v1 ⟨vj, rfl, inj, hb⟩
  obtain ⟨vl, e1, o1, c1, e2, _⟩ := inj.rd
  subst e1 e2
  have HIJ := hide inj
  have hs1 := hb.size
  replace HXR := hide ((hb.block _ hzr).trans HXR.out)
  clear inj HCU
  replace z0 := bC hb z0 zz
  replace z1 := bC hb z1 zz
  replace z2 := bC hb z2 zz
  replace z3 := bC hb z3 zz
  replace z4 := bC hb z4 zz
  replace z5 := bC hb z5 zz
  replace z6 := bC hb z6 zz
  replace zz := Nat.lt_of_lt_of_le zz hb.size
  replace r0 := bC hb r0 zr
  replace r1 := bC hb r1 zr
  replace r2 := bC hb r2 zr
  replace r3 := bC hb r3 zr
  replace r4 := bC hb r4 zr
  replace r5 := bC hb r5 zr
  replace r6 := bC hb r6 zr
  replace fr0 := bF hb fr0 zr
  replace fr1 := bF hb fr1 zr
  replace fr2 := bF hb fr2 zr
  replace fr3 := bF hb fr3 zr
  replace fr4 := bF hb fr4 zr
  replace fr5 := bF hb fr5 zr
  replace fr6 := bF hb fr6 zr
  replace zr := Nat.lt_of_lt_of_le zr hb.size
  replace HB := hide (HB.out.trans (hb.mono HB.out.size))
  clear hb
  dsimp only at HIJ ⊢
  have HNC := hide (rfl : lc.length = lc.length)
  obtain ⟨nc, hnc⟩ : ∃ x, lc.length = x := ⟨_, rfl⟩
  rw [hnc] at HIJ ⊢
  replace HNC := hide hnc.symm
  clear hnc
  obtain ⟨W2, hW2⟩ : ∃ W, (v1.alloc (.cells #[.int .i64 kc, .slice o1 nc c1, .int .i64 sc] 38)) = W := ⟨_, rfl⟩
  have hb_W2 : Below v1.heap.size v1 W2 := by rw [← hW2]; exact ((Below.refl _ _).alloc (Nat.le_refl _) _)
  replace z0 := bC hb_W2 z0 zz
  replace z1 := bC hb_W2 z1 zz
  replace z2 := bC hb_W2 z2 zz
  replace z3 := bC hb_W2 z3 zz
  replace z4 := bC hb_W2 z4 zz
  replace z5 := bC hb_W2 z5 zz
  replace z6 := bC hb_W2 z6 zz
  replace zz := Nat.lt_of_lt_of_le zz hb_W2.size
  replace r0 := bC hb_W2 r0 zr
  replace r1 := bC hb_W2 r1 zr
  replace r2 := bC hb_W2 r2 zr
  replace r3 := bC hb_W2 r3 zr
  replace r4 := bC hb_W2 r4 zr
  replace r5 := bC hb_W2 r5 zr
  replace r6 := bC hb_W2 r6 zr
  replace fr0 := bF hb_W2 fr0 zr
  replace fr1 := bF hb_W2 fr1 zr
  replace fr2 := bF hb_W2 fr2 zr
  replace fr3 := bF hb_W2 fr3 zr
  replace fr4 := bF hb_W2 fr4 zr
  replace fr5 := bF hb_W2 fr5 zr
  replace fr6 := bF hb_W2 fr6 zr
  replace zr := Nat.lt_of_lt_of_le zr hb_W2.size
  replace HB := hide (HB.out.trans (hb_W2.mono HB.out.size))
  clear hb_W2
  have zj : v1.heap.size < W2.heap.size := by rw [← hW2]; simp
  have j0 : W2.cell? ⟨v1.heap.size, 0, none⟩ = some (.int .i64 kc) := by rw [← hW2]; simp [go_sem]
  have j1 : W2.cell? ⟨v1.heap.size, 1, none⟩ = some (.slice o1 nc c1) := by rw [← hW2]; simp [go_sem]
  have j2 : W2.cell? ⟨v1.heap.size, 2, none⟩ = some (.int .i64 sc) := by rw [← hW2]; simp [go_sem]
  replace HIJ := hide (HIJ.out.step (Stp.of (lo := 0) (hi := 0) (show Below v1.heap.size v1 W2 by rw [← hW2]; exact (Below.refl _ _).alloc (Nat.le_refl _) _)) (.inl (Nat.zero_le _)))
  have hs2 : v1.heap.size < W2.heap.size := zj
  have hrW : w.heap.size + 1 < W2.heap.size := by omega
  replace HXR := hide (((show Below v1.heap.size v1 W2 by rw [← hW2]; exact (Below.refl _ _).alloc (Nat.le_refl _) _).block _ (by omega)).trans HXR.out)
  have HRC := hide (fun W (hb : Below W2.heap.size W2 W) => HRP.out nc o1 c1 W HNC.out (by obtain ⟨vl9, e9, o9, c9, e99, r9⟩ := HIJ.out.rd; injection e9 with e9; simp at e9; subst e9; injection e99 with a1 a2 a3; subst a1; exact ((r9.le (show v1.heap.size ≤ W2.heap.size by omega)).kept hb (Nat.le_refl _)).le hb.size))
  clear HRP
  have hne0 : w.heap.size ≠ w.heap.size + 1 := by omega
  have hne1 : v1.heap.size ≠ w.heap.size + 1 := by omega
  skip
  have bz6 := cell_alloc z6 zz (.cells cs 99)
  have bj0 := cell_alloc j0 zj (.cells cs 99)
  have bj1 := cell_alloc j1 zj (.cells cs 99)
  have bj2 := cell_alloc j2 zj (.cells cs 99)
  go_wp2
  go_region_held3 (fun w' => w'.cell? ⟨w.heap.size, 6, none⟩ = some (.slice ot nt ct) ∧ w'.cell? ⟨v1.heap.size, 0, none⟩ = some (.int .i64 kc) ∧ w'.cell? ⟨v1.heap.size, 1, none⟩ = some (.slice o1 nc c1) ∧ w'.cell? ⟨v1.heap.size, 2, none⟩ = some (.int .i64 sc)) (first | with_reducible exact ⟨z6, j0, j1, j2⟩ | with_reducible exact ⟨bz6, bj0, bj1, bj2⟩ | with_reducible exact ⟨kz6, kj0, kj1, kj2⟩ | with_reducible exact ⟨kaz6, kaj0, kaj1, kaj2⟩ | with_reducible exact hk1 _ _ _ _ _ _ _ | with_reducible exact hk2 _ _ _ _ _ _ _ | go_keep) (first | (go_at_call 50; (with_reducible refine (HRC.out W2.drew (Below.drew (Below.refl _ _))).mono ?_); rintro e x0 ⟨uo, un, uc, vo, vn, vc, rfl, hrc, hq⟩; have hx : Below W2.heap.size W2 x0 := (Below.drew (Below.refl _ _)).trans hq; have zq : w.heap.size + 1 < x0.heap.size := Nat.lt_of_lt_of_le hrW hx.size; have zqz : w.heap.size < x0.heap.size := Nat.lt_of_lt_of_le zz hx.size; have zqj : v1.heap.size < x0.heap.size := Nat.lt_of_lt_of_le zj hx.size; have kz6 := bC hx z6 zz; have kj0 := bC hx j0 zj; have kj1 := bC hx j1 zj; have kj2 := bC hx j2 zj; have kaz6 := cell_alloc kz6 zqz (.cells cs 99); have kaj0 := cell_alloc kj0 zqj (.cells cs 99); have kaj1 := cell_alloc kj1 zqj (.cells cs 99); have kaj2 := cell_alloc kj2 zqj (.cells cs 99); have q0 := bC hx r0 hrW; have qf0 := bF hx fr0 hrW; have a0 := cell_alloc q0 zq (.cells cs 99); have af0 := frozen_alloc qf0 zq (.cells cs 99); have q1 := bC hx r1 hrW; have qf1 := bF hx fr1 hrW; have a1 := cell_alloc q1 zq (.cells cs 99); have af1 := frozen_alloc qf1 zq (.cells cs 99); have q2 := bC hx r2 hrW; have qf2 := bF hx fr2 hrW; have a2 := cell_alloc q2 zq (.cells cs 99); have af2 := frozen_alloc qf2 zq (.cells cs 99); have q3 := bC hx r3 hrW; have qf3 := bF hx fr3 hrW; have a3 := cell_alloc q3 zq (.cells cs 99); have af3 := frozen_alloc qf3 zq (.cells cs 99); have q4 := bC hx r4 hrW; have qf4 := bF hx fr4 hrW; have a4 := cell_alloc q4 zq (.cells cs 99); have af4 := frozen_alloc qf4 zq (.cells cs 99); have q5 := bC hx r5 hrW; have qf5 := bF hx fr5 hrW; have a5 := cell_alloc q5 zq (.cells cs 99); have af5 := frozen_alloc qf5 zq (.cells cs 99); have q6 := bC hx r6 hrW; have qf6 := bF hx fr6 hrW; have a6 := cell_alloc q6 zq (.cells cs 99); have af6 := frozen_alloc qf6 zq (.cells cs 99); have hk1 := (fun x0 x1 x2 x3 x4 x5 x6 => (And.intro (setB_cell kz6 hne0 x0 x1 x2 x3 x4 x5 x6) (And.intro (setB_cell kj0 hne1 x0 x1 x2 x3 x4 x5 x6) (And.intro (setB_cell kj1 hne1 x0 x1 x2 x3 x4 x5 x6) (setB_cell kj2 hne1 x0 x1 x2 x3 x4 x5 x6))))); have hk2 := (fun x0 x1 x2 x3 x4 x5 x6 => (And.intro (setB_cell kaz6 hne0 x0 x1 x2 x3 x4 x5 x6) (And.intro (setB_cell kaj0 hne1 x0 x1 x2 x3 x4 x5 x6) (And.intro (setB_cell kaj1 hne1 x0 x1 x2 x3 x4 x5 x6) (setB_cell kaj2 hne1 x0 x1 x2 x3 x4 x5 x6))))); have way : True := trivial; clear hq) | (go_at_call 50; (with_reducible refine (HRC.out (W2.alloc (.cells cs 99)).drew (Below.drew ((Below.refl _ _).alloc (Nat.le_refl _) _))).mono ?_); rintro e x0 ⟨uo, un, uc, vo, vn, vc, rfl, hrc, hq⟩; have hx : Below W2.heap.size W2 x0 := (Below.drew ((Below.refl _ _).alloc (Nat.le_refl _) _)).trans (hq.mono (by simp)); have zq : w.heap.size + 1 < x0.heap.size := Nat.lt_of_lt_of_le hrW hx.size; have zqz : w.heap.size < x0.heap.size := Nat.lt_of_lt_of_le zz hx.size; have zqj : v1.heap.size < x0.heap.size := Nat.lt_of_lt_of_le zj hx.size; have kz6 := bC hx z6 zz; have kj0 := bC hx j0 zj; have kj1 := bC hx j1 zj; have kj2 := bC hx j2 zj; have kaz6 := cell_alloc kz6 zqz (.cells cs 99); have kaj0 := cell_alloc kj0 zqj (.cells cs 99); have kaj1 := cell_alloc kj1 zqj (.cells cs 99); have kaj2 := cell_alloc kj2 zqj (.cells cs 99); have q0 := bC hx r0 hrW; have qf0 := bF hx fr0 hrW; have a0 := cell_alloc q0 zq (.cells cs 99); have af0 := frozen_alloc qf0 zq (.cells cs 99); have q1 := bC hx r1 hrW; have qf1 := bF hx fr1 hrW; have a1 := cell_alloc q1 zq (.cells cs 99); have af1 := frozen_alloc qf1 zq (.cells cs 99); have q2 := bC hx r2 hrW; have qf2 := bF hx fr2 hrW; have a2 := cell_alloc q2 zq (.cells cs 99); have af2 := frozen_alloc qf2 zq (.cells cs 99); have q3 := bC hx r3 hrW; have qf3 := bF hx fr3 hrW; have a3 := cell_alloc q3 zq (.cells cs 99); have af3 := frozen_alloc qf3 zq (.cells cs 99); have q4 := bC hx r4 hrW; have qf4 := bF hx fr4 hrW; have a4 := cell_alloc q4 zq (.cells cs 99); have af4 := frozen_alloc qf4 zq (.cells cs 99); have q5 := bC hx r5 hrW; have qf5 := bF hx fr5 hrW; have a5 := cell_alloc q5 zq (.cells cs 99); have af5 := frozen_alloc qf5 zq (.cells cs 99); have q6 := bC hx r6 hrW; have qf6 := bF hx fr6 hrW; have a6 := cell_alloc q6 zq (.cells cs 99); have af6 := frozen_alloc qf6 zq (.cells cs 99); have hk1 := (fun x0 x1 x2 x3 x4 x5 x6 => (And.intro (setB_cell kz6 hne0 x0 x1 x2 x3 x4 x5 x6) (And.intro (setB_cell kj0 hne1 x0 x1 x2 x3 x4 x5 x6) (And.intro (setB_cell kj1 hne1 x0 x1 x2 x3 x4 x5 x6) (setB_cell kj2 hne1 x0 x1 x2 x3 x4 x5 x6))))); have hk2 := (fun x0 x1 x2 x3 x4 x5 x6 => (And.intro (setB_cell kaz6 hne0 x0 x1 x2 x3 x4 x5 x6) (And.intro (setB_cell kaj0 hne1 x0 x1 x2 x3 x4 x5 x6) (And.intro (setB_cell kaj1 hne1 x0 x1 x2 x3 x4 x5 x6) (setB_cell kaj2 hne1 x0 x1 x2 x3 x4 x5 x6))))); have ho := own_kept (HO.out W2) ((Below.drew (Below.refl _ _)).trans hq)))
  · have HFI : Hid (OwBm w.heap.size ((setB x0 (w.heap.size + 1) (.int .i64 kc) (.slice o1 nc c1) (.int .i64 sc) (.int .i64 kc) (.slice uo un uc) (.slice vo vn vc) (.slice (some ⟨x0.heap.size, 0, none⟩) nt nt)).alloc (.cells cs 99)).heap.size ((setB x0 (w.heap.size + 1) (.int .i64 kc) (.slice o1 nc c1) (.int .i64 sc) (.int .i64 kc) (.slice uo un uc) (.slice vo vn vc) (.slice (some ⟨x0.heap.size, 0, none⟩) nt nt)).alloc (.cells cs 99)) (balv kc (.slice o1 nc c1) sc kc (.slice uo un uc) (.slice vo vn vc) (.slice (some ⟨x0.heap.size, 0, none⟩) nt nt)) (crashM ⟨⟨kj, lj, sj⟩, ⟨kp, lb, lr⟩, lt⟩ keep) ∧ Below w.heap.size w ((setB x0 (w.heap.size + 1) (.int .i64 kc) (.slice o1 nc c1) (.int .i64 sc) (.int .i64 kc) (.slice uo un uc) (.slice vo vn vc) (.slice (some ⟨x0.heap.size, 0, none⟩) nt nt)).alloc (.cells cs 99))) := by
      have s9 := stp_setB x0 (w.heap.size + 1) (.int .i64 kc) (.slice o1 nc c1) (.int .i64 sc) (.int .i64 kc) (.slice uo un uc) (.slice vo vn vc) (.slice (some ⟨x0.heap.size, 0, none⟩) nt nt)
      have hx0 := hx.size
      have ij := (HIJ.out.step (Stp.of (lo := 0) (hi := 0) hx) (.inl (Nat.zero_le _))).step s9 (.inl (show w.heap.size + 1 + 1 ≤ W0.heap.size by omega))
      have ip := (hrc.mono (show W2.heap.size ≤ _ by (try simp) <;> omega) (Nat.le_refl _)).step s9 (.inl (show w.heap.size + 1 + 1 ≤ W2.heap.size by omega))
      have hb9 := setB_below (HB.out.trans (hx.mono HB.out.size)) (Nat.le_succ _) (.int .i64 kc) (.slice o1 nc c1) (.int .i64 sc) (.int .i64 kc) (.slice uo un uc) (.slice vo vn vc) (.slice (some ⟨x0.heap.size, 0, none⟩) nt nt)
      rw [HCM.out]
      have hal : Below (setB x0 (w.heap.size + 1) (.int .i64 kc) (.slice o1 nc c1) (.int .i64 sc) (.int .i64 kc) (.slice uo un uc) (.slice vo vn vc) (.slice (some ⟨x0.heap.size, 0, none⟩) nt nt)).heap.size (setB x0 (w.heap.size + 1) (.int .i64 kc) (.slice o1 nc c1) (.int .i64 sc) (.int .i64 kc) (.slice uo un uc) (.slice vo vn vc) (.slice (some ⟨x0.heap.size, 0, none⟩) nt nt)) ((setB x0 (w.heap.size + 1) (.int .i64 kc) (.slice o1 nc c1) (.int .i64 sc) (.int .i64 kc) (.slice uo un uc) (.slice vo vn vc) (.slice (some ⟨x0.heap.size, 0, none⟩) nt nt)).alloc (.cells cs 99)) := (Below.refl _ _).alloc (Nat.le_refl _) _
      have ot := HO.out (setB x0 (w.heap.size + 1) (.int .i64 kc) (.slice o1 nc c1) (.int .i64 sc) (.int .i64 kc) (.slice uo un uc) (.slice vo vn vc) (.slice (some ⟨x0.heap.size, 0, none⟩) nt nt))
      rw [setB_size] at ot
      have hsz : x0.heap.size ≤ ((setB x0 (w.heap.size + 1) (.int .i64 kc) (.slice o1 nc c1) (.int .i64 sc) (.int .i64 kc) (.slice uo un uc) (.slice vo vn vc) (.slice (some ⟨x0.heap.size, 0, none⟩) nt nt)).alloc (.cells cs 99)).heap.size := by rw [World.size_alloc, setB_size]; omega
      refine ⟨⟨.slice o1 nc c1, .slice uo un uc, .slice vo vn vc, .slice (some ⟨x0.heap.size, 0, none⟩) nt nt, ?_, inJm_wide (ij.step (Stp.of (lo := 0) (hi := 0) hal) (.inl (Nat.zero_le _))) (by omega) (by omega), ?_, ⟨_, rfl, ?_⟩⟩, hb9.trans (hal.mono hb9.size)⟩
      · show balv kc _ sc kc _ _ _ = balv kc _ sc (replayM ⟨kc, lc, sc⟩).key _ _ _
        rw [HKK.out]
      · show RcPm _ _ _ (plv (replayM ⟨kc, lc, sc⟩).key _ _) _
        rw [HKK.out]
        exact (ip.step (Stp.of (lo := 0) (hi := 0) hal) (.inl (Nat.zero_le _))).mono (by omega) hsz
      · show InL layS _ w.heap.size _ _ _ (List.replicate nt sl0)
        have h := InRow.mono (InRow.of ot) (show w.heap.size ≤ x0.heap.size by omega) (Nat.le_refl _)
        exact h
    have hxr := setB_cells ((hx.block _ hrW).trans HXR.out) (.int .i64 kc) (.slice o1 nc c1) (.int .i64 sc) (.int .i64 kc) (.slice uo un uc) (.slice vo vn vc) (.slice (some ⟨x0.heap.size, 0, none⟩) nt nt) (.cells cs 99)
    have y0 := bx_cell hxr 0 _ rfl
    have y1 := bx_cell hxr 1 _ rfl
    have y2 := bx_cell hxr 2 _ rfl
    have y3 := bx_cell hxr 3 _ rfl
    have y4 := bx_cell hxr 4 _ rfl
    have y5 := bx_cell hxr 5 _ rfl
    have y6 := bx_cell hxr 6 _ rfl
    clear hxr
    clear hmk hrc hx hk1 hk2
    go_wp2
    refine bodyPost_ret (v := balv kc (.slice o1 nc c1) sc kc (.slice uo un uc) (.slice vo vn vc) (.slice (some ⟨x0.heap.size, 0, none⟩) nt nt)) (by simp [results, Tryz.results93, go_sem, q0, q1, q2, q3, q4, q5, q6, y0, y1, y2, y3, y4, y5, y6]) rfl ⟨_, rfl, HFI.out.1, HFI.out.2⟩
  · have HFI : Hid (OwBm w.heap.size (setB x0 (w.heap.size + 1) (.int .i64 kc) (.slice o1 nc c1) (.int .i64 sc) (.int .i64 kc) (.slice uo un uc) (.slice vo vn vc) (.slice (some ⟨W2.heap.size, 0, none⟩) nt nt)).heap.size (setB x0 (w.heap.size + 1) (.int .i64 kc) (.slice o1 nc c1) (.int .i64 sc) (.int .i64 kc) (.slice uo un uc) (.slice vo vn vc) (.slice (some ⟨W2.heap.size, 0, none⟩) nt nt)) (balv kc (.slice o1 nc c1) sc kc (.slice uo un uc) (.slice vo vn vc) (.slice (some ⟨W2.heap.size, 0, none⟩) nt nt)) (crashM ⟨⟨kj, lj, sj⟩, ⟨kp, lb, lr⟩, lt⟩ keep) ∧ Below w.heap.size w (setB x0 (w.heap.size + 1) (.int .i64 kc) (.slice o1 nc c1) (.int .i64 sc) (.int .i64 kc) (.slice uo un uc) (.slice vo vn vc) (.slice (some ⟨W2.heap.size, 0, none⟩) nt nt))) := by
      have s9 := stp_setB x0 (w.heap.size + 1) (.int .i64 kc) (.slice o1 nc c1) (.int .i64 sc) (.int .i64 kc) (.slice uo un uc) (.slice vo vn vc) (.slice (some ⟨W2.heap.size, 0, none⟩) nt nt)
      have hx0 := hx.size
      have ij := (HIJ.out.step (Stp.of (lo := 0) (hi := 0) hx) (.inl (Nat.zero_le _))).step s9 (.inl (show w.heap.size + 1 + 1 ≤ W0.heap.size by omega))
      have ip := (hrc.mono (show W2.heap.size ≤ _ by (try simp) <;> omega) (Nat.le_refl _)).step s9 (.inl (show w.heap.size + 1 + 1 ≤ W2.heap.size by omega))
      have hb9 := setB_below (HB.out.trans (hx.mono HB.out.size)) (Nat.le_succ _) (.int .i64 kc) (.slice o1 nc c1) (.int .i64 sc) (.int .i64 kc) (.slice uo un uc) (.slice vo vn vc) (.slice (some ⟨W2.heap.size, 0, none⟩) nt nt)
      rw [HCM.out]
      refine ⟨⟨.slice o1 nc c1, .slice uo un uc, .slice vo vn vc, .slice (some ⟨W2.heap.size, 0, none⟩) nt nt, ?_, inJm_wide ij (by omega) (by rw [setB_size]; omega), ?_, ⟨_, rfl, ?_⟩⟩, hb9⟩
      · show balv kc _ sc kc _ _ _ = balv kc _ sc (replayM ⟨kc, lc, sc⟩).key _ _ _
        rw [HKK.out]
      · show RcPm _ _ _ (plv (replayM ⟨kc, lc, sc⟩).key _ _) _
        rw [HKK.out]
        exact ip.mono (by omega) (by rw [setB_size]; exact Nat.le_refl _)
      · show InL layS _ w.heap.size _ _ _ (List.replicate nt sl0)
        have h := InRow.mono (InRow.step (InRow.of ho) s9 (.inl (show w.heap.size + 1 + 1 ≤ W2.heap.size by omega))) (show w.heap.size ≤ W2.heap.size by omega) (show x0.heap.size ≤ (setB x0 (w.heap.size + 1) (.int .i64 kc) (.slice o1 nc c1) (.int .i64 sc) (.int .i64 kc) (.slice uo un uc) (.slice vo vn vc) (.slice (some ⟨W2.heap.size, 0, none⟩) nt nt)).heap.size by rw [setB_size]; exact Nat.le_refl _)
        exact h
    clear hmk hrc hx hk1 hk2 ho
    go_wp2
    refine bodyPost_ret (v := balv kc (.slice o1 nc c1) sc kc (.slice uo un uc) (.slice vo vn vc) (.slice (some ⟨W2.heap.size, 0, none⟩) nt nt)) (by simp [results, Tryz.results93, go_sem, q0, q1, q2, q3, q4, q5, q6]) rfl ⟨_, rfl, HFI.out.1, HFI.out.2⟩

end Go.Proofs.YtajfkcpifnpkeaaGreat

/- The model's Crash. -/
namespace Go.Proofs.YtajfkcpifnpkeaaGreat
open Go.ChangeShapes Go.WideShapes Go.ChangeAt Go.RowKit Go.Joins
set_option linter.unusedVariables false
set_option linter.unusedSimpArgs false


theorem l7own_ow {lo hi : Nat} {v : Value} {m : Bm} {w : World} (h : OwBm lo hi w v m) (hh : hi ≤ w.heap.size) (ht : 0 < m.t.length) (hf : fitBm m) :
    Calls Tryz.prog 60 #[v] w fun e w' => ∃ v', e = .returned v' ∧ OwBm w.heap.size w'.heap.size w' v' m ∧ Below w.heap.size w w' := by
  obtain ⟨vl, vb, vr, vt, rfl, hj, ⟨vb', vr', e, k1, k2, k3, k4⟩, htb⟩ := h
  have cj := hj.cap
  obtain ⟨vl', e1, o, c, e1', r1⟩ := hj.rd
  obtain ⟨vt', e3, ot, ct, e3', r3⟩ := htb.rd
  simp only [Value.agg.injEq, Array.mk.injEq, List.cons.injEq, and_true, true_and] at e e1 e3
  obtain ⟨e21, e22⟩ := e
  subst e1 e1' e3 e3' e21 e22
  obtain ⟨ob, cb, e4, rk⟩ := RiV.open k1
  obtain ⟨oR, cR, e5⟩ := RiR.len (RcR.ri k3)
  subst e4 e5
  obtain ⟨bt, ft, e6, hbt, hcell⟩ := rdS_some r3 ht
  subst e6
  exact l7own_go m.j.key o _ c m.j.safe m.p.key ob _ cb oR _ cR bt ft _ ct m.j.l m.p.l m.p.ring m.t w rfl rfl rfl rfl (r1.le hh) (capJm.one cj) (rk.le hh) (fun h => k2 _ _ (by rw [h])) (RcR.mon.go k3 (Nat.zero_le _) hh) (by omega) hcell hf
theorem crash_fit {m : Bm} {keep : Int} (h : balB m = true) (hk : 0 ≤ keep) : fitBm (crashM m keep) := by
  have h1 := (journal_facts (cut_jrn (keep := keep) (balB_jrn h) hk)).2.1
  have h2 := (tableOkB_iff.1 (balB_tab h)).2.1
  refine ⟨?_, replay_fit _, ?_⟩
  · show (cutM m.j keep).l.length ≤ _; omega
  · show (List.replicate m.t.length sl0).length ≤ _; rw [List.length_replicate]; omega
theorem crash0_fit (m : Bm) (keep : Int) : fitBm (crash0M m keep) := by
  unfold crash0M
  split
  · next h =>
    unfold crash0B at h
    rw [Bool.and_eq_true, decide_eq_true_eq] at h
    exact crash_fit h.1 h.2
  · exact ⟨by simp [bm0, jm0], by have h := pnew_fit (-1); have e : pnewM (-1) = pm0 := (by rfl); rw [e] at h; exact h, by simp [bm0]⟩

set_option maxRecDepth 100000 in
set_option maxHeartbeats 4000000 in
theorem specCrash_any (kj : Int) (o : Option Addr) (nj c : Nat) (sj kp : Int) (ob : Option Addr) (np cb : Nat) (oR : Option Addr) (nr cR : Nat) (ot : Option Addr) (nt ct : Nat) (lj : List Cd) (lb : List Bk) (lr : List (List (List Int))) (lt : List Sl) (keep : Int) (w : World)
    (hnj : nj = lj.length) (hnt : nt = lt.length) (h1 : RdC w.heap.size w o lj) (h1c : o = none → c = 0) (h2 : RdPm w.heap.size w (plv kp (.slice ob np cb) (.slice oR nr cR)) ⟨kp, lb, lr⟩) (h4 : RdS w.heap.size w ot lt) (hf : fitB0 ⟨⟨kj, lj, sj⟩, ⟨kp, lb, lr⟩, lt⟩) (hrm : nj ≤ c) :
    Calls Tryz.prog 40 #[balv kj (.slice o nj c) sj kp (.slice ob np cb) (.slice oR nr cR) (.slice ot nt ct), .int .i64 keep] w fun e w' => ∃ v, e = .returned v ∧ OwBm w.heap.size w'.heap.size w' v (crash0M ⟨⟨kj, lj, sj⟩, ⟨kp, lb, lr⟩, lt⟩ keep) ∧ Below w.heap.size w w' := by
  have HBO := hide (fun W (hb : Below w.heap.size w W) => specBalOk_any kj o nj c sj kp ob np cb oR nr cR ot nt ct lj lb lr lt W hnj hnt ((h1.kept hb (Nat.le_refl _)).le hb.size) h1c ((h2.kept hb (Nat.le_refl _)).le hb.size) ((h4.kept hb (Nat.le_refl _)).le hb.size) hf)
  have HCR := hide (fun hb9 hk9 W (hb : Below w.heap.size w W) => l7crash_any kj o nj c sj kp ob np cb oR nr cR ot nt ct lj lb lr lt keep W hnj hnt ((h1.kept hb (Nat.le_refl _)).le hb.size) h1c ((h2.kept hb (Nat.le_refl _)).le hb.size) ((h4.kept hb (Nat.le_refl _)).le hb.size) hf hrm hb9 hk9)
  have HFI := hide (fun hb9 hk9 => crash_fit (m := ⟨⟨kj, lj, sj⟩, ⟨kp, lb, lr⟩, lt⟩) (keep := keep) hb9 hk9)
  have HPO := hide (fun hb9 => balB_pos (m := ⟨⟨kj, lj, sj⟩, ⟨kp, lb, lr⟩, lt⟩) hb9)
  have HTL := hide (show (crashM ⟨⟨kj, lj, sj⟩, ⟨kp, lb, lr⟩, lt⟩ keep).t.length = lt.length from List.length_replicate ..)
  have HM := hide (show crash0M ⟨⟨kj, lj, sj⟩, ⟨kp, lb, lr⟩, lt⟩ keep = if (balB ⟨⟨kj, lj, sj⟩, ⟨kp, lb, lr⟩, lt⟩ && decide (0 ≤ keep)) = true then crashM ⟨⟨kj, lj, sj⟩, ⟨kp, lb, lr⟩, lt⟩ keep else bm0 from rfl)
  dsimp only at HPO
  clear h1 h2 h4 hnj hnt hf hrm
  obtain ⟨bb, hbb⟩ : ∃ x, balB ⟨⟨kj, lj, sj⟩, ⟨kp, lb, lr⟩, lt⟩ = x := ⟨_, rfl⟩
  obtain ⟨mr, hmr⟩ : ∃ r, crash0M ⟨⟨kj, lj, sj⟩, ⟨kp, lb, lr⟩, lt⟩ keep = r := ⟨_, rfl⟩
  rw [hmr]
  rw [hbb] at HBO HCR HFI HPO HM
  rw [hmr] at HM
  clear hbb hmr
  obtain ⟨W0, hW0⟩ : ∃ W, ((w.alloc (.cells #[.int .i64 kj, .slice o nj c, .int .i64 sj, .int .i64 kp, .slice ob np cb, .slice oR nr cR, .slice ot nt ct] 46)).alloc (.cells #[.int .i64 0, .slice none 0 0, .int .i64 0, .int .i64 0, .slice none 0 0, .slice none 0 0, .slice none 0 0] 46)) = W := ⟨_, rfl⟩
  have hb_W0 : Below w.heap.size w W0 := by rw [← hW0]; exact (((Below.refl _ _).alloc (Nat.le_refl _) _).alloc (by simp <;> omega) _)
  have HB := hide hb_W0
  clear hb_W0
  have zz : w.heap.size < W0.heap.size := by rw [← hW0]; simp <;> omega
  have z0 : W0.cell? ⟨w.heap.size, 0, none⟩ = some (.int .i64 kj) := by rw [← hW0]; simp [go_sem]
  have z1 : W0.cell? ⟨w.heap.size, 1, none⟩ = some (.slice o nj c) := by rw [← hW0]; simp [go_sem]
  have z2 : W0.cell? ⟨w.heap.size, 2, none⟩ = some (.int .i64 sj) := by rw [← hW0]; simp [go_sem]
  have z3 : W0.cell? ⟨w.heap.size, 3, none⟩ = some (.int .i64 kp) := by rw [← hW0]; simp [go_sem]
  have z4 : W0.cell? ⟨w.heap.size, 4, none⟩ = some (.slice ob np cb) := by rw [← hW0]; simp [go_sem]
  have z5 : W0.cell? ⟨w.heap.size, 5, none⟩ = some (.slice oR nr cR) := by rw [← hW0]; simp [go_sem]
  have z6 : W0.cell? ⟨w.heap.size, 6, none⟩ = some (.slice ot nt ct) := by rw [← hW0]; simp [go_sem]
  have zr : w.heap.size + 1 < W0.heap.size := by rw [← hW0]; simp
  have r0 : W0.cell? ⟨w.heap.size + 1, 0, none⟩ = some (.int .i64 0) := by rw [← hW0]; simp [go_sem]
  have r1 : W0.cell? ⟨w.heap.size + 1, 1, none⟩ = some (.slice none 0 0) := by rw [← hW0]; simp [go_sem]
  have r2 : W0.cell? ⟨w.heap.size + 1, 2, none⟩ = some (.int .i64 0) := by rw [← hW0]; simp [go_sem]
  have r3 : W0.cell? ⟨w.heap.size + 1, 3, none⟩ = some (.int .i64 0) := by rw [← hW0]; simp [go_sem]
  have r4 : W0.cell? ⟨w.heap.size + 1, 4, none⟩ = some (.slice none 0 0) := by rw [← hW0]; simp [go_sem]
  have r5 : W0.cell? ⟨w.heap.size + 1, 5, none⟩ = some (.slice none 0 0) := by rw [← hW0]; simp [go_sem]
  have r6 : W0.cell? ⟨w.heap.size + 1, 6, none⟩ = some (.slice none 0 0) := by rw [← hW0]; simp [go_sem]
  have fr0 : W0.frozen? ⟨w.heap.size + 1, 0, none⟩ = false := by rw [← hW0]; simp [go_sem]
  have fr1 : W0.frozen? ⟨w.heap.size + 1, 1, none⟩ = false := by rw [← hW0]; simp [go_sem]
  have fr2 : W0.frozen? ⟨w.heap.size + 1, 2, none⟩ = false := by rw [← hW0]; simp [go_sem]
  have fr3 : W0.frozen? ⟨w.heap.size + 1, 3, none⟩ = false := by rw [← hW0]; simp [go_sem]
  have fr4 : W0.frozen? ⟨w.heap.size + 1, 4, none⟩ = false := by rw [← hW0]; simp [go_sem]
  have fr5 : W0.frozen? ⟨w.heap.size + 1, 5, none⟩ = false := by rw [← hW0]; simp [go_sem]
  have fr6 : W0.frozen? ⟨w.heap.size + 1, 6, none⟩ = false := by rw [← hW0]; simp [go_sem]
  have hzr : w.heap.size + 1 < W0.heap.size := zr
  cases bb with
  | false =>
    go_enter Tryz.func40, Tryz.ntmps40
    go_wp2_with fail
    refine (HBO.out W0 HB.out).mono ?_
    rintro e v1 ⟨rfl, hb⟩
    replace z0 := bC hb z0 zz
    replace z1 := bC hb z1 zz
    replace z2 := bC hb z2 zz
    replace z3 := bC hb z3 zz
    replace z4 := bC hb z4 zz
    replace z5 := bC hb z5 zz
    replace z6 := bC hb z6 zz
    replace zz := Nat.lt_of_lt_of_le zz hb.size
    replace r0 := bC hb r0 zr
    replace r1 := bC hb r1 zr
    replace r2 := bC hb r2 zr
    replace r3 := bC hb r3 zr
    replace r4 := bC hb r4 zr
    replace r5 := bC hb r5 zr
    replace r6 := bC hb r6 zr
    replace fr0 := bF hb fr0 zr
    replace fr1 := bF hb fr1 zr
    replace fr2 := bF hb fr2 zr
    replace fr3 := bF hb fr3 zr
    replace fr4 := bF hb fr4 zr
    replace fr5 := bF hb fr5 zr
    replace fr6 := bF hb fr6 zr
    replace zr := Nat.lt_of_lt_of_le zr hb.size
    replace HB := hide (HB.out.trans (hb.mono HB.out.size))
    clear hb
    go_wp2
    refine bodyPost_ret (v := balv 0 (.slice none 0 0) 0 0 (.slice none 0 0) (.slice none 0 0) (.slice none 0 0)) (by simp [results, Tryz.results40, go_sem, r0, r1, r2, r3, r4, r5, r6]) rfl ⟨_, rfl, ?_, setB_below HB.out (Nat.le_succ _) _ _ _ _ _ _ _⟩
    rw [HM.out, setB_size]
    exact bm0_ow _ _ _
  | true =>
    by_cases hk : 0 ≤ keep
    · have hk' : ¬ (keep < 0) := by omega
      rw [decide_eq_true hk] at HM
      have hp9 := HPO.out rfl
      have HC2 := hide (HCR.out rfl hk)
      have hf9 := HFI.out rfl hk
      have ht9 := HTL.out
      clear HCR HFI HPO HTL hk
      go_enter Tryz.func40, Tryz.ntmps40
      go_wp2_with fail
      refine (HBO.out W0 HB.out).mono ?_
      rintro e v1 ⟨rfl, hb⟩
      have HS1 := hide hb.size
      replace z0 := bC hb z0 zz
      replace z1 := bC hb z1 zz
      replace z2 := bC hb z2 zz
      replace z3 := bC hb z3 zz
      replace z4 := bC hb z4 zz
      replace z5 := bC hb z5 zz
      replace z6 := bC hb z6 zz
      replace zz := Nat.lt_of_lt_of_le zz hb.size
      replace r0 := bC hb r0 zr
      replace r1 := bC hb r1 zr
      replace r2 := bC hb r2 zr
      replace r3 := bC hb r3 zr
      replace r4 := bC hb r4 zr
      replace r5 := bC hb r5 zr
      replace r6 := bC hb r6 zr
      replace fr0 := bF hb fr0 zr
      replace fr1 := bF hb fr1 zr
      replace fr2 := bF hb fr2 zr
      replace fr3 := bF hb fr3 zr
      replace fr4 := bF hb fr4 zr
      replace fr5 := bF hb fr5 zr
      replace fr6 := bF hb fr6 zr
      replace zr := Nat.lt_of_lt_of_le zr hb.size
      replace HB := hide (HB.out.trans (hb.mono HB.out.size))
      clear hb
      clear HBO
      go_wp2_with fail
      refine (HC2.out v1 HB.out).mono ?_
      rintro e v2 ⟨vc, rfl, inc, hb⟩
      have HS2 := hide (Nat.le_trans HS1.out hb.size)
      have HIC := hide inc
      clear inc
      replace z0 := bC hb z0 zz
      replace z1 := bC hb z1 zz
      replace z2 := bC hb z2 zz
      replace z3 := bC hb z3 zz
      replace z4 := bC hb z4 zz
      replace z5 := bC hb z5 zz
      replace z6 := bC hb z6 zz
      replace zz := Nat.lt_of_lt_of_le zz hb.size
      replace r0 := bC hb r0 zr
      replace r1 := bC hb r1 zr
      replace r2 := bC hb r2 zr
      replace r3 := bC hb r3 zr
      replace r4 := bC hb r4 zr
      replace r5 := bC hb r5 zr
      replace r6 := bC hb r6 zr
      replace fr0 := bF hb fr0 zr
      replace fr1 := bF hb fr1 zr
      replace fr2 := bF hb fr2 zr
      replace fr3 := bF hb fr3 zr
      replace fr4 := bF hb fr4 zr
      replace fr5 := bF hb fr5 zr
      replace fr6 := bF hb fr6 zr
      replace zr := Nat.lt_of_lt_of_le zr hb.size
      replace HB := hide (HB.out.trans (hb.mono HB.out.size))
      clear hb
      clear HC2
      obtain ⟨cm, hcm⟩ : ∃ x, crashM ⟨⟨kj, lj, sj⟩, ⟨kp, lb, lr⟩, lt⟩ keep = x := ⟨_, rfl⟩
      rw [hcm] at HIC hf9 ht9 HM
      clear hcm
      have HOW := hide (l7own_ow HIC.out (Nat.le_refl _) (by omega) hf9)
      clear HIC ht9 hp9
      go_wp2_with fail
      refine (HOW.out).mono ?_
      rintro e v3 ⟨vo, rfl, ino, hb⟩
      have HIO := hide ino
      clear ino
      replace z0 := bC hb z0 zz
      replace z1 := bC hb z1 zz
      replace z2 := bC hb z2 zz
      replace z3 := bC hb z3 zz
      replace z4 := bC hb z4 zz
      replace z5 := bC hb z5 zz
      replace z6 := bC hb z6 zz
      replace zz := Nat.lt_of_lt_of_le zz hb.size
      replace r0 := bC hb r0 zr
      replace r1 := bC hb r1 zr
      replace r2 := bC hb r2 zr
      replace r3 := bC hb r3 zr
      replace r4 := bC hb r4 zr
      replace r5 := bC hb r5 zr
      replace r6 := bC hb r6 zr
      replace fr0 := bF hb fr0 zr
      replace fr1 := bF hb fr1 zr
      replace fr2 := bF hb fr2 zr
      replace fr3 := bF hb fr3 zr
      replace fr4 := bF hb fr4 zr
      replace fr5 := bF hb fr5 zr
      replace fr6 := bF hb fr6 zr
      replace zr := Nat.lt_of_lt_of_le zr hb.size
      replace HB := hide (HB.out.trans (hb.mono HB.out.size))
      clear hb
      clear HOW
      obtain ⟨o9, c9, ob9, cb9, oR9, cR9, ot9, ct9, e9⟩ := HIO.out.rd.opn
      subst e9
      obtain ⟨kk, hkk⟩ : ∃ x, cm.j.key = x := ⟨_, rfl⟩
      obtain ⟨nn, hnn⟩ : ∃ x, cm.j.l.length = x := ⟨_, rfl⟩
      obtain ⟨ss, hss⟩ : ∃ x, cm.j.safe = x := ⟨_, rfl⟩
      obtain ⟨kk2, hkk2⟩ : ∃ x, cm.p.key = x := ⟨_, rfl⟩
      obtain ⟨nn2, hnn2⟩ : ∃ x, cm.p.l.length = x := ⟨_, rfl⟩
      obtain ⟨nn3, hnn3⟩ : ∃ x, cm.p.ring.length = x := ⟨_, rfl⟩
      obtain ⟨nn4, hnn4⟩ : ∃ x, cm.t.length = x := ⟨_, rfl⟩
      rw [hkk, hnn, hss, hkk2, hnn2, hnn3, hnn4] at HIO ⊢
      clear hkk hnn hss hkk2 hnn2 hnn3 hnn4 hf9
      have hs9 : W0.heap.size ≤ v2.heap.size := HS2.out
      go_wp2
      refine bodyPost_ret (v := balv kk (.slice o9 nn c9) ss kk2 (.slice ob9 nn2 cb9) (.slice oR9 nn3 cR9) (.slice ot9 nn4 ct9)) (by simp [results, Tryz.results40, go_sem, r0, r1, r2, r3, r4, r5, r6]) rfl ⟨_, rfl, ?_, setB_below HB.out (Nat.le_succ _) _ _ _ _ _ _ _⟩
      rw [HM.out]
      exact (HIO.out.step (stp_setB _ _ _ _ _ _ _ _ _) (.inl (by omega))).mono (by omega) (by rw [setB_size]; exact Nat.le_refl _)
    · have hk' : keep < 0 := by omega
      rw [decide_eq_false hk] at HM
      go_enter Tryz.func40, Tryz.ntmps40
      go_wp2_with fail
      refine (HBO.out W0 HB.out).mono ?_
      rintro e v1 ⟨rfl, hb⟩
      replace z0 := bC hb z0 zz
      replace z1 := bC hb z1 zz
      replace z2 := bC hb z2 zz
      replace z3 := bC hb z3 zz
      replace z4 := bC hb z4 zz
      replace z5 := bC hb z5 zz
      replace z6 := bC hb z6 zz
      replace zz := Nat.lt_of_lt_of_le zz hb.size
      replace r0 := bC hb r0 zr
      replace r1 := bC hb r1 zr
      replace r2 := bC hb r2 zr
      replace r3 := bC hb r3 zr
      replace r4 := bC hb r4 zr
      replace r5 := bC hb r5 zr
      replace r6 := bC hb r6 zr
      replace fr0 := bF hb fr0 zr
      replace fr1 := bF hb fr1 zr
      replace fr2 := bF hb fr2 zr
      replace fr3 := bF hb fr3 zr
      replace fr4 := bF hb fr4 zr
      replace fr5 := bF hb fr5 zr
      replace fr6 := bF hb fr6 zr
      replace zr := Nat.lt_of_lt_of_le zr hb.size
      replace HB := hide (HB.out.trans (hb.mono HB.out.size))
      clear hb
      go_wp2
      refine bodyPost_ret (v := balv 0 (.slice none 0 0) 0 0 (.slice none 0 0) (.slice none 0 0) (.slice none 0 0)) (by simp [results, Tryz.results40, go_sem, r0, r1, r2, r3, r4, r5, r6]) rfl ⟨_, rfl, ?_, setB_below HB.out (Nat.le_succ _) _ _ _ _ _ _ _⟩
      rw [HM.out, setB_size]
      exact bm0_ow _ _ _

end Go.Proofs.YtajfkcpifnpkeaaGreat

