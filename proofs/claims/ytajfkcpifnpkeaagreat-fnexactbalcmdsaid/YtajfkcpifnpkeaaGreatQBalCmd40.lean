/- Several texts in one: SCrash3, SCmdS, CutB, OpenB. -/
import Derived.Laws.MakeOwn
import Derived.Deep.RegionHeld3
import Derived.Deep.RegionLaw
import Derived.Test.YtajfkcpifnpkeaaGreatQBalCmd36
import Derived.Test.YtajfkcpifnpkeaaGreatQBalCmd39
import Derived.Test.YtajfkcpifnpkeaaGreatQBalCmd32
/- The model's Crash. -/
namespace Go.Proofs.YtajfkcpifnpkeaaGreat
open Go.ChangeShapes Go.WideShapes Go.ChangeAt Go.RowKit Go.Joins
set_option linter.unusedVariables false
set_option linter.unusedSimpArgs false


theorem l7own_ow {lo hi : Nat} {v : Value} {m : Bm} {w : World} (h : OwBm lo hi w v m) (hh : hi ≤ w.heap.size) (ht : 0 < m.t.length) (hf : fitBm m) :
  Calls Tryz.prog 60 #[v] w fun e w' => ∃ v', e = .returned v' ∧ OwBm w.heap.size w'.heap.size w' v' m ∧ Below w.heap.size w w' := by
 obtain ⟨vl, vb, vr, vt, rfl, hj, ⟨vb', vr', e, k1, k2, k3, k4⟩, htb⟩ := h
 have cj := hj.cap
 obtain ⟨vl', e1, o, c, e1', r1⟩ := hj.rd
 obtain ⟨vt', e3, ot, ct, e3', r3⟩ := htb.rd
 simp only [Value.agg.injEq, Array.mk.injEq, List.cons.injEq, and_true, true_and] at e e1 e3
 obtain ⟨e21, e22⟩ := e
 subst e1 e1' e3 e3' e21 e22
 obtain ⟨ob, cb, e4, rk⟩ := RiV.open k1
 obtain ⟨oR, cR, e5⟩ := RiR.len (RcR.ri k3)
 subst e4 e5
 obtain ⟨bt, ft, e6, hbt, hcell⟩ := rdS_some r3 ht
 subst e6
 exact l7own_go m.j.key o _ c m.j.safe m.p.key ob _ cb oR _ cR bt ft _ ct m.j.l m.p.l m.p.ring m.t w rfl rfl rfl rfl (r1.le hh) (capJm.one cj) (rk.le hh) (fun h => k2 _ _ (by rw [h])) (RcR.mon.go k3 (Nat.zero_le _) hh) (by omega) hcell hf
end Go.Proofs.YtajfkcpifnpkeaaGreat

/- A command: the model's side. -/
namespace Go.Proofs.YtajfkcpifnpkeaaGreat
open Go.ChangeShapes Go.WideShapes Go.ChangeAt Go.RowKit Go.Joins
set_option linter.unusedVariables false
set_option linter.unusedSimpArgs false


/-- The model's command at a pool, whether it is done or not. -/
theorem l4do_rc {v : Value} {m : Pm} {k i gg : Int} {w : World} (hR : RcPm 0 w.heap.size w v m) (hp : poolB m = true) (hc : cmdOkB k i gg = true) :
  Calls Tryz.prog 103 #[v, cmd k i gg] w fun e w' => ∃ uo un uc vo vn vc, e = .returned (.tuple #[plv m.key (.slice uo un uc) (.slice vo vn vc), .bool (doL m.l k i gg).isSome]) ∧ RcPm 0 w'.heap.size w' (plv m.key (.slice uo un uc) (.slice vo vn vc)) (pdoM m k i gg) ∧ Below w.heap.size w w' := by
 obtain ⟨hk, hbo, h1n, h3n, hto⟩ := pool_facts hp
 have hl6 := backs_len hbo
 have hPM : pdoM m k i gg = (match doL m.l k i gg with | none => m | some l => ⟨m.key, l, (newT m.key l :: m.ring).take 3⟩) := by unfold pdoM; rw [if_pos (by rw [hp, hc]; rfl)]; cases doL m.l k i gg <;> rfl
 have hR0 := hR
 obtain ⟨vb, vr, rfl, hvb, hcb, rr, hcr⟩ := hR
 obtain ⟨o, c, e1, r⟩ := hvb.open
 subst e1
 have hnil : o = none → c = 0 := fun e => hcb _ _ (by rw [e])
 obtain ⟨oR, cR, e2⟩ := RiR.len (RcR.ri rr)
 subst e2
 have hnilR : oR = none → cR = 0 := fun e => hcr _ _ (by rw [e])
 cases hm : doL m.l k i gg with
 | none =>
  rw [hm] at hPM
  refine (l4do_no m.key o c m.l oR m.ring.length cR k i gg w hbo hm (by omega) r).mono ?_
  rintro e w' ⟨rfl, hb⟩
  refine ⟨_, _, _, _, _, _, rfl, ?_, hb⟩
  rw [hPM]
  exact (hR0.kept hb (Nat.le_refl _)).le hb.size
 | some l' =>
  rw [hm] at hPM
  have hrr := rr
  obtain ⟨hs, hsl, hrv, hq⟩ := rr
  obtain ⟨oR', cR', e9, hG⟩ := RiV.open hrv
  injection e9 with e91 e92 e93
  subst e91
  have hmk := doL_ok hbo hc hm
  have hz := l4do_yes m.key o c m.l oR cR hs k i gg l' w hk hbo hc hm (by omega) r hG hnilR (by omega)
  rw [hsl] at hz
  refine hz.mono ?_
  rintro e w' ⟨o2, c2, oR2, n2, cR2, o3, c3, hs3, rfl, hn2, hoK, hoR, hoT, htb, hb⟩
  refine ⟨_, _, _, _, _, _, rfl, ?_, hb⟩
  rw [hPM]
  exact ⟨_, _, rfl, (InRow.ri (InRow.of hoK)).mono (Nat.zero_le _) (Nat.le_refl _), InRow.cap (InRow.of hoK), rc_cons (C := w.heap.size) hb.size hoR hoT htb hsl (fun q hq' => RcT.stp.go (hq q hq') (Stp.of (lo := 0) (hi := 0) hb) (.inl (Nat.zero_le _))), InRow.cap (InRow.of hoR)⟩

theorem ow_parts {lo hi : Nat} {w : World} {kj : Int} {o : Option Addr} {nj c : Nat} {sj kp : Int} {vb vr vt : Value} {lj : List Cd} {lb : List Bk} {lr : List (List (List Int))} {lt : List Sl} (h : OwBm lo hi w (balv kj (.slice o nj c) sj kp vb vr vt) ⟨⟨kj, lj, sj⟩, ⟨kp, lb, lr⟩, lt⟩) : nj = lj.length ∧ InJm lo hi w (jrn kj (.slice o nj c) sj) ⟨kj, lj, sj⟩ ∧ RcPm lo hi w (plv kp vb vr) ⟨kp, lb, lr⟩ ∧ InTb lo hi w (tab vt) lt := by
 obtain ⟨vl, vb', vr', vt', e, hj, hp, ht⟩ := h
 simp only [Value.agg.injEq, Array.mk.injEq, List.cons.injEq, and_true, true_and] at e
 obtain ⟨e1, e2, e3, e4⟩ := e
 subst e1 e2 e3 e4
 obtain ⟨vl', e5, o', c', e6, _⟩ := hj.rd
 simp only [Value.agg.injEq, Array.mk.injEq, List.cons.injEq, and_true, true_and] at e5
 subst e5
 injection e6 with _ e7 _
 exact ⟨e7, hj, hp, ht⟩
/-- What l7cmd leaves: not done, all as it was; done, what reads as cmdM. -/
def Cmd7 (m : Bm) (k i gg : Int) (w : World) (e : Ending) (w' : World) : Prop := ∃ v, e = .returned (.tuple #[v, .bool (noteF m.j k i gg)]) ∧ OwBm 0 w'.heap.size w' v (cmdM m k i gg) ∧ Below w.heap.size w w'
theorem note_bal {m : Bm} {k i gg : Int} (hb : balB m = true) (hc : cmdOkB k i gg = true) : noteF m.j k i gg = ((doL m.p.l k i gg).isSome && !decide (100 ≤ m.j.l.length)) := by
 have hj := balB_jrn hb
 have hs : m.p.l = servedOf m.j.l m.j.l.length := by rw [balB_same hb]; unfold replayM; rw [if_pos hj]
 unfold noteF noteB noteD
 rw [hj, hc, hs]
 rfl
theorem cmd_yes {m : Bm} {k i gg : Int} (hb : balB m = true) (hc : cmdOkB k i gg = true) (h : noteF m.j k i gg = true) : cmdM m k i gg = ⟨⟨m.j.key, m.j.l ++ [(k, i, gg)], (m.j.l.length : Int) + 1⟩, pdoM m.p k i gg, m.t⟩ := by
 have hj := balB_jrn hb
 unfold cmdM
 rw [if_pos h]
 have e : noteM m.j k i gg = ⟨m.j.key, m.j.l ++ [(k, i, gg)], (m.j.l.length : Int) + 1⟩ := by
  unfold noteF at h
  rw [Bool.and_eq_true] at h
  unfold noteM
  rw [if_pos h.1, if_pos h.2]
 rw [e]
theorem cmd_fit {m : Bm} {k i gg : Int} (hb : balB m = true) (hc : cmdOkB k i gg = true) (hf : fitBm m) : fitBm (cmdM m k i gg) := by
 unfold cmdM
 split
 ·next h =>
  have hj := (note_yes h).2.1
  have h1 := (journal_facts hj).2.1
  exact ⟨by show (noteM m.j k i gg).l.length ≤ _; omega, pdo_fit k i gg hf.2.1, hf.2.2⟩
 ·exact hf
theorem rc_eta {lo hi : Nat} {w : World} {kp : Int} {vb vr : Value} {pr : Pm} (h : pr.key = kp) (hr : RcPm lo hi w (plv kp vb vr) ⟨kp, pr.l, pr.ring⟩) : RcPm lo hi w (plv kp vb vr) pr := by
 obtain ⟨a, b, c⟩ := pr
 dsimp only at h hr
 subst h
 exact hr
theorem pdo_key {m : Pm} {k i gg : Int} (hp : poolB m = true) (hc : cmdOkB k i gg = true) : (pdoM m k i gg).key = m.key := by
 unfold pdoM
 rw [if_pos (by rw [hp, hc]; rfl)]
 split <;> rfl

set_option maxRecDepth 100000 in
set_option maxHeartbeats 8000000 in
theorem l7cmd_any (kj : Int) (o : Option Addr) (nj c : Nat) (sj kp : Int) (ob : Option Addr) (np cb : Nat) (oR : Option Addr) (nr cR : Nat) (ot : Option Addr) (nt ct : Nat) (lj : List Cd) (lb : List Bk) (lr : List (List (List Int))) (lt : List Sl) (k i gg : Int) (w : World)
  (hO : OwBm 0 w.heap.size w (balv kj (.slice o nj c) sj kp (.slice ob np cb) (.slice oR nr cR) (.slice ot nt ct)) ⟨⟨kj, lj, sj⟩, ⟨kp, lb, lr⟩, lt⟩) (hb : balB ⟨⟨kj, lj, sj⟩, ⟨kp, lb, lr⟩, lt⟩ = true) (hc : cmdOkB k i gg = true) (hf : fitBm ⟨⟨kj, lj, sj⟩, ⟨kp, lb, lr⟩, lt⟩) :
  Calls Tryz.prog 59 #[balv kj (.slice o nj c) sj kp (.slice ob np cb) (.slice oR nr cR) (.slice ot nt ct), cmd k i gg] w fun e w' => Cmd7 ⟨⟨kj, lj, sj⟩, ⟨kp, lb, lr⟩, lt⟩ k i gg w e w' := by
 obtain ⟨hnj, hj, hp, ht⟩ := ow_parts hO
 have hpb := balB_pool hb
 have HDO := hide (fun W (hb9 : Below w.heap.size w W) => l4do_rc (k := k) (i := i) (gg := gg) ((hp.kept hb9 (Nat.le_refl _)).le hb9.size) hpb hc)
 have HOW := hide (fun W (hb9 : Below w.heap.size w W) => l7own_ow ((hO.step (Stp.of (lo := 0) (hi := 0) hb9) (.inl (Nat.zero_le _))).mono (Nat.le_refl _) hb9.size) (Nat.le_refl _) (balB_pos hb) hf)
 have HO0 := hide hO
 have HNF := hide (note_bal hb hc)
 have HCY := hide (fun h => cmd_yes hb hc h)
 have HCN := hide (show noteF ⟨kj, lj, sj⟩ k i gg = false → cmdM ⟨⟨kj, lj, sj⟩, ⟨kp, lb, lr⟩, lt⟩ k i gg = ⟨⟨kj, lj, sj⟩, ⟨kp, lb, lr⟩, lt⟩ from fun h => by unfold cmdM; rw [if_neg (by rw [h]; decide)])
 have HPK := hide (pdo_key hpb hc)
 have hl1 : lj.length ≤ 100000 := hf.1
 have hpf := pdo_fit k i gg hf.2.1
 dsimp only at HDO HNF HCY HPK hpf
 rw [← hnj] at hl1 HNF
 have HNJ := hide hnj
 obtain ⟨pr, hpr⟩ : ∃ x, pdoM ⟨kp, lb, lr⟩ k i gg = x := ⟨_, rfl⟩
 obtain ⟨db, hdb⟩ : ∃ x, (doL lb k i gg).isSome = x := ⟨_, rfl⟩
 obtain ⟨nf, hnf⟩ : ∃ x, noteF ⟨kj, lj, sj⟩ k i gg = x := ⟨_, rfl⟩
 rw [hpr] at HDO HCY HPK hpf
 rw [hdb] at HDO HNF
 have HN2 := hide hnf
 rw [hnf] at HNF HCN HCY
 clear hpr hdb hnf hnj hj hp ht hpb hO hb hc hf
 obtain ⟨W0, hW0⟩ : ∃ W, (((w.alloc (.cells #[.int .i64 kj, .slice o nj c, .int .i64 sj, .int .i64 kp, .slice ob np cb, .slice oR nr cR, .slice ot nt ct] 46)).alloc (.cells #[.int .i64 k, .int .i64 i, .int .i64 gg] 54)).alloc (.cells #[.int .i64 0, .slice none 0 0, .int .i64 0, .int .i64 0, .slice none 0 0, .slice none 0 0, .slice none 0 0] 46)) = W := ⟨_, rfl⟩
 have hb_W0 : Below w.heap.size w W0 := by rw [← hW0]; exact ((((Below.refl _ _).alloc (Nat.le_refl _) _).alloc (by simp <;> omega) _).alloc (by simp <;> omega) _)
 have HB := hide hb_W0
 clear hb_W0
 have zz : w.heap.size < W0.heap.size := by rw [← hW0]; simp <;> omega
 have z0 : W0.cell? ⟨w.heap.size, 0, none⟩ = some (.int .i64 kj) := by rw [← hW0]; simp [go_sem]
 have z1 : W0.cell? ⟨w.heap.size, 1, none⟩ = some (.slice o nj c) := by rw [← hW0]; simp [go_sem]
 have z2 : W0.cell? ⟨w.heap.size, 2, none⟩ = some (.int .i64 sj) := by rw [← hW0]; simp [go_sem]
 have z3 : W0.cell? ⟨w.heap.size, 3, none⟩ = some (.int .i64 kp) := by rw [← hW0]; simp [go_sem]
 have z4 : W0.cell? ⟨w.heap.size, 4, none⟩ = some (.slice ob np cb) := by rw [← hW0]; simp [go_sem]
 have z5 : W0.cell? ⟨w.heap.size, 5, none⟩ = some (.slice oR nr cR) := by rw [← hW0]; simp [go_sem]
 have z6 : W0.cell? ⟨w.heap.size, 6, none⟩ = some (.slice ot nt ct) := by rw [← hW0]; simp [go_sem]
 have zc : w.heap.size + 1 < W0.heap.size := by rw [← hW0]; simp <;> omega
 have c0 : W0.cell? ⟨w.heap.size + 1, 0, none⟩ = some (.int .i64 k) := by rw [← hW0]; simp [go_sem]
 have c1 : W0.cell? ⟨w.heap.size + 1, 1, none⟩ = some (.int .i64 i) := by rw [← hW0]; simp [go_sem]
 have c2 : W0.cell? ⟨w.heap.size + 1, 2, none⟩ = some (.int .i64 gg) := by rw [← hW0]; simp [go_sem]
 have zr : w.heap.size + 1 + 1 < W0.heap.size := by rw [← hW0]; simp
 have r0 : W0.cell? ⟨w.heap.size + 1 + 1, 0, none⟩ = some (.int .i64 0) := by rw [← hW0]; simp [go_sem]
 have r1 : W0.cell? ⟨w.heap.size + 1 + 1, 1, none⟩ = some (.slice none 0 0) := by rw [← hW0]; simp [go_sem]
 have r2 : W0.cell? ⟨w.heap.size + 1 + 1, 2, none⟩ = some (.int .i64 0) := by rw [← hW0]; simp [go_sem]
 have r3 : W0.cell? ⟨w.heap.size + 1 + 1, 3, none⟩ = some (.int .i64 0) := by rw [← hW0]; simp [go_sem]
 have r4 : W0.cell? ⟨w.heap.size + 1 + 1, 4, none⟩ = some (.slice none 0 0) := by rw [← hW0]; simp [go_sem]
 have r5 : W0.cell? ⟨w.heap.size + 1 + 1, 5, none⟩ = some (.slice none 0 0) := by rw [← hW0]; simp [go_sem]
 have r6 : W0.cell? ⟨w.heap.size + 1 + 1, 6, none⟩ = some (.slice none 0 0) := by rw [← hW0]; simp [go_sem]
 have fr0 : W0.frozen? ⟨w.heap.size + 1 + 1, 0, none⟩ = false := by rw [← hW0]; simp [go_sem]
 have fr1 : W0.frozen? ⟨w.heap.size + 1 + 1, 1, none⟩ = false := by rw [← hW0]; simp [go_sem]
 have fr2 : W0.frozen? ⟨w.heap.size + 1 + 1, 2, none⟩ = false := by rw [← hW0]; simp [go_sem]
 have fr3 : W0.frozen? ⟨w.heap.size + 1 + 1, 3, none⟩ = false := by rw [← hW0]; simp [go_sem]
 have fr4 : W0.frozen? ⟨w.heap.size + 1 + 1, 4, none⟩ = false := by rw [← hW0]; simp [go_sem]
 have fr5 : W0.frozen? ⟨w.heap.size + 1 + 1, 5, none⟩ = false := by rw [← hW0]; simp [go_sem]
 have fr6 : W0.frozen? ⟨w.heap.size + 1 + 1, 6, none⟩ = false := by rw [← hW0]; simp [go_sem]
 have hzr : w.heap.size + 1 + 1 < W0.heap.size := zr
 go_enter Tryz.func59, Tryz.ntmps59
 go_wp2_with fail
 refine (HDO.out W0 HB.out).mono ?_
 rintro e v1 ⟨uo, un, uc, vo, vn, vc, rfl, hrp, hb⟩
 have HRP := hide hrp
 have hs1 := hb.size
 clear hrp HDO
 replace z0 := bC hb z0 zz
 replace z1 := bC hb z1 zz
 replace z2 := bC hb z2 zz
 replace z3 := bC hb z3 zz
 replace z4 := bC hb z4 zz
 replace z5 := bC hb z5 zz
 replace z6 := bC hb z6 zz
 replace zz := Nat.lt_of_lt_of_le zz hb.size
 replace c0 := bC hb c0 zc
 replace c1 := bC hb c1 zc
 replace c2 := bC hb c2 zc
 replace zc := Nat.lt_of_lt_of_le zc hb.size
 replace r0 := bC hb r0 zr
 replace r1 := bC hb r1 zr
 replace r2 := bC hb r2 zr
 replace r3 := bC hb r3 zr
 replace r4 := bC hb r4 zr
 replace r5 := bC hb r5 zr
 replace r6 := bC hb r6 zr
 replace fr0 := bF hb fr0 zr
 replace fr1 := bF hb fr1 zr
 replace fr2 := bF hb fr2 zr
 replace fr3 := bF hb fr3 zr
 replace fr4 := bF hb fr4 zr
 replace fr5 := bF hb fr5 zr
 replace fr6 := bF hb fr6 zr
 replace zr := Nat.lt_of_lt_of_le zr hb.size
 replace HB := hide (HB.out.trans (hb.mono HB.out.size))
 clear hb
 obtain ⟨W2, hW2⟩ : ∃ W, (v1.alloc (.cells #[.int .i64 kp, .slice uo un uc, .slice vo vn vc] 41)) = W := ⟨_, rfl⟩
 have hb_W2 : Below v1.heap.size v1 W2 := by rw [← hW2]; exact ((Below.refl _ _).alloc (Nat.le_refl _) _)
 replace z0 := bC hb_W2 z0 zz
 replace z1 := bC hb_W2 z1 zz
 replace z2 := bC hb_W2 z2 zz
 replace z3 := bC hb_W2 z3 zz
 replace z4 := bC hb_W2 z4 zz
 replace z5 := bC hb_W2 z5 zz
 replace z6 := bC hb_W2 z6 zz
 replace zz := Nat.lt_of_lt_of_le zz hb_W2.size
 replace c0 := bC hb_W2 c0 zc
 replace c1 := bC hb_W2 c1 zc
 replace c2 := bC hb_W2 c2 zc
 replace zc := Nat.lt_of_lt_of_le zc hb_W2.size
 replace r0 := bC hb_W2 r0 zr
 replace r1 := bC hb_W2 r1 zr
 replace r2 := bC hb_W2 r2 zr
 replace r3 := bC hb_W2 r3 zr
 replace r4 := bC hb_W2 r4 zr
 replace r5 := bC hb_W2 r5 zr
 replace r6 := bC hb_W2 r6 zr
 replace fr0 := bF hb_W2 fr0 zr
 replace fr1 := bF hb_W2 fr1 zr
 replace fr2 := bF hb_W2 fr2 zr
 replace fr3 := bF hb_W2 fr3 zr
 replace fr4 := bF hb_W2 fr4 zr
 replace fr5 := bF hb_W2 fr5 zr
 replace fr6 := bF hb_W2 fr6 zr
 replace zr := Nat.lt_of_lt_of_le zr hb_W2.size
 replace HB := hide (HB.out.trans (hb_W2.mono HB.out.size))
 clear hb_W2
 have zp : v1.heap.size < W2.heap.size := by rw [← hW2]; simp
 have p0 : W2.cell? ⟨v1.heap.size, 0, none⟩ = some (.int .i64 kp) := by rw [← hW2]; simp [go_sem]
 have p1 : W2.cell? ⟨v1.heap.size, 1, none⟩ = some (.slice uo un uc) := by rw [← hW2]; simp [go_sem]
 have p2 : W2.cell? ⟨v1.heap.size, 2, none⟩ = some (.slice vo vn vc) := by rw [← hW2]; simp [go_sem]
 replace HRP := hide (((HRP.out.kept (show Below v1.heap.size v1 W2 by rw [← hW2]; exact (Below.refl _ _).alloc (Nat.le_refl _) _) (Nat.le_refl _))).le (Nat.le_of_lt zp))
 have hs2 : v1.heap.size < W2.heap.size := zp
 cases db with
 | false =>
  have e0 : nf = false := by rw [HNF.out]; rfl
  subst e0
  have HFI : Hid (OwBm 0 (setB W2 (w.heap.size + 1 + 1) (.int .i64 kj) (.slice o nj c) (.int .i64 sj) (.int .i64 kp) (.slice ob np cb) (.slice oR nr cR) (.slice ot nt ct)).heap.size (setB W2 (w.heap.size + 1 + 1) (.int .i64 kj) (.slice o nj c) (.int .i64 sj) (.int .i64 kp) (.slice ob np cb) (.slice oR nr cR) (.slice ot nt ct)) (balv kj (.slice o nj c) sj kp (.slice ob np cb) (.slice oR nr cR) (.slice ot nt ct)) ⟨⟨kj, lj, sj⟩, ⟨kp, lb, lr⟩, lt⟩) := by
   have h := (HO0.out.step (Stp.of (lo := 0) (hi := 0) HB.out) (.inl (Nat.zero_le _))).step (stp_setB W2 (w.heap.size + 1 + 1) (.int .i64 kj) (.slice o nj c) (.int .i64 sj) (.int .i64 kp) (.slice ob np cb) (.slice oR nr cR) (.slice ot nt ct)) (.inr (by omega))
   exact h.mono (Nat.le_refl _) (by rw [setB_size]; omega)
  clear HOW HO0 HRP
  go_wp2
  refine bodyPost_ret (v := .tuple #[balv kj (.slice o nj c) sj kp (.slice ob np cb) (.slice oR nr cR) (.slice ot nt ct), .bool false]) (by simp [results, Tryz.results59, go_sem, r0, r1, r2, r3, r4, r5, r6]) rfl ⟨_, by rw [HN2.out], ?_, setB_below HB.out (by omega) _ _ _ _ _ _ _⟩
  rw [HCN.out (by first | rfl | trivial)]
  exact HFI.out
 | true =>
  by_cases h100 : 100 ≤ nj
  ·have h100' : (100 : Int) ≤ (nj : Int) := by omega
   have e0 : nf = false := by rw [HNF.out]; simp [h100]
   subst e0
   have HFI : Hid (OwBm 0 (setB W2 (w.heap.size + 1 + 1) (.int .i64 kj) (.slice o nj c) (.int .i64 sj) (.int .i64 kp) (.slice ob np cb) (.slice oR nr cR) (.slice ot nt ct)).heap.size (setB W2 (w.heap.size + 1 + 1) (.int .i64 kj) (.slice o nj c) (.int .i64 sj) (.int .i64 kp) (.slice ob np cb) (.slice oR nr cR) (.slice ot nt ct)) (balv kj (.slice o nj c) sj kp (.slice ob np cb) (.slice oR nr cR) (.slice ot nt ct)) ⟨⟨kj, lj, sj⟩, ⟨kp, lb, lr⟩, lt⟩) := by
    have h := (HO0.out.step (Stp.of (lo := 0) (hi := 0) HB.out) (.inl (Nat.zero_le _))).step (stp_setB W2 (w.heap.size + 1 + 1) (.int .i64 kj) (.slice o nj c) (.int .i64 sj) (.int .i64 kp) (.slice ob np cb) (.slice oR nr cR) (.slice ot nt ct)) (.inr (by omega))
    exact h.mono (Nat.le_refl _) (by rw [setB_size]; omega)
   clear HOW HO0 HRP
   go_wp2
   refine bodyPost_ret (v := .tuple #[balv kj (.slice o nj c) sj kp (.slice ob np cb) (.slice oR nr cR) (.slice ot nt ct), .bool false]) (by simp [results, Tryz.results59, go_sem, r0, r1, r2, r3, r4, r5, r6]) rfl ⟨_, by rw [HN2.out], ?_, setB_below HB.out (by omega) _ _ _ _ _ _ _⟩
   rw [HCN.out (by first | rfl | trivial)]
   exact HFI.out
  ·have h100' : ¬ ((100 : Int) ≤ (nj : Int)) := by omega
   have e0 : nf = true := by rw [HNF.out]; simp [h100]
   subst e0
   have hcy := HCY.out (by first | rfl | trivial)
   have HCM := hide hcy
   clear hcy HCY HCN HNF HO0
   go_wp2_with fail
   refine (HOW.out W2 HB.out).mono ?_
   rintro e v2 ⟨vo9, rfl, ino, hb⟩
   have HIO := hide ino
   have hs3 := hb.size
   replace HRP := hide ((HRP.out.kept hb (Nat.le_refl _)).le hb.size)
   clear ino HOW
   replace z0 := bC hb z0 zz
   replace z1 := bC hb z1 zz
   replace z2 := bC hb z2 zz
   replace z3 := bC hb z3 zz
   replace z4 := bC hb z4 zz
   replace z5 := bC hb z5 zz
   replace z6 := bC hb z6 zz
   replace zz := Nat.lt_of_lt_of_le zz hb.size
   replace c0 := bC hb c0 zc
   replace c1 := bC hb c1 zc
   replace c2 := bC hb c2 zc
   replace zc := Nat.lt_of_lt_of_le zc hb.size
   replace r0 := bC hb r0 zr
   replace r1 := bC hb r1 zr
   replace r2 := bC hb r2 zr
   replace r3 := bC hb r3 zr
   replace r4 := bC hb r4 zr
   replace r5 := bC hb r5 zr
   replace r6 := bC hb r6 zr
   replace fr0 := bF hb fr0 zr
   replace fr1 := bF hb fr1 zr
   replace fr2 := bF hb fr2 zr
   replace fr3 := bF hb fr3 zr
   replace fr4 := bF hb fr4 zr
   replace fr5 := bF hb fr5 zr
   replace fr6 := bF hb fr6 zr
   replace zr := Nat.lt_of_lt_of_le zr hb.size
   replace p0 := bC hb p0 zp
   replace p1 := bC hb p1 zp
   replace p2 := bC hb p2 zp
   replace zp := Nat.lt_of_lt_of_le zp hb.size
   replace HB := hide (HB.out.trans (hb.mono HB.out.size))
   clear hb
   obtain ⟨o9, c9, ob9, cb9, oR9, cR9, ot9, ct9, e9⟩ := HIO.out.rd.opn
   dsimp only at e9
   rw [← HNJ.out] at e9
   obtain ⟨np9, hnp9⟩ : ∃ x, lb.length = x := ⟨_, rfl⟩
   obtain ⟨nr9, hnr9⟩ : ∃ x, lr.length = x := ⟨_, rfl⟩
   obtain ⟨nt9, hnt9⟩ : ∃ x, lt.length = x := ⟨_, rfl⟩
   rw [hnp9, hnr9, hnt9] at e9
   clear hnp9 hnr9 hnt9
   subst e9
   obtain ⟨W4, hW4⟩ : ∃ W, (v2.alloc (.cells #[.int .i64 kj, .slice o9 nj c9, .int .i64 sj, .int .i64 kp, .slice ob9 np9 cb9, .slice oR9 nr9 cR9, .slice ot9 nt9 ct9] 46)) = W := ⟨_, rfl⟩
   have hb_W4 : Below v2.heap.size v2 W4 := by rw [← hW4]; exact ((Below.refl _ _).alloc (Nat.le_refl _) _)
   replace z0 := bC hb_W4 z0 zz
   replace z1 := bC hb_W4 z1 zz
   replace z2 := bC hb_W4 z2 zz
   replace z3 := bC hb_W4 z3 zz
   replace z4 := bC hb_W4 z4 zz
   replace z5 := bC hb_W4 z5 zz
   replace z6 := bC hb_W4 z6 zz
   replace zz := Nat.lt_of_lt_of_le zz hb_W4.size
   replace c0 := bC hb_W4 c0 zc
   replace c1 := bC hb_W4 c1 zc
   replace c2 := bC hb_W4 c2 zc
   replace zc := Nat.lt_of_lt_of_le zc hb_W4.size
   replace r0 := bC hb_W4 r0 zr
   replace r1 := bC hb_W4 r1 zr
   replace r2 := bC hb_W4 r2 zr
   replace r3 := bC hb_W4 r3 zr
   replace r4 := bC hb_W4 r4 zr
   replace r5 := bC hb_W4 r5 zr
   replace r6 := bC hb_W4 r6 zr
   replace fr0 := bF hb_W4 fr0 zr
   replace fr1 := bF hb_W4 fr1 zr
   replace fr2 := bF hb_W4 fr2 zr
   replace fr3 := bF hb_W4 fr3 zr
   replace fr4 := bF hb_W4 fr4 zr
   replace fr5 := bF hb_W4 fr5 zr
   replace fr6 := bF hb_W4 fr6 zr
   replace zr := Nat.lt_of_lt_of_le zr hb_W4.size
   replace p0 := bC hb_W4 p0 zp
   replace p1 := bC hb_W4 p1 zp
   replace p2 := bC hb_W4 p2 zp
   replace zp := Nat.lt_of_lt_of_le zp hb_W4.size
   replace HB := hide (HB.out.trans (hb_W4.mono HB.out.size))
   clear hb_W4
   have zu : v2.heap.size < W4.heap.size := by rw [← hW4]; simp
   have u0 : W4.cell? ⟨v2.heap.size, 0, none⟩ = some (.int .i64 kj) := by rw [← hW4]; simp [go_sem]
   have u1 : W4.cell? ⟨v2.heap.size, 1, none⟩ = some (.slice o9 nj c9) := by rw [← hW4]; simp [go_sem]
   have u2 : W4.cell? ⟨v2.heap.size, 2, none⟩ = some (.int .i64 sj) := by rw [← hW4]; simp [go_sem]
   have u3 : W4.cell? ⟨v2.heap.size, 3, none⟩ = some (.int .i64 kp) := by rw [← hW4]; simp [go_sem]
   have u4 : W4.cell? ⟨v2.heap.size, 4, none⟩ = some (.slice ob9 np9 cb9) := by rw [← hW4]; simp [go_sem]
   have u5 : W4.cell? ⟨v2.heap.size, 5, none⟩ = some (.slice oR9 nr9 cR9) := by rw [← hW4]; simp [go_sem]
   have u6 : W4.cell? ⟨v2.heap.size, 6, none⟩ = some (.slice ot9 nt9 ct9) := by rw [← hW4]; simp [go_sem]
   have hu : v2.heap.size < W4.heap.size := zu
   have hbW4 : Below v2.heap.size v2 W4 := by rw [← hW4]; exact (Below.refl _ _).alloc (Nat.le_refl _) _
   replace HIO := hide (HIO.out.step (Stp.of (lo := 0) (hi := 0) hbW4) (.inl (Nat.zero_le _)))
   replace HRP := hide ((HRP.out.kept hbW4 (Nat.le_refl _)).le hbW4.size)
   have HXU : Hid (W4.heap[v2.heap.size]? = some (.cells #[.int .i64 kj, .slice o9 nj c9, .int .i64 sj, .int .i64 kp, .slice ob9 np9 cb9, .slice oR9 nr9 cR9, .slice ot9 nt9 ct9] 46 (0, 0))) := by rw [← hW4]; exact World.alloc_heap_new v2 _
   clear hbW4
   obtain ⟨vb8, vr8, e8, kb1, kb2, kb3, kb4⟩ := HRP.out
   simp only [Value.agg.injEq, Array.mk.injEq, List.cons.injEq, and_true, Value.int.injEq] at e8
   obtain ⟨e80, e81, e82⟩ := e8
   subst e81 e82
   obtain ⟨u9, uc9, e83, rk9⟩ := RiV.open kb1
   injection e83 with e831 e832 e833
   subst e831 e832
   obtain ⟨v9, vc9, e84⟩ := RiR.len (RcR.ri kb3)
   injection e84 with e841 e842 e843
   subst e841 e842
   have HL4 := hide (l4own_rc kp uo uc pr.l vo vc pr.ring pr.ring.length rfl W4 rk9 (fun e => kb2 _ _ (by rw [e])) hpf.1 kb3 (by have := hpf.2.1; omega) hpf.2.2.2.1 hpf.2.2.2.2)
   clear HRP kb1 kb2 kb3 kb4 rk9 e80 e833 e843
   go_wp2_with fail
   refine (HL4.out).mono ?_
   rintro e v3 ⟨vq, rfl, inq, hb⟩
   have HIQ := hide inq
   have hs5 := hb.size
   replace HIO := hide (HIO.out.step (Stp.of (lo := 0) (hi := 0) hb) (.inl (Nat.zero_le _)))
   replace HXU := hide ((hb.block _ hu).trans HXU.out)
   clear inq HL4
   replace z0 := bC hb z0 zz
   replace z1 := bC hb z1 zz
   replace z2 := bC hb z2 zz
   replace z3 := bC hb z3 zz
   replace z4 := bC hb z4 zz
   replace z5 := bC hb z5 zz
   replace z6 := bC hb z6 zz
   replace zz := Nat.lt_of_lt_of_le zz hb.size
   replace c0 := bC hb c0 zc
   replace c1 := bC hb c1 zc
   replace c2 := bC hb c2 zc
   replace zc := Nat.lt_of_lt_of_le zc hb.size
   replace r0 := bC hb r0 zr
   replace r1 := bC hb r1 zr
   replace r2 := bC hb r2 zr
   replace r3 := bC hb r3 zr
   replace r4 := bC hb r4 zr
   replace r5 := bC hb r5 zr
   replace r6 := bC hb r6 zr
   replace fr0 := bF hb fr0 zr
   replace fr1 := bF hb fr1 zr
   replace fr2 := bF hb fr2 zr
   replace fr3 := bF hb fr3 zr
   replace fr4 := bF hb fr4 zr
   replace fr5 := bF hb fr5 zr
   replace fr6 := bF hb fr6 zr
   replace zr := Nat.lt_of_lt_of_le zr hb.size
   replace p0 := bC hb p0 zp
   replace p1 := bC hb p1 zp
   replace p2 := bC hb p2 zp
   replace zp := Nat.lt_of_lt_of_le zp hb.size
   replace u0 := bC hb u0 zu
   replace u1 := bC hb u1 zu
   replace u2 := bC hb u2 zu
   replace u3 := bC hb u3 zu
   replace u4 := bC hb u4 zu
   replace u5 := bC hb u5 zu
   replace u6 := bC hb u6 zu
   replace zu := Nat.lt_of_lt_of_le zu hb.size
   replace HB := hide (HB.out.trans (hb.mono HB.out.size))
   clear hb
   obtain ⟨o8, c8, oR8, cR8, e8⟩ := HIQ.out.opn
   dsimp only at e8
   obtain ⟨un, hun⟩ : ∃ x, pr.l.length = x := ⟨_, rfl⟩
   obtain ⟨vn, hvn⟩ : ∃ x, pr.ring.length = x := ⟨_, rfl⟩
   rw [hun, hvn] at e8
   subst e8
   simp only [hun, hvn] at *
   have HUV := hide (And.intro hun hvn)
   clear hun hvn
   have hlz : w.heap.size < v2.heap.size := by omega
   have hlc : w.heap.size + 1 < v2.heap.size := by omega
   have hlr : w.heap.size + 1 + 1 < v2.heap.size := by omega
   have hlp : v1.heap.size < v2.heap.size := by omega
   have fu0 := bx_frozen HXU.out 0
   have fu1 := bx_frozen HXU.out 1
   have fu2 := bx_frozen HXU.out 2
   have fu3 := bx_frozen HXU.out 3
   have fu4 := bx_frozen HXU.out 4
   have fu5 := bx_frozen HXU.out 5
   have fu6 := bx_frozen HXU.out 6
   obtain ⟨W6, hW6⟩ : ∃ W, set3 v3 v2.heap.size 3 (.int .i64 kp) (.slice o8 un c8) (.slice oR8 vn cR8) = W := ⟨_, rfl⟩
   have s6 : Stp v2.heap.size (v2.heap.size + 1) v3 W6 := by rw [← hW6]; exact stp_set3 _ _ _ _ _ _
   have HX6 : Hid (W6.heap[v2.heap.size]? = some (.cells #[.int .i64 kj, .slice o9 nj c9, .int .i64 sj, .int .i64 kp, .slice o8 un c8, .slice oR8 vn cR8, .slice ot9 nt9 ct9] 46 (0, 0))) := by rw [← hW6]; exact box_put (box_put (box_put HXU.out 3 _) 4 _) 5 _
   replace HIO := hide (HIO.out.step s6 (.inr (Nat.le_refl _)))
   replace HIQ := hide (HIQ.out.step s6 (.inl (by omega)))
   have hs6 := s6.size
   have HS6 := hide s6
   clear s6
   have d0 : W6.cell? ⟨v2.heap.size, 0, none⟩ = some (.int .i64 kj) := bx_cell HX6.out 0 _ rfl
   have d1 : W6.cell? ⟨v2.heap.size, 1, none⟩ = some (.slice o9 nj c9) := bx_cell HX6.out 1 _ rfl
   have d2 : W6.cell? ⟨v2.heap.size, 2, none⟩ = some (.int .i64 sj) := bx_cell HX6.out 2 _ rfl
   have d3 : W6.cell? ⟨v2.heap.size, 3, none⟩ = some (.int .i64 kp) := bx_cell HX6.out 3 _ rfl
   have d4 : W6.cell? ⟨v2.heap.size, 4, none⟩ = some (.slice o8 un c8) := bx_cell HX6.out 4 _ rfl
   have d5 : W6.cell? ⟨v2.heap.size, 5, none⟩ = some (.slice oR8 vn cR8) := bx_cell HX6.out 5 _ rfl
   have d6 : W6.cell? ⟨v2.heap.size, 6, none⟩ = some (.slice ot9 nt9 ct9) := bx_cell HX6.out 6 _ rfl
   have dc0 := HS6.out.cellP c0 (.inl hlc)
   have dc1 := HS6.out.cellP c1 (.inl hlc)
   have dc2 := HS6.out.cellP c2 (.inl hlc)
   obtain ⟨hnj6, hj6, hp6, ht6⟩ := ow_parts HIO.out
   clear hnj6
   obtain ⟨vl6, e6, i6⟩ := hj6
   simp only [Value.agg.injEq, Array.mk.injEq, List.cons.injEq, and_true, true_and] at e6
   subst e6
   obtain ⟨vt6, e6, it6⟩ := ht6
   simp only [Value.agg.injEq, Array.mk.injEq, List.cons.injEq, and_true] at e6
   subst e6
   clear hp6
   dsimp only at i6
   have HI6 := hide i6
   have HT6 := hide it6
   clear i6 it6
   have HA : Hid (ownL layC 54 (W6.alloc (.cells #[.int .i64 k, .int .i64 i, .int .i64 gg] 54)) W2.heap.size (.slice o9 nj c9) lj) := World.ownsRow.alloc HI6.out.1 _
   have hal : Below W6.heap.size W6 (W6.alloc (.cells #[.int .i64 k, .int .i64 i, .int .i64 gg] 54)) := (Below.refl _ _).alloc (Nat.le_refl _) _
   have HAL := hide hal
   clear hal
   dsimp only [set3] at hW6
   have hl1' : lj.length ≤ 100000 := by rw [← HNJ.out]; exact hl1
   go_wp2_with (first | (at_builtin; refine wpList_append_lay appC0 rfl (.tmp 33) (.tmp 35) rfl W2.heap.size _ lj rfl HA.out (some ⟨W6.heap.size, 0, none⟩) 1 _ [(k, i, gg)] 1 rfl rfl (by simp) rd_oneC (by simp; omega) (by simp; omega) ?_))
   intro v7 w7 ho7 hg7 _
   obtain ⟨o7, c7, e7, _⟩ := ownL.open (L := layC) ho7
   obtain ⟨n7, hn7⟩ : ∃ x, (lj ++ [(k, i, gg)]).length = x := ⟨_, rfl⟩
   have hn7' : (n7 : Int) = (lj.length : Int) + 1 := by rw [← hn7, List.length_append]; simp
   rw [hn7] at e7
   subst e7
   have HN7 := hide (And.intro hn7 hn7')
   clear hn7 hn7'
   have sA : Stp W2.heap.size v2.heap.size (W6.alloc (.cells #[.int .i64 k, .int .i64 i, .int .i64 gg] 54)) w7 := Stp.grown hg7 (fun b e => ⟨(HA.out.lt b e).1, HI6.out.2 b e⟩)
   have sB : Stp W2.heap.size v2.heap.size W6 w7 := (Stp.of HAL.out).trans sA
   have HBA : Hid (Below W2.heap.size W6 w7) := sB.below (Nat.le_refl _) (by omega)
   have X7 : w7.heap[v2.heap.size]? = some (.cells #[.int .i64 kj, .slice o9 nj c9, .int .i64 sj, .int .i64 kp, .slice o8 un c8, .slice oR8 vn cR8, .slice ot9 nt9 ct9] 46 (0, 0)) := sB.box HX6.out (.inr (Nat.le_refl _))
   have HT7 := hide (InRow.kept (InRow.step HT6.out (Stp.of (lo := 0) (hi := 0) HAL.out) (.inl (Nat.zero_le _))) hg7 (own_apart0 (World.ownsRow.alloc HT6.out.1 _) HA.out (by decide)))
   have HQ7 := hide (HIQ.out.step sB (.inl (by omega)))
   have hs7 := sB.size
   have HO7 := hide ho7
   have HX7 := hide X7
   clear sA X7 ho7 hg7 HIQ HIO HA HX6
   clear d0 u0 fu0 d1 u1 fu1 d2 u2 fu2 d3 u3 fu3 d4 u4 fu4 d5 u5 fu5 d6 u6 fu6 dc0 dc1 dc2
   have hS6 := HS6.out
   have hlp2 : v1.heap.size < W2.heap.size := hs2
   replace z0 := bC HBA.out (hS6.cellP z0 (.inl hlz)) (by omega)
   replace z1 := bC HBA.out (hS6.cellP z1 (.inl hlz)) (by omega)
   replace z2 := bC HBA.out (hS6.cellP z2 (.inl hlz)) (by omega)
   replace z3 := bC HBA.out (hS6.cellP z3 (.inl hlz)) (by omega)
   replace z4 := bC HBA.out (hS6.cellP z4 (.inl hlz)) (by omega)
   replace z5 := bC HBA.out (hS6.cellP z5 (.inl hlz)) (by omega)
   replace z6 := bC HBA.out (hS6.cellP z6 (.inl hlz)) (by omega)
   replace c0 := bC HBA.out (hS6.cellP c0 (.inl hlc)) (by omega)
   replace c1 := bC HBA.out (hS6.cellP c1 (.inl hlc)) (by omega)
   replace c2 := bC HBA.out (hS6.cellP c2 (.inl hlc)) (by omega)
   replace r0 := bC HBA.out (hS6.cellP r0 (.inl hlr)) (by omega)
   replace r1 := bC HBA.out (hS6.cellP r1 (.inl hlr)) (by omega)
   replace r2 := bC HBA.out (hS6.cellP r2 (.inl hlr)) (by omega)
   replace r3 := bC HBA.out (hS6.cellP r3 (.inl hlr)) (by omega)
   replace r4 := bC HBA.out (hS6.cellP r4 (.inl hlr)) (by omega)
   replace r5 := bC HBA.out (hS6.cellP r5 (.inl hlr)) (by omega)
   replace r6 := bC HBA.out (hS6.cellP r6 (.inl hlr)) (by omega)
   replace fr0 := bF HBA.out (Stp.frozen hS6 fr0 zr (.inl hlr)) (by omega)
   replace fr1 := bF HBA.out (Stp.frozen hS6 fr1 zr (.inl hlr)) (by omega)
   replace fr2 := bF HBA.out (Stp.frozen hS6 fr2 zr (.inl hlr)) (by omega)
   replace fr3 := bF HBA.out (Stp.frozen hS6 fr3 zr (.inl hlr)) (by omega)
   replace fr4 := bF HBA.out (Stp.frozen hS6 fr4 zr (.inl hlr)) (by omega)
   replace fr5 := bF HBA.out (Stp.frozen hS6 fr5 zr (.inl hlr)) (by omega)
   replace fr6 := bF HBA.out (Stp.frozen hS6 fr6 zr (.inl hlr)) (by omega)
   replace p0 := bC HBA.out (hS6.cellP p0 (.inl hlp)) (by omega)
   replace p1 := bC HBA.out (hS6.cellP p1 (.inl hlp)) (by omega)
   replace p2 := bC HBA.out (hS6.cellP p2 (.inl hlp)) (by omega)
   replace HB := hide ((HB.out.trans (hS6.below (by omega) HB.out.size)).trans (HBA.out.mono (by omega)))
   clear hS6 HS6 HBA sB hW6 HAL
   have u0 : w7.cell? ⟨v2.heap.size, 0, none⟩ = some (.int .i64 kj) := bx_cell HX7.out 0 _ rfl
   have u1 : w7.cell? ⟨v2.heap.size, 1, none⟩ = some (.slice o9 nj c9) := bx_cell HX7.out 1 _ rfl
   have u2 : w7.cell? ⟨v2.heap.size, 2, none⟩ = some (.int .i64 sj) := bx_cell HX7.out 2 _ rfl
   have u3 : w7.cell? ⟨v2.heap.size, 3, none⟩ = some (.int .i64 kp) := bx_cell HX7.out 3 _ rfl
   have u4 : w7.cell? ⟨v2.heap.size, 4, none⟩ = some (.slice o8 un c8) := bx_cell HX7.out 4 _ rfl
   have u5 : w7.cell? ⟨v2.heap.size, 5, none⟩ = some (.slice oR8 vn cR8) := bx_cell HX7.out 5 _ rfl
   have u6 : w7.cell? ⟨v2.heap.size, 6, none⟩ = some (.slice ot9 nt9 ct9) := bx_cell HX7.out 6 _ rfl
   have fu0 := bx_frozen HX7.out 0
   have fu1 := bx_frozen HX7.out 1
   have fu2 := bx_frozen HX7.out 2
   have fu3 := bx_frozen HX7.out 3
   have fu4 := bx_frozen HX7.out 4
   have fu5 := bx_frozen HX7.out 5
   have fu6 := bx_frozen HX7.out 6
   have X8 : (w7.setCell ⟨v2.heap.size, 1, none⟩ (.slice o7 n7 c7)).heap[v2.heap.size]? = some (.cells #[.int .i64 kj, .slice o7 n7 c7, .int .i64 sj, .int .i64 kp, .slice o8 un c8, .slice oR8 vn cR8, .slice ot9 nt9 ct9] 46 (0, 0)) := box_put HX7.out 1 _
   have X9 : ((w7.setCell ⟨v2.heap.size, 1, none⟩ (.slice o7 n7 c7)).setCell ⟨v2.heap.size, 2, none⟩ (.int .i64 (n7 : Int))).heap[v2.heap.size]? = some (.cells #[.int .i64 kj, .slice o7 n7 c7, .int .i64 (n7 : Int), .int .i64 kp, .slice o8 un c8, .slice oR8 vn cR8, .slice ot9 nt9 ct9] 46 (0, 0)) := box_put X8 2 _
   have s9 : Stp v2.heap.size (v2.heap.size + 1) w7 ((w7.setCell ⟨v2.heap.size, 1, none⟩ (.slice o7 n7 c7)).setCell ⟨v2.heap.size, 2, none⟩ (.int .i64 (n7 : Int))) := (stp_set w7 v2.heap.size 1 _).trans (stp_set _ v2.heap.size 2 _)
   have e0 : (w7.setCell ⟨v2.heap.size, 1, none⟩ (.slice o7 n7 c7)).cell? ⟨v2.heap.size, 0, none⟩ = some (.int .i64 kj) := bx_cell X8 0 _ rfl
   have e1 : (w7.setCell ⟨v2.heap.size, 1, none⟩ (.slice o7 n7 c7)).cell? ⟨v2.heap.size, 1, none⟩ = some (.slice o7 n7 c7) := bx_cell X8 1 _ rfl
   have e2 : (w7.setCell ⟨v2.heap.size, 1, none⟩ (.slice o7 n7 c7)).cell? ⟨v2.heap.size, 2, none⟩ = some (.int .i64 sj) := bx_cell X8 2 _ rfl
   have e3 : (w7.setCell ⟨v2.heap.size, 1, none⟩ (.slice o7 n7 c7)).cell? ⟨v2.heap.size, 3, none⟩ = some (.int .i64 kp) := bx_cell X8 3 _ rfl
   have e4 : (w7.setCell ⟨v2.heap.size, 1, none⟩ (.slice o7 n7 c7)).cell? ⟨v2.heap.size, 4, none⟩ = some (.slice o8 un c8) := bx_cell X8 4 _ rfl
   have e5 : (w7.setCell ⟨v2.heap.size, 1, none⟩ (.slice o7 n7 c7)).cell? ⟨v2.heap.size, 5, none⟩ = some (.slice oR8 vn cR8) := bx_cell X8 5 _ rfl
   have e6 : (w7.setCell ⟨v2.heap.size, 1, none⟩ (.slice o7 n7 c7)).cell? ⟨v2.heap.size, 6, none⟩ = some (.slice ot9 nt9 ct9) := bx_cell X8 6 _ rfl
   have y0 : ((w7.setCell ⟨v2.heap.size, 1, none⟩ (.slice o7 n7 c7)).setCell ⟨v2.heap.size, 2, none⟩ (.int .i64 (n7 : Int))).cell? ⟨v2.heap.size, 0, none⟩ = some (.int .i64 kj) := bx_cell X9 0 _ rfl
   have y1 : ((w7.setCell ⟨v2.heap.size, 1, none⟩ (.slice o7 n7 c7)).setCell ⟨v2.heap.size, 2, none⟩ (.int .i64 (n7 : Int))).cell? ⟨v2.heap.size, 1, none⟩ = some (.slice o7 n7 c7) := bx_cell X9 1 _ rfl
   have y2 : ((w7.setCell ⟨v2.heap.size, 1, none⟩ (.slice o7 n7 c7)).setCell ⟨v2.heap.size, 2, none⟩ (.int .i64 (n7 : Int))).cell? ⟨v2.heap.size, 2, none⟩ = some (.int .i64 (n7 : Int)) := bx_cell X9 2 _ rfl
   have y3 : ((w7.setCell ⟨v2.heap.size, 1, none⟩ (.slice o7 n7 c7)).setCell ⟨v2.heap.size, 2, none⟩ (.int .i64 (n7 : Int))).cell? ⟨v2.heap.size, 3, none⟩ = some (.int .i64 kp) := bx_cell X9 3 _ rfl
   have y4 : ((w7.setCell ⟨v2.heap.size, 1, none⟩ (.slice o7 n7 c7)).setCell ⟨v2.heap.size, 2, none⟩ (.int .i64 (n7 : Int))).cell? ⟨v2.heap.size, 4, none⟩ = some (.slice o8 un c8) := bx_cell X9 4 _ rfl
   have y5 : ((w7.setCell ⟨v2.heap.size, 1, none⟩ (.slice o7 n7 c7)).setCell ⟨v2.heap.size, 2, none⟩ (.int .i64 (n7 : Int))).cell? ⟨v2.heap.size, 5, none⟩ = some (.slice oR8 vn cR8) := bx_cell X9 5 _ rfl
   have y6 : ((w7.setCell ⟨v2.heap.size, 1, none⟩ (.slice o7 n7 c7)).setCell ⟨v2.heap.size, 2, none⟩ (.int .i64 (n7 : Int))).cell? ⟨v2.heap.size, 6, none⟩ = some (.slice ot9 nt9 ct9) := bx_cell X9 6 _ rfl
   have r8_0 := s9.cellP r0 (.inl hlr)
   have r8_1 := s9.cellP r1 (.inl hlr)
   have r8_2 := s9.cellP r2 (.inl hlr)
   have r8_3 := s9.cellP r3 (.inl hlr)
   have r8_4 := s9.cellP r4 (.inl hlr)
   have r8_5 := s9.cellP r5 (.inl hlr)
   have r8_6 := s9.cellP r6 (.inl hlr)
   have fr8_0 := Stp.frozen s9 fr0 (by omega) (.inl hlr)
   have fr8_1 := Stp.frozen s9 fr1 (by omega) (.inl hlr)
   have fr8_2 := Stp.frozen s9 fr2 (by omega) (.inl hlr)
   have fr8_3 := Stp.frozen s9 fr3 (by omega) (.inl hlr)
   have fr8_4 := Stp.frozen s9 fr4 (by omega) (.inl hlr)
   have fr8_5 := Stp.frozen s9 fr5 (by omega) (.inl hlr)
   have fr8_6 := Stp.frozen s9 fr6 (by omega) (.inl hlr)
   have HFI : Hid (OwBm 0 (setB ((w7.setCell ⟨v2.heap.size, 1, none⟩ (.slice o7 n7 c7)).setCell ⟨v2.heap.size, 2, none⟩ (.int .i64 (n7 : Int))) (w.heap.size + 1 + 1) (.int .i64 kj) (.slice o7 n7 c7) (.int .i64 (n7 : Int)) (.int .i64 kp) (.slice o8 un c8) (.slice oR8 vn cR8) (.slice ot9 nt9 ct9)).heap.size (setB ((w7.setCell ⟨v2.heap.size, 1, none⟩ (.slice o7 n7 c7)).setCell ⟨v2.heap.size, 2, none⟩ (.int .i64 (n7 : Int))) (w.heap.size + 1 + 1) (.int .i64 kj) (.slice o7 n7 c7) (.int .i64 (n7 : Int)) (.int .i64 kp) (.slice o8 un c8) (.slice oR8 vn cR8) (.slice ot9 nt9 ct9)) (balv kj (.slice o7 n7 c7) (n7 : Int) kp (.slice o8 un c8) (.slice oR8 vn cR8) (.slice ot9 nt9 ct9)) (cmdM ⟨⟨kj, lj, sj⟩, ⟨kp, lb, lr⟩, lt⟩ k i gg) ∧ Below w.heap.size w (setB ((w7.setCell ⟨v2.heap.size, 1, none⟩ (.slice o7 n7 c7)).setCell ⟨v2.heap.size, 2, none⟩ (.int .i64 (n7 : Int))) (w.heap.size + 1 + 1) (.int .i64 kj) (.slice o7 n7 c7) (.int .i64 (n7 : Int)) (.int .i64 kp) (.slice o8 un c8) (.slice oR8 vn cR8) (.slice ot9 nt9 ct9))) := by
    have sR := stp_setB ((w7.setCell ⟨v2.heap.size, 1, none⟩ (.slice o7 n7 c7)).setCell ⟨v2.heap.size, 2, none⟩ (.int .i64 (n7 : Int))) (w.heap.size + 1 + 1) (.int .i64 kj) (.slice o7 n7 c7) (.int .i64 (n7 : Int)) (.int .i64 kp) (.slice o8 un c8) (.slice oR8 vn cR8) (.slice ot9 nt9 ct9)
    have hz9 := s9.size
    have hszR : (setB ((w7.setCell ⟨v2.heap.size, 1, none⟩ (.slice o7 n7 c7)).setCell ⟨v2.heap.size, 2, none⟩ (.int .i64 (n7 : Int))) (w.heap.size + 1 + 1) (.int .i64 kj) (.slice o7 n7 c7) (.int .i64 (n7 : Int)) (.int .i64 kp) (.slice o8 un c8) (.slice oR8 vn cR8) (.slice ot9 nt9 ct9)).heap.size = ((w7.setCell ⟨v2.heap.size, 1, none⟩ (.slice o7 n7 c7)).setCell ⟨v2.heap.size, 2, none⟩ (.int .i64 (n7 : Int))).heap.size := setB_size _ _ _ _ _ _ _ _ _
    rw [HCM.out]
    have rj := InRow.of (World.ownsRow.kept (World.ownsRow.kept HO7.out (grown_set w7 v2.heap.size 1 (.slice o7 n7 c7)) (own_box HO7.out HX7.out (by decide))) (grown_set _ v2.heap.size 2 (.int .i64 (n7 : Int))) (own_box (World.ownsRow.kept HO7.out (grown_set w7 v2.heap.size 1 (.slice o7 n7 c7)) (own_box HO7.out HX7.out (by decide))) X8 (by decide)))
    have rj2 := InRow.step rj sR (.inl (by omega))
    have rp2 := (HQ7.out.step s9 (.inl (by omega))).step sR (.inl (by omega))
    have rt2 := InRow.step (InRow.step HT7.out s9 (.inr (Nat.le_refl _))) sR (.inl (by omega))
    obtain ⟨e1, e2⟩ := HN7.out
    obtain ⟨e3, e4⟩ := HUV.out
    refine ⟨?_, setB_below (HB.out.trans (s9.below (by omega) HB.out.size)) (by omega) _ _ _ _ _ _ _⟩
    refine ⟨.slice o7 n7 c7, .slice o8 un c8, .slice oR8 vn cR8, .slice ot9 nt9 ct9, ?_, ⟨_, rfl, ?_⟩, ?_, ⟨_, rfl, ?_⟩⟩
    ·show balv kj _ _ kp _ _ _ = balv kj _ ((lj.length : Int) + 1) pr.key _ _ _
     rw [HPK.out, ← e2]
    ·have h := InRow.mono rj2 (Nat.zero_le _) (show _ ≤ (setB ((w7.setCell ⟨v2.heap.size, 1, none⟩ (.slice o7 n7 c7)).setCell ⟨v2.heap.size, 2, none⟩ (.int .i64 (n7 : Int))) (w.heap.size + 1 + 1) (.int .i64 kj) (.slice o7 n7 c7) (.int .i64 (n7 : Int)) (.int .i64 kp) (.slice o8 un c8) (.slice oR8 vn cR8) (.slice ot9 nt9 ct9)).heap.size by rw [hszR]; exact Nat.le_refl _)
     exact h
    ·show RcPm _ _ _ (plv pr.key _ _) pr
     rw [HPK.out]
     have h := rp2.mono (Nat.zero_le _) (show v3.heap.size ≤ (setB ((w7.setCell ⟨v2.heap.size, 1, none⟩ (.slice o7 n7 c7)).setCell ⟨v2.heap.size, 2, none⟩ (.int .i64 (n7 : Int))) (w.heap.size + 1 + 1) (.int .i64 kj) (.slice o7 n7 c7) (.int .i64 (n7 : Int)) (.int .i64 kp) (.slice o8 un c8) (.slice oR8 vn cR8) (.slice ot9 nt9 ct9)).heap.size by rw [hszR]; omega)
     exact rc_eta HPK.out (rp2.mono (Nat.zero_le _) (show v3.heap.size ≤ (setB ((w7.setCell ⟨v2.heap.size, 1, none⟩ (.slice o7 n7 c7)).setCell ⟨v2.heap.size, 2, none⟩ (.int .i64 (n7 : Int))) (w.heap.size + 1 + 1) (.int .i64 kj) (.slice o7 n7 c7) (.int .i64 (n7 : Int)) (.int .i64 kp) (.slice o8 un c8) (.slice oR8 vn cR8) (.slice ot9 nt9 ct9)).heap.size by rw [hszR]; omega))
    ·exact InRow.mono rt2 (Nat.zero_le _) (show v2.heap.size ≤ (setB ((w7.setCell ⟨v2.heap.size, 1, none⟩ (.slice o7 n7 c7)).setCell ⟨v2.heap.size, 2, none⟩ (.int .i64 (n7 : Int))) (w.heap.size + 1 + 1) (.int .i64 kj) (.slice o7 n7 c7) (.int .i64 (n7 : Int)) (.int .i64 kp) (.slice o8 un c8) (.slice oR8 vn cR8) (.slice ot9 nt9 ct9)).heap.size by rw [hszR]; omega)
   clear X8 X9 s9 HO7 HT7 HQ7 HX7
   go_wp2
   refine bodyPost_ret (v := .tuple #[balv kj (.slice o7 n7 c7) (n7 : Int) kp (.slice o8 un c8) (.slice oR8 vn cR8) (.slice ot9 nt9 ct9), .bool true]) (by simp [results, Tryz.results59, go_sem, r0, r1, r2, r3, r4, r5, r6, r8_0, r8_1, r8_2, r8_3, r8_4, r8_5, r8_6]) rfl ⟨_, by rw [HN2.out], HFI.out.1, HFI.out.2⟩

set_option maxRecDepth 100000 in
set_option maxHeartbeats 4000000 in
theorem specBalCmd_any (kj : Int) (o : Option Addr) (nj c : Nat) (sj kp : Int) (ob : Option Addr) (np cb : Nat) (oR : Option Addr) (nr cR : Nat) (ot : Option Addr) (nt ct : Nat) (lj : List Cd) (lb : List Bk) (lr : List (List (List Int))) (lt : List Sl) (k i gg : Int) (w : World)
  (hnj : nj = lj.length) (hnt : nt = lt.length) (h1 : RdC w.heap.size w o lj) (h1c : o = none → c = 0) (h2 : RdPm w.heap.size w (plv kp (.slice ob np cb) (.slice oR nr cR)) ⟨kp, lb, lr⟩) (h4 : RdS w.heap.size w ot lt) (hf : fitB0 ⟨⟨kj, lj, sj⟩, ⟨kp, lb, lr⟩, lt⟩) (hO : OwBm 0 w.heap.size w (balv kj (.slice o nj c) sj kp (.slice ob np cb) (.slice oR nr cR) (.slice ot nt ct)) ⟨⟨kj, lj, sj⟩, ⟨kp, lb, lr⟩, lt⟩) :
  Calls Tryz.prog 16 #[balv kj (.slice o nj c) sj kp (.slice ob np cb) (.slice oR nr cR) (.slice ot nt ct), cmd k i gg] w fun e w' => ∃ v, e = .returned (.tuple #[v, .bool (cmd0F ⟨⟨kj, lj, sj⟩, ⟨kp, lb, lr⟩, lt⟩ k i gg)]) ∧ OwBm w.heap.size w'.heap.size w' v (cmd0M ⟨⟨kj, lj, sj⟩, ⟨kp, lb, lr⟩, lt⟩ k i gg) ∧ Below w.heap.size w w' := by
 have HBO := hide (fun W (hb : Below w.heap.size w W) => specBalOk_any kj o nj c sj kp ob np cb oR nr cR ot nt ct lj lb lr lt W hnj hnt ((h1.kept hb (Nat.le_refl _)).le hb.size) h1c ((h2.kept hb (Nat.le_refl _)).le hb.size) ((h4.kept hb (Nat.le_refl _)).le hb.size) hf)
 have HFB := hide (show balB ⟨⟨kj, lj, sj⟩, ⟨kp, lb, lr⟩, lt⟩ = true → fitBm ⟨⟨kj, lj, sj⟩, ⟨kp, lb, lr⟩, lt⟩ from fun h => ⟨by have := (journal_facts (balB_jrn h)).2.1; dsimp only at this ⊢; omega, balB_fit h, by have := (tableOkB_iff.1 (balB_tab h)).2.1; dsimp only at this ⊢; omega⟩)
 have HCR := hide (fun hb9 hc9 W (hb : Below w.heap.size w W) => l7cmd_any kj o nj c sj kp ob np cb oR nr cR ot nt ct lj lb lr lt k i gg W ((hO.step (Stp.of (lo := 0) (hi := 0) hb) (.inl (Nat.zero_le _))).mono (Nat.le_refl _) hb.size) hb9 hc9 (HFB.out hb9))
 have HCF := hide (fun hb9 hc9 => cmd_fit (m := ⟨⟨kj, lj, sj⟩, ⟨kp, lb, lr⟩, lt⟩) (k := k) (i := i) (gg := gg) hb9 hc9 (HFB.out hb9))
 have HPO := hide (fun hb9 => balB_pos (m := ⟨⟨kj, lj, sj⟩, ⟨kp, lb, lr⟩, lt⟩) hb9)
 have HTL := hide (show (cmdM ⟨⟨kj, lj, sj⟩, ⟨kp, lb, lr⟩, lt⟩ k i gg).t.length = lt.length by unfold cmdM; split <;> rfl)
 have HF0 := hide (show cmd0F ⟨⟨kj, lj, sj⟩, ⟨kp, lb, lr⟩, lt⟩ k i gg = ((balB ⟨⟨kj, lj, sj⟩, ⟨kp, lb, lr⟩, lt⟩ && cmdOkB k i gg) && noteF ⟨kj, lj, sj⟩ k i gg) from rfl)
 have HM := hide (show cmd0M ⟨⟨kj, lj, sj⟩, ⟨kp, lb, lr⟩, lt⟩ k i gg = if (balB ⟨⟨kj, lj, sj⟩, ⟨kp, lb, lr⟩, lt⟩ && cmdOkB k i gg) = true then cmdM ⟨⟨kj, lj, sj⟩, ⟨kp, lb, lr⟩, lt⟩ k i gg else bm0 from rfl)
 have HCB := hide (fun W => specPoolCmdOk_any k i gg W)
 dsimp only at HPO
 clear h1 h2 h4 hnj hnt hf hO HFB
 obtain ⟨bb, hbb⟩ : ∃ x, balB ⟨⟨kj, lj, sj⟩, ⟨kp, lb, lr⟩, lt⟩ = x := ⟨_, rfl⟩
 obtain ⟨mr, hmr⟩ : ∃ r, cmd0M ⟨⟨kj, lj, sj⟩, ⟨kp, lb, lr⟩, lt⟩ k i gg = r := ⟨_, rfl⟩
 obtain ⟨fl, hfl⟩ : ∃ r, cmd0F ⟨⟨kj, lj, sj⟩, ⟨kp, lb, lr⟩, lt⟩ k i gg = r := ⟨_, rfl⟩
 obtain ⟨cb9, hcb⟩ : ∃ r, cmdOkB k i gg = r := ⟨_, rfl⟩
 rw [hmr, hfl]
 rw [hbb] at HBO HCR HCF HPO HM HF0
 rw [hmr] at HM
 rw [hfl] at HF0
 rw [hcb] at HM HF0 HCB HCR HCF
 clear hbb hmr hfl hcb
 obtain ⟨W0, hW0⟩ : ∃ W, (((w.alloc (.cells #[.int .i64 kj, .slice o nj c, .int .i64 sj, .int .i64 kp, .slice ob np cb, .slice oR nr cR, .slice ot nt ct] 46)).alloc (.cells #[.int .i64 k, .int .i64 i, .int .i64 gg] 54)).alloc (.cells #[.int .i64 0, .slice none 0 0, .int .i64 0, .int .i64 0, .slice none 0 0, .slice none 0 0, .slice none 0 0] 46)) = W := ⟨_, rfl⟩
 have hb_W0 : Below w.heap.size w W0 := by rw [← hW0]; exact ((((Below.refl _ _).alloc (Nat.le_refl _) _).alloc (by simp <;> omega) _).alloc (by simp <;> omega) _)
 have HB := hide hb_W0
 clear hb_W0
 have zz : w.heap.size < W0.heap.size := by rw [← hW0]; simp <;> omega
 have z0 : W0.cell? ⟨w.heap.size, 0, none⟩ = some (.int .i64 kj) := by rw [← hW0]; simp [go_sem]
 have z1 : W0.cell? ⟨w.heap.size, 1, none⟩ = some (.slice o nj c) := by rw [← hW0]; simp [go_sem]
 have z2 : W0.cell? ⟨w.heap.size, 2, none⟩ = some (.int .i64 sj) := by rw [← hW0]; simp [go_sem]
 have z3 : W0.cell? ⟨w.heap.size, 3, none⟩ = some (.int .i64 kp) := by rw [← hW0]; simp [go_sem]
 have z4 : W0.cell? ⟨w.heap.size, 4, none⟩ = some (.slice ob np cb) := by rw [← hW0]; simp [go_sem]
 have z5 : W0.cell? ⟨w.heap.size, 5, none⟩ = some (.slice oR nr cR) := by rw [← hW0]; simp [go_sem]
 have z6 : W0.cell? ⟨w.heap.size, 6, none⟩ = some (.slice ot nt ct) := by rw [← hW0]; simp [go_sem]
 have zc : w.heap.size + 1 < W0.heap.size := by rw [← hW0]; simp <;> omega
 have c0 : W0.cell? ⟨w.heap.size + 1, 0, none⟩ = some (.int .i64 k) := by rw [← hW0]; simp [go_sem]
 have c1 : W0.cell? ⟨w.heap.size + 1, 1, none⟩ = some (.int .i64 i) := by rw [← hW0]; simp [go_sem]
 have c2 : W0.cell? ⟨w.heap.size + 1, 2, none⟩ = some (.int .i64 gg) := by rw [← hW0]; simp [go_sem]
 have zr : w.heap.size + 1 + 1 < W0.heap.size := by rw [← hW0]; simp
 have r0 : W0.cell? ⟨w.heap.size + 1 + 1, 0, none⟩ = some (.int .i64 0) := by rw [← hW0]; simp [go_sem]
 have r1 : W0.cell? ⟨w.heap.size + 1 + 1, 1, none⟩ = some (.slice none 0 0) := by rw [← hW0]; simp [go_sem]
 have r2 : W0.cell? ⟨w.heap.size + 1 + 1, 2, none⟩ = some (.int .i64 0) := by rw [← hW0]; simp [go_sem]
 have r3 : W0.cell? ⟨w.heap.size + 1 + 1, 3, none⟩ = some (.int .i64 0) := by rw [← hW0]; simp [go_sem]
 have r4 : W0.cell? ⟨w.heap.size + 1 + 1, 4, none⟩ = some (.slice none 0 0) := by rw [← hW0]; simp [go_sem]
 have r5 : W0.cell? ⟨w.heap.size + 1 + 1, 5, none⟩ = some (.slice none 0 0) := by rw [← hW0]; simp [go_sem]
 have r6 : W0.cell? ⟨w.heap.size + 1 + 1, 6, none⟩ = some (.slice none 0 0) := by rw [← hW0]; simp [go_sem]
 have fr0 : W0.frozen? ⟨w.heap.size + 1 + 1, 0, none⟩ = false := by rw [← hW0]; simp [go_sem]
 have fr1 : W0.frozen? ⟨w.heap.size + 1 + 1, 1, none⟩ = false := by rw [← hW0]; simp [go_sem]
 have fr2 : W0.frozen? ⟨w.heap.size + 1 + 1, 2, none⟩ = false := by rw [← hW0]; simp [go_sem]
 have fr3 : W0.frozen? ⟨w.heap.size + 1 + 1, 3, none⟩ = false := by rw [← hW0]; simp [go_sem]
 have fr4 : W0.frozen? ⟨w.heap.size + 1 + 1, 4, none⟩ = false := by rw [← hW0]; simp [go_sem]
 have fr5 : W0.frozen? ⟨w.heap.size + 1 + 1, 5, none⟩ = false := by rw [← hW0]; simp [go_sem]
 have fr6 : W0.frozen? ⟨w.heap.size + 1 + 1, 6, none⟩ = false := by rw [← hW0]; simp [go_sem]
 have hzr : w.heap.size + 1 + 1 < W0.heap.size := zr
 cases bb with
 | false =>
  go_enter Tryz.func16, Tryz.ntmps16
  go_wp2_with fail
  refine (HBO.out W0 HB.out).mono ?_
  rintro e v1 ⟨rfl, hb⟩
  replace z0 := bC hb z0 zz
  replace z1 := bC hb z1 zz
  replace z2 := bC hb z2 zz
  replace z3 := bC hb z3 zz
  replace z4 := bC hb z4 zz
  replace z5 := bC hb z5 zz
  replace z6 := bC hb z6 zz
  replace zz := Nat.lt_of_lt_of_le zz hb.size
  replace c0 := bC hb c0 zc
  replace c1 := bC hb c1 zc
  replace c2 := bC hb c2 zc
  replace zc := Nat.lt_of_lt_of_le zc hb.size
  replace r0 := bC hb r0 zr
  replace r1 := bC hb r1 zr
  replace r2 := bC hb r2 zr
  replace r3 := bC hb r3 zr
  replace r4 := bC hb r4 zr
  replace r5 := bC hb r5 zr
  replace r6 := bC hb r6 zr
  replace fr0 := bF hb fr0 zr
  replace fr1 := bF hb fr1 zr
  replace fr2 := bF hb fr2 zr
  replace fr3 := bF hb fr3 zr
  replace fr4 := bF hb fr4 zr
  replace fr5 := bF hb fr5 zr
  replace fr6 := bF hb fr6 zr
  replace zr := Nat.lt_of_lt_of_le zr hb.size
  replace HB := hide (HB.out.trans (hb.mono HB.out.size))
  clear hb
  have e0 : fl = false := by rw [HF0.out]; simp
  subst e0
  go_wp2
  refine bodyPost_ret (v := .tuple #[balv 0 (.slice none 0 0) 0 0 (.slice none 0 0) (.slice none 0 0) (.slice none 0 0), .bool false]) (by simp [results, Tryz.results16, go_sem, r0, r1, r2, r3, r4, r5, r6]) rfl ⟨_, rfl, ?_, setB_below HB.out (by omega) _ _ _ _ _ _ _⟩
  rw [HM.out, setB_size]
  exact bm0_ow _ _ _
 | true =>
  cases cb9 with
  | false =>
   go_enter Tryz.func16, Tryz.ntmps16
   go_wp2_with fail
   refine (HBO.out W0 HB.out).mono ?_
   rintro e v1 ⟨rfl, hb⟩
   replace z0 := bC hb z0 zz
   replace z1 := bC hb z1 zz
   replace z2 := bC hb z2 zz
   replace z3 := bC hb z3 zz
   replace z4 := bC hb z4 zz
   replace z5 := bC hb z5 zz
   replace z6 := bC hb z6 zz
   replace zz := Nat.lt_of_lt_of_le zz hb.size
   replace c0 := bC hb c0 zc
   replace c1 := bC hb c1 zc
   replace c2 := bC hb c2 zc
   replace zc := Nat.lt_of_lt_of_le zc hb.size
   replace r0 := bC hb r0 zr
   replace r1 := bC hb r1 zr
   replace r2 := bC hb r2 zr
   replace r3 := bC hb r3 zr
   replace r4 := bC hb r4 zr
   replace r5 := bC hb r5 zr
   replace r6 := bC hb r6 zr
   replace fr0 := bF hb fr0 zr
   replace fr1 := bF hb fr1 zr
   replace fr2 := bF hb fr2 zr
   replace fr3 := bF hb fr3 zr
   replace fr4 := bF hb fr4 zr
   replace fr5 := bF hb fr5 zr
   replace fr6 := bF hb fr6 zr
   replace zr := Nat.lt_of_lt_of_le zr hb.size
   replace HB := hide (HB.out.trans (hb.mono HB.out.size))
   clear hb
   have hck := HCB.out v1
   go_wp2_with fail
   refine (hck).mono ?_
   rintro e v2 ⟨rfl, hb⟩
   replace z0 := bC hb z0 zz
   replace z1 := bC hb z1 zz
   replace z2 := bC hb z2 zz
   replace z3 := bC hb z3 zz
   replace z4 := bC hb z4 zz
   replace z5 := bC hb z5 zz
   replace z6 := bC hb z6 zz
   replace zz := Nat.lt_of_lt_of_le zz hb.size
   replace c0 := bC hb c0 zc
   replace c1 := bC hb c1 zc
   replace c2 := bC hb c2 zc
   replace zc := Nat.lt_of_lt_of_le zc hb.size
   replace r0 := bC hb r0 zr
   replace r1 := bC hb r1 zr
   replace r2 := bC hb r2 zr
   replace r3 := bC hb r3 zr
   replace r4 := bC hb r4 zr
   replace r5 := bC hb r5 zr
   replace r6 := bC hb r6 zr
   replace fr0 := bF hb fr0 zr
   replace fr1 := bF hb fr1 zr
   replace fr2 := bF hb fr2 zr
   replace fr3 := bF hb fr3 zr
   replace fr4 := bF hb fr4 zr
   replace fr5 := bF hb fr5 zr
   replace fr6 := bF hb fr6 zr
   replace zr := Nat.lt_of_lt_of_le zr hb.size
   replace HB := hide (HB.out.trans (hb.mono HB.out.size))
   clear hb
   clear hck
   have e0 : fl = false := by rw [HF0.out]; simp
   subst e0
   go_wp2
   refine bodyPost_ret (v := .tuple #[balv 0 (.slice none 0 0) 0 0 (.slice none 0 0) (.slice none 0 0) (.slice none 0 0), .bool false]) (by simp [results, Tryz.results16, go_sem, r0, r1, r2, r3, r4, r5, r6]) rfl ⟨_, rfl, ?_, setB_below HB.out (by omega) _ _ _ _ _ _ _⟩
   rw [HM.out, setB_size]
   exact bm0_ow _ _ _
  | true =>
   have hp9 := HPO.out rfl
   have HC2 := hide (HCR.out rfl rfl)
   have hf9 := HCF.out rfl rfl
   have ht9 := HTL.out
   clear HCR HCF HPO HTL
   obtain ⟨nf, hnf⟩ : ∃ x, noteF ⟨kj, lj, sj⟩ k i gg = x := ⟨_, rfl⟩
   have HNF9 := hide hnf
   rw [hnf] at HF0
   clear hnf
   have e0 : fl = nf := by rw [HF0.out]; simp
   subst e0
   clear HF0
   go_enter Tryz.func16, Tryz.ntmps16
   go_wp2_with fail
   refine (HBO.out W0 HB.out).mono ?_
   rintro e v1 ⟨rfl, hb⟩
   have HS1 := hide hb.size
   replace z0 := bC hb z0 zz
   replace z1 := bC hb z1 zz
   replace z2 := bC hb z2 zz
   replace z3 := bC hb z3 zz
   replace z4 := bC hb z4 zz
   replace z5 := bC hb z5 zz
   replace z6 := bC hb z6 zz
   replace zz := Nat.lt_of_lt_of_le zz hb.size
   replace c0 := bC hb c0 zc
   replace c1 := bC hb c1 zc
   replace c2 := bC hb c2 zc
   replace zc := Nat.lt_of_lt_of_le zc hb.size
   replace r0 := bC hb r0 zr
   replace r1 := bC hb r1 zr
   replace r2 := bC hb r2 zr
   replace r3 := bC hb r3 zr
   replace r4 := bC hb r4 zr
   replace r5 := bC hb r5 zr
   replace r6 := bC hb r6 zr
   replace fr0 := bF hb fr0 zr
   replace fr1 := bF hb fr1 zr
   replace fr2 := bF hb fr2 zr
   replace fr3 := bF hb fr3 zr
   replace fr4 := bF hb fr4 zr
   replace fr5 := bF hb fr5 zr
   replace fr6 := bF hb fr6 zr
   replace zr := Nat.lt_of_lt_of_le zr hb.size
   replace HB := hide (HB.out.trans (hb.mono HB.out.size))
   clear hb
   clear HBO
   have hck := HCB.out v1
   go_wp2_with fail
   refine (hck).mono ?_
   rintro e v2 ⟨rfl, hb⟩
   have HS2 := hide (Nat.le_trans HS1.out hb.size)
   replace z0 := bC hb z0 zz
   replace z1 := bC hb z1 zz
   replace z2 := bC hb z2 zz
   replace z3 := bC hb z3 zz
   replace z4 := bC hb z4 zz
   replace z5 := bC hb z5 zz
   replace z6 := bC hb z6 zz
   replace zz := Nat.lt_of_lt_of_le zz hb.size
   replace c0 := bC hb c0 zc
   replace c1 := bC hb c1 zc
   replace c2 := bC hb c2 zc
   replace zc := Nat.lt_of_lt_of_le zc hb.size
   replace r0 := bC hb r0 zr
   replace r1 := bC hb r1 zr
   replace r2 := bC hb r2 zr
   replace r3 := bC hb r3 zr
   replace r4 := bC hb r4 zr
   replace r5 := bC hb r5 zr
   replace r6 := bC hb r6 zr
   replace fr0 := bF hb fr0 zr
   replace fr1 := bF hb fr1 zr
   replace fr2 := bF hb fr2 zr
   replace fr3 := bF hb fr3 zr
   replace fr4 := bF hb fr4 zr
   replace fr5 := bF hb fr5 zr
   replace fr6 := bF hb fr6 zr
   replace zr := Nat.lt_of_lt_of_le zr hb.size
   replace HB := hide (HB.out.trans (hb.mono HB.out.size))
   clear hb
   clear hck HCB
   go_wp2_with fail
   refine (HC2.out v2 HB.out).mono ?_
   rintro e v3 ⟨vc, rfl, inc, hb⟩
   have HIC := hide inc
   have HS3 := hide (Nat.le_trans HS2.out hb.size)
   clear inc
   replace z0 := bC hb z0 zz
   replace z1 := bC hb z1 zz
   replace z2 := bC hb z2 zz
   replace z3 := bC hb z3 zz
   replace z4 := bC hb z4 zz
   replace z5 := bC hb z5 zz
   replace z6 := bC hb z6 zz
   replace zz := Nat.lt_of_lt_of_le zz hb.size
   replace c0 := bC hb c0 zc
   replace c1 := bC hb c1 zc
   replace c2 := bC hb c2 zc
   replace zc := Nat.lt_of_lt_of_le zc hb.size
   replace r0 := bC hb r0 zr
   replace r1 := bC hb r1 zr
   replace r2 := bC hb r2 zr
   replace r3 := bC hb r3 zr
   replace r4 := bC hb r4 zr
   replace r5 := bC hb r5 zr
   replace r6 := bC hb r6 zr
   replace fr0 := bF hb fr0 zr
   replace fr1 := bF hb fr1 zr
   replace fr2 := bF hb fr2 zr
   replace fr3 := bF hb fr3 zr
   replace fr4 := bF hb fr4 zr
   replace fr5 := bF hb fr5 zr
   replace fr6 := bF hb fr6 zr
   replace zr := Nat.lt_of_lt_of_le zr hb.size
   replace HB := hide (HB.out.trans (hb.mono HB.out.size))
   clear hb
   clear HC2
   dsimp only
   rw [HNF9.out]
   obtain ⟨cm, hcm⟩ : ∃ x, cmdM ⟨⟨kj, lj, sj⟩, ⟨kp, lb, lr⟩, lt⟩ k i gg = x := ⟨_, rfl⟩
   rw [hcm] at HIC hf9 ht9 HM
   clear hcm
   obtain ⟨kk, hkk⟩ : ∃ x, cm.j.key = x := ⟨_, rfl⟩
   obtain ⟨nn, hnn⟩ : ∃ x, cm.j.l.length = x := ⟨_, rfl⟩
   obtain ⟨ss, hss⟩ : ∃ x, cm.j.safe = x := ⟨_, rfl⟩
   obtain ⟨kk2, hkk2⟩ : ∃ x, cm.p.key = x := ⟨_, rfl⟩
   obtain ⟨nn2, hnn2⟩ : ∃ x, cm.p.l.length = x := ⟨_, rfl⟩
   obtain ⟨nn3, hnn3⟩ : ∃ x, cm.p.ring.length = x := ⟨_, rfl⟩
   obtain ⟨nn4, hnn4⟩ : ∃ x, cm.t.length = x := ⟨_, rfl⟩
   obtain ⟨o8, c8, ob8, cb8, oR8, cR8, ot8, ct8, e8⟩ := HIC.out.rd.opn
   rw [hkk, hnn, hss, hkk2, hnn2, hnn3, hnn4] at e8
   subst e8
   have HE7 := hide (And.intro hkk (And.intro hnn (And.intro hss (And.intro hkk2 (And.intro hnn2 (And.intro hnn3 hnn4))))))
   rw [hnn4] at ht9
   clear hkk hnn hss hkk2 hnn2 hnn3 hnn4
   obtain ⟨W5, hW5⟩ : ∃ W, (v3.alloc (.cells #[.int .i64 kk, .slice o8 nn c8, .int .i64 ss, .int .i64 kk2, .slice ob8 nn2 cb8, .slice oR8 nn3 cR8, .slice ot8 nn4 ct8] 46)) = W := ⟨_, rfl⟩
   have hb_W5 : Below v3.heap.size v3 W5 := by rw [← hW5]; exact ((Below.refl _ _).alloc (Nat.le_refl _) _)
   replace z0 := bC hb_W5 z0 zz
   replace z1 := bC hb_W5 z1 zz
   replace z2 := bC hb_W5 z2 zz
   replace z3 := bC hb_W5 z3 zz
   replace z4 := bC hb_W5 z4 zz
   replace z5 := bC hb_W5 z5 zz
   replace z6 := bC hb_W5 z6 zz
   replace zz := Nat.lt_of_lt_of_le zz hb_W5.size
   replace c0 := bC hb_W5 c0 zc
   replace c1 := bC hb_W5 c1 zc
   replace c2 := bC hb_W5 c2 zc
   replace zc := Nat.lt_of_lt_of_le zc hb_W5.size
   replace r0 := bC hb_W5 r0 zr
   replace r1 := bC hb_W5 r1 zr
   replace r2 := bC hb_W5 r2 zr
   replace r3 := bC hb_W5 r3 zr
   replace r4 := bC hb_W5 r4 zr
   replace r5 := bC hb_W5 r5 zr
   replace r6 := bC hb_W5 r6 zr
   replace fr0 := bF hb_W5 fr0 zr
   replace fr1 := bF hb_W5 fr1 zr
   replace fr2 := bF hb_W5 fr2 zr
   replace fr3 := bF hb_W5 fr3 zr
   replace fr4 := bF hb_W5 fr4 zr
   replace fr5 := bF hb_W5 fr5 zr
   replace fr6 := bF hb_W5 fr6 zr
   replace zr := Nat.lt_of_lt_of_le zr hb_W5.size
   replace HB := hide (HB.out.trans (hb_W5.mono HB.out.size))
   clear hb_W5
   have zy : v3.heap.size < W5.heap.size := by rw [← hW5]; simp
   have y0 : W5.cell? ⟨v3.heap.size, 0, none⟩ = some (.int .i64 kk) := by rw [← hW5]; simp [go_sem]
   have y1 : W5.cell? ⟨v3.heap.size, 1, none⟩ = some (.slice o8 nn c8) := by rw [← hW5]; simp [go_sem]
   have y2 : W5.cell? ⟨v3.heap.size, 2, none⟩ = some (.int .i64 ss) := by rw [← hW5]; simp [go_sem]
   have y3 : W5.cell? ⟨v3.heap.size, 3, none⟩ = some (.int .i64 kk2) := by rw [← hW5]; simp [go_sem]
   have y4 : W5.cell? ⟨v3.heap.size, 4, none⟩ = some (.slice ob8 nn2 cb8) := by rw [← hW5]; simp [go_sem]
   have y5 : W5.cell? ⟨v3.heap.size, 5, none⟩ = some (.slice oR8 nn3 cR8) := by rw [← hW5]; simp [go_sem]
   have y6 : W5.cell? ⟨v3.heap.size, 6, none⟩ = some (.slice ot8 nn4 ct8) := by rw [← hW5]; simp [go_sem]
   have HOW := hide (l7own_ow ((HIC.out.step (Stp.of (lo := 0) (hi := 0) (show Below v3.heap.size v3 W5 by rw [← hW5]; exact (Below.refl _ _).alloc (Nat.le_refl _) _)) (.inl (Nat.zero_le _))).mono (Nat.le_refl _) (Nat.le_of_lt zy)) (Nat.le_refl _) (by rw [HE7.out.2.2.2.2.2.2]; omega) hf9)
   have HS5 := hide (show W0.heap.size ≤ W5.heap.size from Nat.le_trans HS3.out (Nat.le_of_lt zy))
   clear HIC ht9 hp9 hf9
   go_wp2_with fail
   refine (HOW.out).mono ?_
   rintro e v4 ⟨vo, rfl, ino, hb⟩
   have HIO := hide ino
   clear ino
   replace z0 := bC hb z0 zz
   replace z1 := bC hb z1 zz
   replace z2 := bC hb z2 zz
   replace z3 := bC hb z3 zz
   replace z4 := bC hb z4 zz
   replace z5 := bC hb z5 zz
   replace z6 := bC hb z6 zz
   replace zz := Nat.lt_of_lt_of_le zz hb.size
   replace c0 := bC hb c0 zc
   replace c1 := bC hb c1 zc
   replace c2 := bC hb c2 zc
   replace zc := Nat.lt_of_lt_of_le zc hb.size
   replace r0 := bC hb r0 zr
   replace r1 := bC hb r1 zr
   replace r2 := bC hb r2 zr
   replace r3 := bC hb r3 zr
   replace r4 := bC hb r4 zr
   replace r5 := bC hb r5 zr
   replace r6 := bC hb r6 zr
   replace fr0 := bF hb fr0 zr
   replace fr1 := bF hb fr1 zr
   replace fr2 := bF hb fr2 zr
   replace fr3 := bF hb fr3 zr
   replace fr4 := bF hb fr4 zr
   replace fr5 := bF hb fr5 zr
   replace fr6 := bF hb fr6 zr
   replace zr := Nat.lt_of_lt_of_le zr hb.size
   replace y0 := bC hb y0 zy
   replace y1 := bC hb y1 zy
   replace y2 := bC hb y2 zy
   replace y3 := bC hb y3 zy
   replace y4 := bC hb y4 zy
   replace y5 := bC hb y5 zy
   replace y6 := bC hb y6 zy
   replace zy := Nat.lt_of_lt_of_le zy hb.size
   replace HB := hide (HB.out.trans (hb.mono HB.out.size))
   clear hb
   clear HOW
   obtain ⟨o9, c9, ob9, cb9, oR9, cR9, ot9, ct9, e9⟩ := HIO.out.rd.opn
   rw [HE7.out.1, HE7.out.2.1, HE7.out.2.2.1, HE7.out.2.2.2.1, HE7.out.2.2.2.2.1, HE7.out.2.2.2.2.2.1, HE7.out.2.2.2.2.2.2] at e9
   subst e9
   have hs9 := HS5.out
   go_wp2
   refine bodyPost_ret (v := .tuple #[balv kk (.slice o9 nn c9) ss kk2 (.slice ob9 nn2 cb9) (.slice oR9 nn3 cR9) (.slice ot9 nn4 ct9), .bool fl]) (by simp [results, Tryz.results16, go_sem, r0, r1, r2, r3, r4, r5, r6]) rfl ⟨_, rfl, ?_, setB_below HB.out (by omega) _ _ _ _ _ _ _⟩
   rw [HM.out]
   exact (HIO.out.step (stp_setB _ _ _ _ _ _ _ _ _) (.inl (by omega))).mono (by omega) (by rw [setB_size]; exact Nat.le_refl _)

end Go.Proofs.YtajfkcpifnpkeaaGreat

/- A box of a balancer that is laid at any place among calls: what its end wants. -/
namespace Go.Proofs.YtajfkcpifnpkeaaGreat
open Go.ChangeShapes Go.WideShapes Go.ChangeAt Go.RowKit Go.Joins
set_option linter.unusedVariables false
set_option linter.unusedSimpArgs false

theorem InBm.stps : Stps InBm := ⟨fun h s hd => InBm.step h s hd⟩
theorem OwBm.stps : Stps OwBm := ⟨fun h s hd => OwBm.step h s hd⟩
theorem setB_cellB {W : World} {B b j : Nat} {u : Value} (h : W.cell? ⟨b, j, none⟩ = some u) (hb : b < B) (x0 x1 x2 x3 x4 x5 x6 : Value) : (setB W B x0 x1 x2 x3 x4 x5 x6).cell? ⟨b, j, none⟩ = some u := (stp_setB W B x0 x1 x2 x3 x4 x5 x6).cellP h (.inl hb)
theorem box_newE {w new : World} {c : Array Value} {T : TypeId} (hb : Below (w.alloc (.cells c T)).heap.size (w.alloc (.cells c T)) new) : new.heap[w.heap.size]? = some (.cells c T (0, 0)) :=
 (hb.block w.heap.size (by simp)).trans (World.alloc_heap_new w (.cells c T))
theorem box_newE0 {w new : World} {c : Array Value} {T : TypeId} (hb : Below ((w.alloc (.cells c T)).drew).heap.size (w.alloc (.cells c T)).drew new) : new.heap[w.heap.size]? = some (.cells c T (0, 0)) := by
 have h1 := hb.block w.heap.size (by simp)
 have h2 : (w.alloc (.cells c T)).drew.heap[w.heap.size]? = (w.alloc (.cells c T)).heap[w.heap.size]? := rfl
 exact h1.trans (h2.trans (World.alloc_heap_new w (.cells c T)))
theorem setB_box {W : World} {R : Nat} {z0 z1 z2 z3 z4 z5 z6 : Value} {T : TypeId} (h : W.heap[R]? = some (.cells #[z0, z1, z2, z3, z4, z5, z6] T (0, 0))) (x0 x1 x2 x3 x4 x5 x6 : Value) : (setB W R x0 x1 x2 x3 x4 x5 x6).heap[R]? = some (.cells #[x0, x1, x2, x3, x4, x5, x6] T (0, 0)) := by
 have h0 : (W.setCell ⟨R, 0, none⟩ x0).heap[R]? = some (.cells #[x0, z1, z2, z3, z4, z5, z6] T (0, 0)) := box_put h 0 x0
 have h1 : ((W.setCell ⟨R, 0, none⟩ x0).setCell ⟨R, 1, none⟩ x1).heap[R]? = some (.cells #[x0, x1, z2, z3, z4, z5, z6] T (0, 0)) := box_put h0 1 x1
 have h2 : (((W.setCell ⟨R, 0, none⟩ x0).setCell ⟨R, 1, none⟩ x1).setCell ⟨R, 2, none⟩ x2).heap[R]? = some (.cells #[x0, x1, x2, z3, z4, z5, z6] T (0, 0)) := box_put h1 2 x2
 have h3 : ((((W.setCell ⟨R, 0, none⟩ x0).setCell ⟨R, 1, none⟩ x1).setCell ⟨R, 2, none⟩ x2).setCell ⟨R, 3, none⟩ x3).heap[R]? = some (.cells #[x0, x1, x2, x3, z4, z5, z6] T (0, 0)) := box_put h2 3 x3
 have h4 : (((((W.setCell ⟨R, 0, none⟩ x0).setCell ⟨R, 1, none⟩ x1).setCell ⟨R, 2, none⟩ x2).setCell ⟨R, 3, none⟩ x3).setCell ⟨R, 4, none⟩ x4).heap[R]? = some (.cells #[x0, x1, x2, x3, x4, z5, z6] T (0, 0)) := box_put h3 4 x4
 have h5 : ((((((W.setCell ⟨R, 0, none⟩ x0).setCell ⟨R, 1, none⟩ x1).setCell ⟨R, 2, none⟩ x2).setCell ⟨R, 3, none⟩ x3).setCell ⟨R, 4, none⟩ x4).setCell ⟨R, 5, none⟩ x5).heap[R]? = some (.cells #[x0, x1, x2, x3, x4, x5, z6] T (0, 0)) := box_put h4 5 x5
 have h6 : (((((((W.setCell ⟨R, 0, none⟩ x0).setCell ⟨R, 1, none⟩ x1).setCell ⟨R, 2, none⟩ x2).setCell ⟨R, 3, none⟩ x3).setCell ⟨R, 4, none⟩ x4).setCell ⟨R, 5, none⟩ x5).setCell ⟨R, 6, none⟩ x6).heap[R]? = some (.cells #[x0, x1, x2, x3, x4, x5, x6] T (0, 0)) := box_put h5 6 x6
 exact h6
theorem cells7 {W : World} {B : Nat} {z0 z1 z2 z3 z4 z5 z6 : Value} {T : TypeId} (h : W.heap[B]? = some (.cells #[z0, z1, z2, z3, z4, z5, z6] T (0, 0))) : W.cell? ⟨B, 0, none⟩ = some z0 ∧ W.cell? ⟨B, 1, none⟩ = some z1 ∧ W.cell? ⟨B, 2, none⟩ = some z2 ∧ W.cell? ⟨B, 3, none⟩ = some z3 ∧ W.cell? ⟨B, 4, none⟩ = some z4 ∧ W.cell? ⟨B, 5, none⟩ = some z5 ∧ W.cell? ⟨B, 6, none⟩ = some z6 ∧ W.frozen? ⟨B, 0, none⟩ = false ∧ W.frozen? ⟨B, 1, none⟩ = false ∧ W.frozen? ⟨B, 2, none⟩ = false ∧ W.frozen? ⟨B, 3, none⟩ = false ∧ W.frozen? ⟨B, 4, none⟩ = false ∧ W.frozen? ⟨B, 5, none⟩ = false ∧ W.frozen? ⟨B, 6, none⟩ = false :=
 ⟨bx_cell h 0 _ rfl, bx_cell h 1 _ rfl, bx_cell h 2 _ rfl, bx_cell h 3 _ rfl, bx_cell h 4 _ rfl, bx_cell h 5 _ rfl, bx_cell h 6 _ rfl, bx_frozen h 0, bx_frozen h 1, bx_frozen h 2, bx_frozen h 3, bx_frozen h 4, bx_frozen h 5, bx_frozen h 6⟩
theorem cellsM3 {W : World} {B : Nat} {z0 z1 z2 : Value} {T : TypeId} (h : W.heap[B]? = some (.cells #[z0, z1, z2] T (0, 0))) : W.cell? ⟨B, 0, none⟩ = some z0 ∧ W.cell? ⟨B, 1, none⟩ = some z1 ∧ W.cell? ⟨B, 2, none⟩ = some z2 := ⟨bx_cell h 0 _ rfl, bx_cell h 1 _ rfl, bx_cell h 2 _ rfl⟩
theorem cellsM7 {W : World} {B : Nat} {z0 z1 z2 z3 z4 z5 z6 : Value} {T : TypeId} (h : W.heap[B]? = some (.cells #[z0, z1, z2, z3, z4, z5, z6] T (0, 0))) : W.cell? ⟨B, 0, none⟩ = some z0 ∧ W.cell? ⟨B, 1, none⟩ = some z1 ∧ W.cell? ⟨B, 2, none⟩ = some z2 ∧ W.cell? ⟨B, 3, none⟩ = some z3 ∧ W.cell? ⟨B, 4, none⟩ = some z4 ∧ W.cell? ⟨B, 5, none⟩ = some z5 ∧ W.cell? ⟨B, 6, none⟩ = some z6 := ⟨bx_cell h 0 _ rfl, bx_cell h 1 _ rfl, bx_cell h 2 _ rfl, bx_cell h 3 _ rfl, bx_cell h 4 _ rfl, bx_cell h 5 _ rfl, bx_cell h 6 _ rfl⟩
theorem finBal {P : Nat → Nat → World → Value → Bm → Prop} (hP : Stps P) {cur W : World} {B lo hi : Nat} {f : Value} {mr : Bm} {o ob oR ot : Option Addr} {c cb cR ct : Nat} {z0 z1 z2 z3 z4 z5 z6 : Value} (hZ : W.heap[B]? = some (.cells #[z0, z1, z2, z3, z4, z5, z6] 46 (0, 0))) (hx : Below cur.heap.size cur W) (hB : cur.heap.size ≤ B) (hi' : P lo hi W (balv mr.j.key (.slice o mr.j.l.length c) mr.j.safe mr.p.key (.slice ob mr.p.l.length cb) (.slice oR mr.p.ring.length cR) (.slice ot mr.t.length ct)) mr) (h1 : cur.heap.size ≤ lo) (h2 : hi ≤ W.heap.size) (h3 : B < lo ∨ hi ≤ B) :
  ∃ B' lo hi o' c' ob' cb' oR' cR' ot' ct', Value.pointer (some ⟨B, 0, none⟩) = .pointer (some ⟨B', 0, none⟩) ∧ f = f ∧ Hid ((setB W B (.int .i64 mr.j.key) (.slice o mr.j.l.length c) (.int .i64 mr.j.safe) (.int .i64 mr.p.key) (.slice ob mr.p.l.length cb) (.slice oR mr.p.ring.length cR) (.slice ot mr.t.length ct)).heap[B']? = some (.cells #[.int .i64 mr.j.key, .slice o' mr.j.l.length c', .int .i64 mr.j.safe, .int .i64 mr.p.key, .slice ob' mr.p.l.length cb', .slice oR' mr.p.ring.length cR', .slice ot' mr.t.length ct'] 46 (0, 0))) ∧ Hid (Below cur.heap.size cur (setB W B (.int .i64 mr.j.key) (.slice o mr.j.l.length c) (.int .i64 mr.j.safe) (.int .i64 mr.p.key) (.slice ob mr.p.l.length cb) (.slice oR mr.p.ring.length cR) (.slice ot mr.t.length ct))) ∧ cur.heap.size ≤ B' ∧ B' < (setB W B (.int .i64 mr.j.key) (.slice o mr.j.l.length c) (.int .i64 mr.j.safe) (.int .i64 mr.p.key) (.slice ob mr.p.l.length cb) (.slice oR mr.p.ring.length cR) (.slice ot mr.t.length ct)).heap.size ∧ Hid (P lo hi (setB W B (.int .i64 mr.j.key) (.slice o mr.j.l.length c) (.int .i64 mr.j.safe) (.int .i64 mr.p.key) (.slice ob mr.p.l.length cb) (.slice oR mr.p.ring.length cR) (.slice ot mr.t.length ct)) (balv mr.j.key (.slice o' mr.j.l.length c') mr.j.safe mr.p.key (.slice ob' mr.p.l.length cb') (.slice oR' mr.p.ring.length cR') (.slice ot' mr.t.length ct')) mr) ∧ cur.heap.size ≤ lo ∧ hi ≤ (setB W B (.int .i64 mr.j.key) (.slice o mr.j.l.length c) (.int .i64 mr.j.safe) (.int .i64 mr.p.key) (.slice ob mr.p.l.length cb) (.slice oR mr.p.ring.length cR) (.slice ot mr.t.length ct)).heap.size ∧ (B' < lo ∨ hi ≤ B') := by
 have b8 := setB_box hZ (.int .i64 mr.j.key) (.slice o mr.j.l.length c) (.int .i64 mr.j.safe) (.int .i64 mr.p.key) (.slice ob mr.p.l.length cb) (.slice oR mr.p.ring.length cR) (.slice ot mr.t.length ct)
 exact ⟨B, lo, hi, o, c, ob, cb, oR, cR, ot, ct, rfl, rfl, b8, setB_below hx hB _ _ _ _ _ _ _, hB, (Array.getElem?_eq_some_iff.1 b8).1, hP.go hi' (stp_setB W B _ _ _ _ _ _ _) (by omega), h1, by rw [setB_size]; exact h2, h3⟩
theorem finBaln {P : Nat → Nat → World → Value → Bm → Prop} (hP : Stps P) {cur W : World} {lo hi : Nat} {f : Value} {mr : Bm} {o ob oR ot : Option Addr} {c cb cR ct : Nat} (hx : Below cur.heap.size cur W) (hi' : P lo hi W (balv mr.j.key (.slice o mr.j.l.length c) mr.j.safe mr.p.key (.slice ob mr.p.l.length cb) (.slice oR mr.p.ring.length cR) (.slice ot mr.t.length ct)) mr) (h1 : cur.heap.size ≤ lo) (h2 : hi ≤ W.heap.size) :
  ∃ B' lo hi o' c' ob' cb' oR' cR' ot' ct', Value.pointer (some ⟨W.heap.size, 0, none⟩) = .pointer (some ⟨B', 0, none⟩) ∧ f = f ∧ Hid ((W.alloc (.cells #[.int .i64 mr.j.key, .slice o mr.j.l.length c, .int .i64 mr.j.safe, .int .i64 mr.p.key, .slice ob mr.p.l.length cb, .slice oR mr.p.ring.length cR, .slice ot mr.t.length ct] 46)).heap[B']? = some (.cells #[.int .i64 mr.j.key, .slice o' mr.j.l.length c', .int .i64 mr.j.safe, .int .i64 mr.p.key, .slice ob' mr.p.l.length cb', .slice oR' mr.p.ring.length cR', .slice ot' mr.t.length ct'] 46 (0, 0))) ∧ Hid (Below cur.heap.size cur (W.alloc (.cells #[.int .i64 mr.j.key, .slice o mr.j.l.length c, .int .i64 mr.j.safe, .int .i64 mr.p.key, .slice ob mr.p.l.length cb, .slice oR mr.p.ring.length cR, .slice ot mr.t.length ct] 46))) ∧ cur.heap.size ≤ B' ∧ B' < (W.alloc (.cells #[.int .i64 mr.j.key, .slice o mr.j.l.length c, .int .i64 mr.j.safe, .int .i64 mr.p.key, .slice ob mr.p.l.length cb, .slice oR mr.p.ring.length cR, .slice ot mr.t.length ct] 46)).heap.size ∧ Hid (P lo hi (W.alloc (.cells #[.int .i64 mr.j.key, .slice o mr.j.l.length c, .int .i64 mr.j.safe, .int .i64 mr.p.key, .slice ob mr.p.l.length cb, .slice oR mr.p.ring.length cR, .slice ot mr.t.length ct] 46)) (balv mr.j.key (.slice o' mr.j.l.length c') mr.j.safe mr.p.key (.slice ob' mr.p.l.length cb') (.slice oR' mr.p.ring.length cR') (.slice ot' mr.t.length ct')) mr) ∧ cur.heap.size ≤ lo ∧ hi ≤ (W.alloc (.cells #[.int .i64 mr.j.key, .slice o mr.j.l.length c, .int .i64 mr.j.safe, .int .i64 mr.p.key, .slice ob mr.p.l.length cb, .slice oR mr.p.ring.length cR, .slice ot mr.t.length ct] 46)).heap.size ∧ (B' < lo ∨ hi ≤ B') :=
 ⟨W.heap.size, lo, hi, o, c, ob, cb, oR, cR, ot, ct, rfl, rfl, World.alloc_heap_new W _, hx.alloc hx.size _, hx.size, by simp, hP.go hi' (Stp.of (lo := 0) (hi := 0) ((Below.refl _ _).alloc (Nat.le_refl _) _)) (.inl (Nat.zero_le _)), h1, by simp; omega, .inr h2⟩

end Go.Proofs.YtajfkcpifnpkeaaGreat

/- A balancer that came in. -/
namespace Go.Proofs.YtajfkcpifnpkeaaGreat
open Go.ChangeShapes Go.WideShapes Go.ChangeAt Go.RowKit Go.Joins
set_option linter.unusedVariables false
set_option linter.unusedSimpArgs false


theorem cellsLawsBal : Tryz.prog.cellsOf 33 = 7 := by kernel_rfl
theorem cellsIntB : Tryz.prog.cellsOf 3 = 1 := by kernel_rfl
theorem cellsLawsBackSB : Tryz.prog.cellsOf 25 = 1 := by kernel_rfl
theorem cellsIntSSSB : Tryz.prog.cellsOf 26 = 1 := by kernel_rfl
theorem array7 {α : Type} {cs : Array α} (h : cs.size = 7) : ∃ c0 c1 c2 c3 c4 c5 c6, cs = #[c0, c1, c2, c3, c4, c5, c6] := by
 match cs, h with
 | ⟨[c0, c1, c2, c3, c4, c5, c6]⟩, _ => exact ⟨c0, c1, c2, c3, c4, c5, c6, rfl⟩
set_option maxRecDepth 100000 in
set_option maxHeartbeats 1000000 in
theorem open_bal {H : Type} {enc : TypeId × Value → H} {W : World} {base : Nat} {v : Value} {d : DataW H} {p : List MemPlace}
  (hv : Value.okWide Tryz.prog W .any base 33 v) (h : DataW.Trod enc Tryz.prog W 0 (fun _ => true) true 33 v d p) :
  ∃ m : Bm, RdBm W.heap.size W v m ∧ lenBm m := by
 obtain ⟨cs, rfl, hsz⟩ := okWide_struct Tryz.underlying33 hv
 obtain ⟨c0, c1, c2, c3, c4, c5, c6, rfl⟩ := array7 (hsz.trans cellsLawsBal)
 obtain ⟨fuel, hf⟩ := h
 obtain ⟨y0, y1, y2, n, _, _, h0, h1, h2⟩ := Go.Deep.trod_struct3 (cs := [c0, c1, c2, c3, c4, c5, c6]) Tryz.underlying33 (by simpa [Value.cells] using hf)
 simp [cellsLawsJ, cellsLawsPool, cellsLawsT] at h0 h1 h2
 obtain ⟨z0, z1, z2, n0, _, _, q0, q1, q2⟩ := Go.Deep.trod_struct3 Tryz.underlying24 h0
 simp [cellsIntB, cellsLawsCmdS] at q0 q1 q2
 obtain ⟨t0, t1, t2, n1, _, _, r0, r1, r2⟩ := Go.Deep.trod_struct3 Tryz.underlying28 h1
 simp [cellsIntB, cellsLawsBackSB, cellsIntSSSB] at r0 r1 r2
 obtain ⟨a, e0, _, _⟩ := DataW.trod_int Tryz.underlying3 q0
 obtain ⟨o, cap, l, e1, l1, rd1⟩ := open_cmds_cells q1
 obtain ⟨b, e2, _, _⟩ := DataW.trod_int Tryz.underlying3 q2
 obtain ⟨k, e3, _, _⟩ := DataW.trod_int Tryz.underlying3 r0
 obtain ⟨o2, cap2, l2, e4, ll2, rd2⟩ := open_backs_cells r1
 obtain ⟨oR, cR, ll, e5, l3, rr, l4, l5⟩ := open_rows3_cells r2
 obtain ⟨o6, cap6, l6, e6, ll6, rd6⟩ := open_table_cells rfl h2
 simp at e0 e1 e2 e3 e4 e5 e6
 subst e0 e1 e2 e3 e4 e5 e6
 exact ⟨⟨⟨a, l, b⟩, ⟨k, l2, ll⟩, l6⟩, ⟨_, _, _, _, rfl, ⟨_, rfl, _, _, rfl, rd1⟩, ⟨_, _, rfl, RiV.of rd2, rr⟩, ⟨_, rfl, _, _, rfl, rd6⟩⟩, ⟨l1, ⟨ll2, l3, l4, l5⟩, ll6⟩⟩

end Go.Proofs.YtajfkcpifnpkeaaGreat

