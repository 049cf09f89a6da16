/- Several texts in one: SBNew, SBOwn, SBNewS. -/
import Derived.Test.YtfmnhdemhbbjlaaGrShBal
import Derived.Test.YtfmnhdemhbbjlaaGrTableMath
import Derived.Test.YtfmnhdemhbbjlaaGrSPut
import Derived.Test.YtfmnhdemhbbjlaaGrSJCut
import Derived.Laws.MakeOwn
import Derived.Deep.RegionHeld3
import Derived.Deep.RegionLaw
/- BalNew, on both sides; the model's copy of a balancer. -/
namespace Go.Proofs.Ytfmnhdemhbbjlaa
open Go.ChangeShapes Go.WideShapes Go.ChangeAt Go.RowKit Go.Joins
set_option linter.unusedVariables false
set_option linter.unusedSimpArgs false


/-- The seven cells of a balancer's box are set. -/
abbrev setB (W : World) (R : Nat) (x0 x1 x2 x3 x4 x5 x6 : Value) : World := ((((((W.setCell ⟨R, 0, none⟩ x0).setCell ⟨R, 1, none⟩ x1).setCell ⟨R, 2, none⟩ x2).setCell ⟨R, 3, none⟩ x3).setCell ⟨R, 4, none⟩ x4).setCell ⟨R, 5, none⟩ x5).setCell ⟨R, 6, none⟩ x6
theorem stp_setB (W : World) (R : Nat) (x0 x1 x2 x3 x4 x5 x6 : Value) : Stp R (R + 1) W (setB W R x0 x1 x2 x3 x4 x5 x6) := ((((((stp_set W R 0 x0).trans (stp_set _ R 1 x1)).trans (stp_set _ R 2 x2)).trans (stp_set _ R 3 x3)).trans (stp_set _ R 4 x4)).trans (stp_set _ R 5 x5)).trans (stp_set _ R 6 x6)
theorem setB_size (W : World) (R : Nat) (x0 x1 x2 x3 x4 x5 x6 : Value) : (setB W R x0 x1 x2 x3 x4 x5 x6).heap.size = W.heap.size := by simp [World.setCell]
theorem setB_below {C : Nat} {w W : World} {R : Nat} (h : Below C w W) (hB : C ≤ R) (x0 x1 x2 x3 x4 x5 x6 : Value) : Below C w (setB W R x0 x1 x2 x3 x4 x5 x6) := ((((((h.setCell (p := ⟨R, 0, none⟩) hB _).setCell (p := ⟨R, 1, none⟩) hB _).setCell (p := ⟨R, 2, none⟩) hB _).setCell (p := ⟨R, 3, none⟩) hB _).setCell (p := ⟨R, 4, none⟩) hB _).setCell (p := ⟨R, 5, none⟩) hB _).setCell (p := ⟨R, 6, none⟩) hB _
def bm0 : Bm := ⟨jm0, pm0, []⟩
def bnewB (key size : Int) : Bool := keyB key && newB size
def bnewM (key size : Int) : Bm := if bnewB key size = true then ⟨⟨key, [], 0⟩, pnewM key, newM size⟩ else bm0
theorem bm0_rd (C : Nat) (w : World) : RdBm C w (balv 0 (.slice none 0 0) 0 0 (.slice none 0 0) (.slice none 0 0) (.slice none 0 0)) bm0 := ⟨_, _, _, _, rfl, ⟨_, rfl, none, 0, rfl, .inl rfl⟩, pm0_ri 0 C w, ⟨_, rfl, none, 0, rfl, .inl rfl⟩⟩
theorem bm0_in (lo hi : Nat) (w : World) (h : lo ≤ hi) : InBm lo hi w (balv 0 (.slice none 0 0) 0 0 (.slice none 0 0) (.slice none 0 0) (.slice none 0 0)) bm0 := ⟨_, _, _, _, lo, lo, rfl, Nat.le_refl _, Nat.le_refl _, h, ⟨_, rfl, World.ownsRow_nil _ _ _ _, fun b e => by cases e⟩, pm0_in lo lo w (Nat.le_refl _), ⟨_, rfl, World.ownsRow_nil _ _ _ _, fun b e => by cases e⟩⟩
theorem bnew_fit (key size : Int) : fitBm (bnewM key size) := by
  unfold bnewM
  split
  · exact ⟨by simp, pnew_fit key, by have := newM_len size; dsimp only; omega⟩
  · exact ⟨by simp [bm0, jm0], by have h := pnew_fit (-1); have e : pnewM (-1) = pm0 := (by rfl); rw [e] at h; exact h, by simp [bm0]⟩
theorem inPm_wide {a b a' b' : Nat} {w : World} {v : Value} {m : Pm} (h : InPm a b w v m) (h1 : a' ≤ a) (h2 : b ≤ b') : InPm a' b' w v m := by
  obtain ⟨vb, vr, mid, e, k1, k2, i1, i2⟩ := h
  exact ⟨vb, vr, mid, e, by omega, by omega, InRow.mono i1 h1 (Nat.le_refl _), InRows.mono.go i2 (Nat.le_refl _) h2⟩
theorem inTb_wide {a b b' : Nat} {w : World} {v : Value} {m : List Sl} (h2 : b ≤ b') (h : InTb a b w v m) : InTb a b' w v m := by
  obtain ⟨vl, e, i1⟩ := h
  exact ⟨vl, e, InRow.mono i1 (Nat.le_refl _) h2⟩
/-- So many free slots, made in one go. -/
theorem madeN (m : Nat) (hm : m ≤ 16) : ∃ cs : Array Value, (∀ W : World, (Instr.makeSlice 29 (.int .i64 (m : Int)) (.int .i64 (m : Int))).run Try.prog W = .ok (.slice (some ⟨W.heap.size, 0, none⟩) m m) (W.alloc (.cells cs 130))) ∧ ∀ W : World, ownS (W.alloc (.cells cs 130)) W.heap.size (.slice (some ⟨W.heap.size, 0, none⟩) m m) (List.replicate m sl0) := by
  obtain ⟨i0, hi, hz0, hz1, hz2⟩ := info_parts infoSlot
  have h1 : ∀ W : World, (Instr.makeSlice 29 (.int .i64 (m : Int)) (.int .i64 (m : Int))).run Try.prog W = .ok (.slice (some ⟨W.heap.size, 0, none⟩) m m) (W.alloc (.cells (madeCells (slot sl0).cells (m * i0.size)) 130)) := fun W => by
    have h := run_make (P := Try.prog) W 29 130 i0 (slot sl0) Try.underlying29 hi hz0 .i64 .i64 (m : Int) (m : Int) (by omega) (by omega) (by rw [hz2]; omega) (by omega)
    simpa using h
  refine ⟨_, h1, fun W => ?_⟩
  obtain ⟨w', hrun, r1, r2⟩ := run_make_full (P := Try.prog) W W.heap.size 29 130 i0 (slot sl0) 5 Try.underlying29 hi hz0 hz1 .i64 .i64 m (by rw [hz2]; omega) (by unfold maxLen; omega) (Nat.le_refl _)
  have h2 := (h1 W).symm.trans hrun
  injection h2 with _ h2
  rw [h2]
  unfold ownS ownL
  rw [List.length_replicate]
  show w'.ownsRow _ _ _ _ m ((List.replicate m layS.d).flatMap layS.cs)
  rw [← made_flat layS (slot sl0) rfl]
  exact r1

set_option maxRecDepth 100000 in
set_option maxHeartbeats 4000000 in
theorem implBalNew_any (key size : Int) (w : World) :
    Calls Try.prog 6 #[.int .i64 key, .int .i64 size] w fun e w' => ∃ v, e = .returned (.tuple #[v, .bool (bnewB key size)]) ∧ InBm w.heap.size w'.heap.size w' v (bnewM key size) ∧ Below w.heap.size w w' := by
  have HBM := hide (show bnewM key size = if bnewB key size = true then ⟨⟨key, [], 0⟩, pnewM key, newM size⟩ else bm0 from rfl)
  have HBB := hide (show bnewB key size = (keyB key && newB size) from rfl)
  have HKY := hide (show keyB key = true → (pnewM key).key = key from fun h => by unfold pnewM; rw [if_pos h])
  obtain ⟨W0, hW0⟩ : ∃ W, (w.alloc (.cells #[.int .i64 0, .slice none 0 0, .int .i64 0, .int .i64 0, .slice none 0 0, .slice none 0 0, .slice none 0 0] 33)) = W := ⟨_, rfl⟩
  have hb_W0 : Below w.heap.size w W0 := by rw [← hW0]; exact ((Below.refl _ _).alloc (Nat.le_refl _) _)
  have HB := hide hb_W0
  clear hb_W0
  have zr : w.heap.size < W0.heap.size := by rw [← hW0]; simp
  have r0 : W0.cell? ⟨w.heap.size, 0, none⟩ = some (.int .i64 0) := by rw [← hW0]; simp [go_sem]
  have r1 : W0.cell? ⟨w.heap.size, 1, none⟩ = some (.slice none 0 0) := by rw [← hW0]; simp [go_sem]
  have r2 : W0.cell? ⟨w.heap.size, 2, none⟩ = some (.int .i64 0) := by rw [← hW0]; simp [go_sem]
  have r3 : W0.cell? ⟨w.heap.size, 3, none⟩ = some (.int .i64 0) := by rw [← hW0]; simp [go_sem]
  have r4 : W0.cell? ⟨w.heap.size, 4, none⟩ = some (.slice none 0 0) := by rw [← hW0]; simp [go_sem]
  have r5 : W0.cell? ⟨w.heap.size, 5, none⟩ = some (.slice none 0 0) := by rw [← hW0]; simp [go_sem]
  have r6 : W0.cell? ⟨w.heap.size, 6, none⟩ = some (.slice none 0 0) := by rw [← hW0]; simp [go_sem]
  have fr0 : W0.frozen? ⟨w.heap.size, 0, none⟩ = false := by rw [← hW0]; simp [go_sem]
  have fr1 : W0.frozen? ⟨w.heap.size, 1, none⟩ = false := by rw [← hW0]; simp [go_sem]
  have fr2 : W0.frozen? ⟨w.heap.size, 2, none⟩ = false := by rw [← hW0]; simp [go_sem]
  have fr3 : W0.frozen? ⟨w.heap.size, 3, none⟩ = false := by rw [← hW0]; simp [go_sem]
  have fr4 : W0.frozen? ⟨w.heap.size, 4, none⟩ = false := by rw [← hW0]; simp [go_sem]
  have fr5 : W0.frozen? ⟨w.heap.size, 5, none⟩ = false := by rw [← hW0]; simp [go_sem]
  have fr6 : W0.frozen? ⟨w.heap.size, 6, none⟩ = false := by rw [← hW0]; simp [go_sem]
  have hzr := zr
  go_enter Try.func6, Try.ntmps6
  go_wp2_with fail
  refine (implPoolNew_any key W0).mono ?_
  rintro e v1 ⟨vp, rfl, inp, hb⟩
  have HIP := hide inp
  clear inp
  replace r0 := bC hb r0 zr
  replace r1 := bC hb r1 zr
  replace r2 := bC hb r2 zr
  replace r3 := bC hb r3 zr
  replace r4 := bC hb r4 zr
  replace r5 := bC hb r5 zr
  replace r6 := bC hb r6 zr
  replace fr0 := bF hb fr0 zr
  replace fr1 := bF hb fr1 zr
  replace fr2 := bF hb fr2 zr
  replace fr3 := bF hb fr3 zr
  replace fr4 := bF hb fr4 zr
  replace fr5 := bF hb fr5 zr
  replace fr6 := bF hb fr6 zr
  replace zr := Nat.lt_of_lt_of_le zr hb.size
  replace HB := hide (HB.out.trans (hb.mono HB.out.size))
  clear hb
  obtain ⟨pm, hpm⟩ : ∃ p, pnewM key = p := ⟨_, rfl⟩
  rw [hpm] at HIP HBM HKY
  clear hpm
  obtain ⟨po, pc, qo, qc, hve⟩ := HIP.out.opn
  obtain ⟨pk, hpk⟩ : ∃ x, pm.key = x := ⟨_, rfl⟩
  obtain ⟨pn, hpn⟩ : ∃ x, pm.l.length = x := ⟨_, rfl⟩
  obtain ⟨qn, hqn⟩ : ∃ x, pm.ring.length = x := ⟨_, rfl⟩
  rw [hpk, hpn, hqn] at hve
  subst hve
  have HPK := hide hpk
  clear hpk hpn hqn
  have hs1 : W0.heap.size ≤ v1.heap.size := by have := HIP.out; obtain ⟨_, _, mid, _, k1, k2, _⟩ := this; omega
  obtain ⟨W2, hW2⟩ : ∃ W, (v1.alloc (.cells #[.int .i64 pk, .slice po pn pc, .slice qo qn qc] 28)) = W := ⟨_, rfl⟩
  have hb_W2 : Below v1.heap.size v1 W2 := by rw [← hW2]; exact ((Below.refl _ _).alloc (Nat.le_refl _) _)
  replace r0 := bC hb_W2 r0 zr
  replace r1 := bC hb_W2 r1 zr
  replace r2 := bC hb_W2 r2 zr
  replace r3 := bC hb_W2 r3 zr
  replace r4 := bC hb_W2 r4 zr
  replace r5 := bC hb_W2 r5 zr
  replace r6 := bC hb_W2 r6 zr
  replace fr0 := bF hb_W2 fr0 zr
  replace fr1 := bF hb_W2 fr1 zr
  replace fr2 := bF hb_W2 fr2 zr
  replace fr3 := bF hb_W2 fr3 zr
  replace fr4 := bF hb_W2 fr4 zr
  replace fr5 := bF hb_W2 fr5 zr
  replace fr6 := bF hb_W2 fr6 zr
  replace zr := Nat.lt_of_lt_of_le zr hb_W2.size
  replace HB := hide (HB.out.trans (hb_W2.mono HB.out.size))
  clear hb_W2
  have zp : v1.heap.size < W2.heap.size := by rw [← hW2]; simp
  have p0 : W2.cell? ⟨v1.heap.size, 0, none⟩ = some (.int .i64 pk) := by rw [← hW2]; simp [go_sem]
  have p1 : W2.cell? ⟨v1.heap.size, 1, none⟩ = some (.slice po pn pc) := by rw [← hW2]; simp [go_sem]
  have p2 : W2.cell? ⟨v1.heap.size, 2, none⟩ = some (.slice qo qn qc) := by rw [← hW2]; simp [go_sem]
  replace HIP := hide (HIP.out.step (Stp.of (lo := 0) (hi := 0) (show Below v1.heap.size v1 W2 by rw [← hW2]; exact (Below.refl _ _).alloc (Nat.le_refl _) _)) (.inl (Nat.zero_le _)))
  have hs2 : v1.heap.size ≤ W2.heap.size := by rw [← hW2]; simp
  go_wp2_with fail
  refine (implTableNew_any size W2).mono ?_
  rintro e v2 ⟨vt, rfl, int, hb⟩
  have HIT := hide int
  clear int
  replace HIP := hide (HIP.out.step (Stp.of (lo := 0) (hi := 0) hb) (.inl (Nat.zero_le _)))
  have hs3 : W2.heap.size ≤ v2.heap.size := hb.size
  replace r0 := bC hb r0 zr
  replace r1 := bC hb r1 zr
  replace r2 := bC hb r2 zr
  replace r3 := bC hb r3 zr
  replace r4 := bC hb r4 zr
  replace r5 := bC hb r5 zr
  replace r6 := bC hb r6 zr
  replace fr0 := bF hb fr0 zr
  replace fr1 := bF hb fr1 zr
  replace fr2 := bF hb fr2 zr
  replace fr3 := bF hb fr3 zr
  replace fr4 := bF hb fr4 zr
  replace fr5 := bF hb fr5 zr
  replace fr6 := bF hb fr6 zr
  replace zr := Nat.lt_of_lt_of_le zr hb.size
  replace p0 := bC hb p0 zp
  replace p1 := bC hb p1 zp
  replace p2 := bC hb p2 zp
  replace zp := Nat.lt_of_lt_of_le zp hb.size
  replace HB := hide (HB.out.trans (hb.mono HB.out.size))
  clear hb
  obtain ⟨tm, htm⟩ : ∃ p, newM size = p := ⟨_, rfl⟩
  rw [htm] at HIT HBM
  clear htm
  obtain ⟨vt', hvt, ot, ct, hvt', _⟩ := HIT.out.rd
  subst hvt' hvt
  obtain ⟨nt, hnt⟩ : ∃ x, tm.length = x := ⟨_, rfl⟩
  rw [hnt] at HIT ⊢
  clear hnt
  obtain ⟨kb, hkb⟩ : ∃ b, keyB key = b := ⟨_, rfl⟩
  obtain ⟨tb, htb⟩ : ∃ b, newB size = b := ⟨_, rfl⟩
  rw [hkb, htb] at HBB
  rw [hkb] at HKY ⊢
  rw [htb]
  rw [HBB.out] at HBM
  clear hkb htb
  obtain ⟨W4, hW4⟩ : ∃ W, (v2.alloc (.cells #[.slice ot nt ct] 31)) = W := ⟨_, rfl⟩
  have hb_W4 : Below v2.heap.size v2 W4 := by rw [← hW4]; exact ((Below.refl _ _).alloc (Nat.le_refl _) _)
  replace r0 := bC hb_W4 r0 zr
  replace r1 := bC hb_W4 r1 zr
  replace r2 := bC hb_W4 r2 zr
  replace r3 := bC hb_W4 r3 zr
  replace r4 := bC hb_W4 r4 zr
  replace r5 := bC hb_W4 r5 zr
  replace r6 := bC hb_W4 r6 zr
  replace fr0 := bF hb_W4 fr0 zr
  replace fr1 := bF hb_W4 fr1 zr
  replace fr2 := bF hb_W4 fr2 zr
  replace fr3 := bF hb_W4 fr3 zr
  replace fr4 := bF hb_W4 fr4 zr
  replace fr5 := bF hb_W4 fr5 zr
  replace fr6 := bF hb_W4 fr6 zr
  replace zr := Nat.lt_of_lt_of_le zr hb_W4.size
  replace p0 := bC hb_W4 p0 zp
  replace p1 := bC hb_W4 p1 zp
  replace p2 := bC hb_W4 p2 zp
  replace zp := Nat.lt_of_lt_of_le zp hb_W4.size
  replace HB := hide (HB.out.trans (hb_W4.mono HB.out.size))
  clear hb_W4
  have zt : v2.heap.size < W4.heap.size := by rw [← hW4]; simp
  have t0 : W4.cell? ⟨v2.heap.size, 0, none⟩ = some (.slice ot nt ct) := by rw [← hW4]; simp [go_sem]
  replace HIP := hide (HIP.out.step (Stp.of (lo := 0) (hi := 0) (show Below v2.heap.size v2 W4 by rw [← hW4]; exact (Below.refl _ _).alloc (Nat.le_refl _) _)) (.inl (Nat.zero_le _)))
  replace HIT := hide (HIT.out.step (Stp.of (lo := 0) (hi := 0) (show Below v2.heap.size v2 W4 by rw [← hW4]; exact (Below.refl _ _).alloc (Nat.le_refl _) _)) (.inl (Nat.zero_le _)))
  have hs4 : v2.heap.size ≤ W4.heap.size := by rw [← hW4]; simp
  cases kb with
  | false =>
    go_wp2
    refine bodyPost_ret (v := .tuple #[balv 0 (.slice none 0 0) 0 0 (.slice none 0 0) (.slice none 0 0) (.slice none 0 0), .bool false]) (by simp [results, Try.results6, go_sem, r0, r1, r2, r3, r4, r5, r6]) rfl ⟨_, by rw [HBB.out]; rfl, ?_, setB_below HB.out (Nat.le_refl _) _ _ _ _ _ _ _⟩
    rw [HBM.out, setB_size]
    exact bm0_in _ _ _ (by omega)
  | true =>
    cases tb with
    | false =>
      go_wp2
      refine bodyPost_ret (v := .tuple #[balv 0 (.slice none 0 0) 0 0 (.slice none 0 0) (.slice none 0 0) (.slice none 0 0), .bool false]) (by simp [results, Try.results6, go_sem, r0, r1, r2, r3, r4, r5, r6]) rfl ⟨_, by rw [HBB.out]; rfl, ?_, setB_below HB.out (Nat.le_refl _) _ _ _ _ _ _ _⟩
      rw [HBM.out, setB_size]
      exact bm0_in _ _ _ (by omega)
    | true =>
      have hkk : pk = key := by rw [← HPK.out]; exact HKY.out rfl
      subst hkk
      go_wp2
      refine bodyPost_ret (v := .tuple #[balv pk (.slice none 0 0) 0 pk (.slice po pn pc) (.slice qo qn qc) (.slice ot nt ct), .bool true]) (by simp [results, Try.results6, go_sem, r0, r1, r2, r3, r4, r5, r6]) rfl ⟨_, by rw [HBB.out]; rfl, ?_, setB_below HB.out (Nat.le_refl _) _ _ _ _ _ _ _⟩
      rw [HBM.out, setB_size]
      have s9 := stp_setB W4 w.heap.size (.int .i64 pk) (.slice none 0 0) (.int .i64 0) (.int .i64 pk) (.slice po pn pc) (.slice qo qn qc) (.slice ot nt ct)
      have e9 : pm.key = pk := HPK.out
      refine ⟨.slice none 0 0, .slice po pn pc, .slice qo qn qc, .slice ot nt ct, w.heap.size, W2.heap.size, ?_, Nat.le_refl _, by omega, by omega, ⟨_, rfl, World.ownsRow_nil _ _ _ _, fun b e => by cases e⟩, ?_, ?_⟩
      · show balv pk _ _ _ _ _ _ = balv pk _ 0 pm.key _ _ _
        rw [e9]
      · show InPm w.heap.size W2.heap.size _ (plv pm.key (.slice po pn pc) (.slice qo qn qc)) pm
        rw [e9]
        exact inPm_wide (HIP.out.step s9 (.inl (by omega))) (by omega) (by omega)
      · exact HIT.out.step s9 (.inl (by omega)) |> inTb_wide (by omega)

end Go.Proofs.Ytfmnhdemhbbjlaa

/- The model's copy of a balancer, and its new one. -/
namespace Go.Proofs.Ytfmnhdemhbbjlaa
open Go.ChangeShapes Go.WideShapes Go.ChangeAt Go.RowKit Go.Joins
set_option linter.unusedVariables false
set_option linter.unusedSimpArgs false


/-- A balancer whose memory lies from lo on, below hi: how it reads. -/
def OwBm (lo hi : Nat) (w : World) (v : Value) (m : Bm) : Prop := ∃ vl vb vr vt, v = balv m.j.key vl m.j.safe m.p.key vb vr vt ∧ InJm lo hi w (jrn m.j.key vl m.j.safe) m.j ∧ RiPm lo hi w (plv m.p.key vb vr) m.p ∧ InTb lo hi w (tab vt) m.t
theorem OwBm.step {x y lo hi : Nat} {w w' : World} {v : Value} {m : Bm} (h : OwBm x y w v m) (s : Stp lo hi w w') (hd : hi ≤ x ∨ y ≤ lo) : OwBm x y w' v m := by
  obtain ⟨vl, vb, vr, vt, e, h1, h2, h3⟩ := h
  exact ⟨vl, vb, vr, vt, e, h1.step s hd, h2.step s hd, h3.step s hd⟩
theorem OwBm.rd {x y : Nat} {w : World} {v : Value} {m : Bm} (h : OwBm x y w v m) : RdBm y w v m := by
  obtain ⟨vl, vb, vr, vt, e, h1, h2, h3⟩ := h
  exact ⟨vl, vb, vr, vt, e, h1.rd, h2.rd, h3.rd⟩
theorem OwBm.mono {x y x' y' : Nat} {w : World} {v : Value} {m : Bm} (h : OwBm x y w v m) (h1 : x' ≤ x) (h2 : y ≤ y') : OwBm x' y' w v m := by
  obtain ⟨vl, vb, vr, vt, e, ⟨vl', e1, i1⟩, i2, ⟨vt', e3, i3⟩⟩ := h
  exact ⟨vl, vb, vr, vt, e, ⟨vl', e1, InRow.mono i1 h1 h2⟩, i2.mono h1 h2, ⟨vt', e3, InRow.mono i3 h1 h2⟩⟩
theorem bm0_ow (lo hi : Nat) (w : World) : OwBm lo hi w (balv 0 (.slice none 0 0) 0 0 (.slice none 0 0) (.slice none 0 0) (.slice none 0 0)) bm0 := ⟨_, _, _, _, rfl, ⟨_, rfl, World.ownsRow_nil _ _ _ _, fun b e => by cases e⟩, pm0_ri lo hi w, ⟨_, rfl, World.ownsRow_nil _ _ _ _, fun b e => by cases e⟩⟩
theorem inJm_wide {a b a' b' : Nat} {w : World} {v : Value} {m : Jm} (h : InJm a b w v m) (h1 : a' ≤ a) (h2 : b ≤ b') : InJm a' b' w v m := by
  obtain ⟨vl, e, i1⟩ := h
  exact ⟨vl, e, InRow.mono i1 h1 h2⟩
theorem inTb_mono {a b a' b' : Nat} {w : World} {v : Value} {m : List Sl} (h : InTb a b w v m) (h1 : a' ≤ a) (h2 : b ≤ b') : InTb a' b' w v m := by
  obtain ⟨vl, e, i1⟩ := h
  exact ⟨vl, e, InRow.mono i1 h1 h2⟩

theorem own7_opn {kp : Int} {lb : List Bk} {lr : List (List (List Int))} {np nr a b : Nat} {w : World} {v : Value} (h1 : np = lb.length) (h2 : nr = lr.length) (h : RiPm a b w v ⟨kp, lb, lr⟩) : ∃ (o : Option Addr) (c : Nat) (oR : Option Addr) (cR : Nat), v = plv kp (.slice o np c) (.slice oR nr cR) := by
  obtain ⟨o, c, oR, cR, e⟩ := h.opn
  exact ⟨o, c, oR, cR, by rw [e, h1, h2]⟩
theorem own7_keep {x : World} {B : Nat} {u0 u1 u2 u3 u4 u5 u6 : Value} (h0 : x.cell? ⟨B, 0, none⟩ = some u0) (h1 : x.cell? ⟨B, 1, none⟩ = some u1) (h2 : x.cell? ⟨B, 2, none⟩ = some u2) (h3 : x.cell? ⟨B, 3, none⟩ = some u3) (h4 : x.cell? ⟨B, 4, none⟩ = some u4) (h5 : x.cell? ⟨B, 5, none⟩ = some u5) (h6 : x.cell? ⟨B, 6, none⟩ = some u6) (x0 x1 x2 x3 x4 x5 x6 : Value) : (setB x (B + 1) x0 x1 x2 x3 x4 x5 x6).cell? ⟨B, 0, none⟩ = some u0 ∧ (setB x (B + 1) x0 x1 x2 x3 x4 x5 x6).cell? ⟨B, 1, none⟩ = some u1 ∧ (setB x (B + 1) x0 x1 x2 x3 x4 x5 x6).cell? ⟨B, 2, none⟩ = some u2 ∧ (setB x (B + 1) x0 x1 x2 x3 x4 x5 x6).cell? ⟨B, 3, none⟩ = some u3 ∧ (setB x (B + 1) x0 x1 x2 x3 x4 x5 x6).cell? ⟨B, 4, none⟩ = some u4 ∧ (setB x (B + 1) x0 x1 x2 x3 x4 x5 x6).cell? ⟨B, 5, none⟩ = some u5 ∧ (setB x (B + 1) x0 x1 x2 x3 x4 x5 x6).cell? ⟨B, 6, none⟩ = some u6 :=
  have s := stp_setB x (B + 1) x0 x1 x2 x3 x4 x5 x6
  ⟨s.cellP h0 (.inl (Nat.lt_succ_self _)), s.cellP h1 (.inl (Nat.lt_succ_self _)), s.cellP h2 (.inl (Nat.lt_succ_self _)), s.cellP h3 (.inl (Nat.lt_succ_self _)), s.cellP h4 (.inl (Nat.lt_succ_self _)), s.cellP h5 (.inl (Nat.lt_succ_self _)), s.cellP h6 (.inl (Nat.lt_succ_self _))⟩

set_option maxRecDepth 100000 in
set_option maxHeartbeats 8000000 in
theorem l7own_go (kj : Int) (o : Option Addr) (nj c : Nat) (sj kp : Int) (ob : Option Addr) (np cb : Nat) (oR : Option Addr) (nr cR : Nat) (bt ft nt ct : Nat) (lj : List Cd) (lb : List Bk) (lr : List (List (List Int))) (lt : List Sl) (w : World)
    (hnj : nj = lj.length) (hnp : np = lb.length) (hnr : nr = lr.length) (hnt : nt = lt.length) (h1 : RdC w.heap.size w o lj) (h1c : o = none → c = 0) (h2 : RdK w.heap.size w ob lb) (h2c : ob = none → cb = 0) (h3 : RcR 0 w.heap.size w (.slice oR nr cR) lr) (h4 : bt < w.heap.size) (h5 : ∀ i, i < lt.length → ∀ j, j < layS.k → w.cell? ⟨bt, ft + i * layS.k + j, none⟩ = (layS.cs (lt.getD i layS.d))[j]?) (hf : fitBm ⟨⟨kj, lj, sj⟩, ⟨kp, lb, lr⟩, lt⟩) :
    Calls Try.prog 16 #[balv kj (.slice o nj c) sj kp (.slice ob np cb) (.slice oR nr cR) (.slice (some ⟨bt, ft, none⟩) nt ct)] w fun e w' => ∃ v, e = .returned v ∧ OwBm w.heap.size w'.heap.size w' v ⟨⟨kj, lj, sj⟩, ⟨kp, lb, lr⟩, lt⟩ ∧ Below w.heap.size w w' := by
  obtain ⟨f1, ⟨f2, f3, f4, f5, f6⟩, f7⟩ := hf
  dsimp only at f1 f2 f3 f4 f5 f6 f7
  have HJ := hide (fun W (hb : Below w.heap.size w W) => l4ownJ_any kj sj o c lj nj hnj W ((h1.kept hb (Nat.le_refl _)).le hb.size) h1c (by omega))
  have HP := hide (fun W (hb : Below w.heap.size w W) => l4own_go kp ob cb lb oR cR lr nr hnr W ((h2.kept hb (Nat.le_refl _)).le hb.size) h2c f2 (RcR.mon.go (RcR.stp.go h3 (Stp.of (lo := 0) (hi := 0) hb) (.inl (Nat.zero_le _))) (Nat.le_refl _) hb.size) (by omega) f5 f6)
  have HT := hide (fun W (hb : Below w.heap.size w W) => l5own_any bt ft ct lt W (Nat.lt_of_lt_of_le h4 hb.size) (fun i hi j hj => (hb.cell (p := ⟨bt, ft + i * layS.k + j, none⟩) h4).trans (h5 i hi j hj)) f7)
  rw [← hnp] at HP
  rw [← hnt] at HT
  have HNJ := hide hnj
  have HNP := hide hnp
  have HNR := hide hnr
  have HNT := hide hnt
  clear h1 h2 h3 h5 f5 f6 f4 f2 f3 f7 f1 hnj hnp hnr hnt
  obtain ⟨W0, hW0⟩ : ∃ W, ((w.alloc (.cells #[.int .i64 kj, .slice o nj c, .int .i64 sj, .int .i64 kp, .slice ob np cb, .slice oR nr cR, .slice (some ⟨bt, ft, none⟩) nt ct] 33)).alloc (.cells #[.int .i64 0, .slice none 0 0, .int .i64 0, .int .i64 0, .slice none 0 0, .slice none 0 0, .slice none 0 0] 33)) = W := ⟨_, rfl⟩
  have hb_W0 : Below w.heap.size w W0 := by rw [← hW0]; exact (((Below.refl _ _).alloc (Nat.le_refl _) _).alloc (by simp <;> omega) _)
  have HB := hide hb_W0
  clear hb_W0
  have zz : w.heap.size < W0.heap.size := by rw [← hW0]; simp <;> omega
  have z0 : W0.cell? ⟨w.heap.size, 0, none⟩ = some (.int .i64 kj) := by rw [← hW0]; simp [go_sem]
  have z1 : W0.cell? ⟨w.heap.size, 1, none⟩ = some (.slice o nj c) := by rw [← hW0]; simp [go_sem]
  have z2 : W0.cell? ⟨w.heap.size, 2, none⟩ = some (.int .i64 sj) := by rw [← hW0]; simp [go_sem]
  have z3 : W0.cell? ⟨w.heap.size, 3, none⟩ = some (.int .i64 kp) := by rw [← hW0]; simp [go_sem]
  have z4 : W0.cell? ⟨w.heap.size, 4, none⟩ = some (.slice ob np cb) := by rw [← hW0]; simp [go_sem]
  have z5 : W0.cell? ⟨w.heap.size, 5, none⟩ = some (.slice oR nr cR) := by rw [← hW0]; simp [go_sem]
  have z6 : W0.cell? ⟨w.heap.size, 6, none⟩ = some (.slice (some ⟨bt, ft, none⟩) nt ct) := by rw [← hW0]; simp [go_sem]
  have zr : w.heap.size + 1 < W0.heap.size := by rw [← hW0]; simp
  have r0 : W0.cell? ⟨w.heap.size + 1, 0, none⟩ = some (.int .i64 0) := by rw [← hW0]; simp [go_sem]
  have r1 : W0.cell? ⟨w.heap.size + 1, 1, none⟩ = some (.slice none 0 0) := by rw [← hW0]; simp [go_sem]
  have r2 : W0.cell? ⟨w.heap.size + 1, 2, none⟩ = some (.int .i64 0) := by rw [← hW0]; simp [go_sem]
  have r3 : W0.cell? ⟨w.heap.size + 1, 3, none⟩ = some (.int .i64 0) := by rw [← hW0]; simp [go_sem]
  have r4 : W0.cell? ⟨w.heap.size + 1, 4, none⟩ = some (.slice none 0 0) := by rw [← hW0]; simp [go_sem]
  have r5 : W0.cell? ⟨w.heap.size + 1, 5, none⟩ = some (.slice none 0 0) := by rw [← hW0]; simp [go_sem]
  have r6 : W0.cell? ⟨w.heap.size + 1, 6, none⟩ = some (.slice none 0 0) := by rw [← hW0]; simp [go_sem]
  have fr0 : W0.frozen? ⟨w.heap.size + 1, 0, none⟩ = false := by rw [← hW0]; simp [go_sem]
  have fr1 : W0.frozen? ⟨w.heap.size + 1, 1, none⟩ = false := by rw [← hW0]; simp [go_sem]
  have fr2 : W0.frozen? ⟨w.heap.size + 1, 2, none⟩ = false := by rw [← hW0]; simp [go_sem]
  have fr3 : W0.frozen? ⟨w.heap.size + 1, 3, none⟩ = false := by rw [← hW0]; simp [go_sem]
  have fr4 : W0.frozen? ⟨w.heap.size + 1, 4, none⟩ = false := by rw [← hW0]; simp [go_sem]
  have fr5 : W0.frozen? ⟨w.heap.size + 1, 5, none⟩ = false := by rw [← hW0]; simp [go_sem]
  have fr6 : W0.frozen? ⟨w.heap.size + 1, 6, none⟩ = false := by rw [← hW0]; simp [go_sem]
  have HR0 := hide (show W0.heap[w.heap.size + 1]? = some (.cells #[.int .i64 0, .slice none 0 0, .int .i64 0, .int .i64 0, .slice none 0 0, .slice none 0 0, .slice none 0 0] 33 (0, 0)) by rw [← hW0]; exact box_new2 w _ _ _)
  have hbw := HB.out.size
  go_enter Try.func16, Try.ntmps16
  go_wp2
  go_region_held3 (fun w' => w'.cell? ⟨w.heap.size, 0, none⟩ = some (.int .i64 kj) ∧ w'.cell? ⟨w.heap.size, 1, none⟩ = some (.slice o nj c) ∧ w'.cell? ⟨w.heap.size, 2, none⟩ = some (.int .i64 sj) ∧ w'.cell? ⟨w.heap.size, 3, none⟩ = some (.int .i64 kp) ∧ w'.cell? ⟨w.heap.size, 4, none⟩ = some (.slice ob np cb) ∧ w'.cell? ⟨w.heap.size, 5, none⟩ = some (.slice oR nr cR) ∧ w'.cell? ⟨w.heap.size, 6, none⟩ = some (.slice (some ⟨bt, ft, none⟩) nt ct)) (first | with_reducible exact ⟨z0, z1, z2, z3, z4, z5, z6⟩ | with_reducible exact ⟨ka0, ka1, ka2, ka3, ka4, ka5, ka6⟩ | with_reducible exact ⟨kb0, kb1, kb2, kb3, kb4, kb5, kb6⟩ | with_reducible exact ⟨kc0, kc1, kc2, kc3, kc4, kc5, kc6⟩ | with_reducible exact hks _ _ _ _ _ _ _ | go_keep) (first | (go_at_call 40; (with_reducible refine (HJ.out W0.drew (Below.drew HB.out)).mono ?_); rintro e x0 ⟨o7, c7, rfl, ow7, hq0⟩; have hx0 : Below W0.heap.size W0 x0 := (Below.drew (Below.refl _ _)).trans hq0; have ka0 := bC hx0 z0 zz; have ka1 := bC hx0 z1 zz; have ka2 := bC hx0 z2 zz; have ka3 := bC hx0 z3 zz; have ka4 := bC hx0 z4 zz; have ka5 := bC hx0 z5 zz; have ka6 := bC hx0 z6 zz; have HBa := HB.out.trans (hx0.mono hbw); clear hq0) | (go_at_call 41; (with_reducible refine (HP.out x0 HBa).mono ?_); rintro e x1 ⟨v8, rfl, in8, hq1⟩; have hx1 : Below W0.heap.size W0 x1 := hx0.trans (hq1.mono hx0.size); have ow7' := own_kept ow7 hq1; obtain ⟨o8, c8, oR8, cR8, e8⟩ := own7_opn HNP.out HNR.out in8; subst e8; have kb0 := bC hx1 z0 zz; have kb1 := bC hx1 z1 zz; have kb2 := bC hx1 z2 zz; have kb3 := bC hx1 z3 zz; have kb4 := bC hx1 z4 zz; have kb5 := bC hx1 z5 zz; have kb6 := bC hx1 z6 zz; have HBb := HB.out.trans (hx1.mono hbw)) | (go_at_call 42; (with_reducible refine (HT.out x1 HBb).mono ?_); rintro e x2 ⟨o9, c9, rfl, ow9, hq2⟩; have hx2 : Below W0.heap.size W0 x2 := hx1.trans (hq2.mono hx1.size); have ow7'' := own_kept ow7' hq2; have in8' := in8.kept hq2 (Nat.le_refl _); have kc0 := bC hx2 z0 zz; have kc1 := bC hx2 z1 zz; have kc2 := bC hx2 z2 zz; have kc3 := bC hx2 z3 zz; have kc4 := bC hx2 z4 zz; have kc5 := bC hx2 z5 zz; have kc6 := bC hx2 z6 zz; have rr0 := bC hx2 r0 zr; have rf0 := bF hx2 fr0 zr; have rr1 := bC hx2 r1 zr; have rf1 := bF hx2 fr1 zr; have rr2 := bC hx2 r2 zr; have rf2 := bF hx2 fr2 zr; have rr3 := bC hx2 r3 zr; have rf3 := bF hx2 fr3 zr; have rr4 := bC hx2 r4 zr; have rf4 := bF hx2 fr4 zr; have rr5 := bC hx2 r5 zr; have rf5 := bF hx2 fr5 zr; have rr6 := bC hx2 r6 zr; have rf6 := bF hx2 fr6 zr; have hks := own7_keep (x := x2) kc0 kc1 kc2 kc3 kc4 kc5 kc6; have HBc := HB.out.trans (hx2.mono hbw)))
  have hq0 := hx0.size
  have hq1' := hq1.size
  have hq2' := hq2.size
  have HFI : Hid (OwBm w.heap.size (setB x2 (w.heap.size + 1) (.int .i64 kj) (.slice o7 nj c7) (.int .i64 sj) (.int .i64 kp) (.slice o8 np c8) (.slice oR8 nr cR8) (.slice o9 nt c9)).heap.size (setB x2 (w.heap.size + 1) (.int .i64 kj) (.slice o7 nj c7) (.int .i64 sj) (.int .i64 kp) (.slice o8 np c8) (.slice oR8 nr cR8) (.slice o9 nt c9)) (balv kj (.slice o7 nj c7) sj kp (.slice o8 np c8) (.slice oR8 nr cR8) (.slice o9 nt c9)) ⟨⟨kj, lj, sj⟩, ⟨kp, lb, lr⟩, lt⟩ ∧ Below w.heap.size w (setB x2 (w.heap.size + 1) (.int .i64 kj) (.slice o7 nj c7) (.int .i64 sj) (.int .i64 kp) (.slice o8 np c8) (.slice oR8 nr cR8) (.slice o9 nt c9))) := by
    have s9 := stp_setB x2 (w.heap.size + 1) (.int .i64 kj) (.slice o7 nj c7) (.int .i64 sj) (.int .i64 kp) (.slice o8 np c8) (.slice oR8 nr cR8) (.slice o9 nt c9)
    have j9 := InRow.step (InRow.of ow7'') s9 (.inl (show w.heap.size + 1 + 1 ≤ W0.heap.size by omega))
    have p9 := (in8'.step s9 (.inl (show w.heap.size + 1 + 1 ≤ x0.heap.size by omega)))
    have t9 := InRow.step (InRow.of ow9) s9 (.inl (show w.heap.size + 1 + 1 ≤ x1.heap.size by omega))
    refine ⟨⟨_, _, _, _, rfl, ⟨_, rfl, InRow.mono j9 (show w.heap.size ≤ W0.heap.size by omega) (by rw [setB_size]; exact Nat.le_refl _)⟩, p9.mono (by omega) (by rw [setB_size]; exact hq2'), ⟨_, rfl, InRow.mono t9 (by omega) (by rw [setB_size]; exact Nat.le_refl _)⟩⟩, setB_below HBc (Nat.le_succ _) _ _ _ _ _ _ _⟩
  clear ow7 ow7' ow7'' in8 in8' ow9 hks hx0 hx1 hx2 hq1 hq2 HBa HBb HBc ka0 kb0 ka1 kb1 ka2 kb2 ka3 kb3 ka4 kb4 ka5 kb5 ka6 kb6
  go_wp2
  refine bodyPost_ret (v := balv kj (.slice o7 nj c7) sj kp (.slice o8 np c8) (.slice oR8 nr cR8) (.slice o9 nt c9)) (by simp [results, Try.results16, go_sem, rr0, rr1, rr2, rr3, rr4, rr5, rr6]) rfl ⟨_, rfl, HFI.out.1, HFI.out.2⟩

end Go.Proofs.Ytfmnhdemhbbjlaa

/- The model's BalNew. -/
namespace Go.Proofs.Ytfmnhdemhbbjlaa
open Go.ChangeShapes Go.WideShapes Go.ChangeAt Go.RowKit Go.Joins
set_option linter.unusedVariables false
set_option linter.unusedSimpArgs false


/-- What l7new leaves. -/
def New7 (key : Int) (m : Nat) (w : World) (e : Ending) (w' : World) : Prop := ∃ g tb, e = .returned (balv key (.slice none 0 0) 0 key (.slice none 0 0) (.slice (some ⟨g, 0, none⟩) 1 1) (.slice (some ⟨tb, 0, none⟩) m m)) ∧ RcR 0 w'.heap.size w' (.slice (some ⟨g, 0, none⟩) 1 1) (ringT key [[]]) ∧ ownS w' w.heap.size (.slice (some ⟨tb, 0, none⟩) m m) (List.replicate m sl0) ∧ Below w.heap.size w w'
theorem setB_cells {W : World} {R : Nat} {z0 z1 z2 z3 z4 z5 z6 : Value} {T : TypeId} (h : W.heap[R]? = some (.cells #[z0, z1, z2, z3, z4, z5, z6] T (0, 0))) (x0 x1 x2 x3 x4 x5 x6 : Value) (O : Obj) : ((setB W R x0 x1 x2 x3 x4 x5 x6).alloc O).heap[R]? = some (.cells #[x0, x1, x2, x3, x4, x5, x6] T (0, 0)) := by
  have h1 : (W.setCell ⟨R, 0, none⟩ x0).heap[R]? = some (.cells #[x0, z1, z2, z3, z4, z5, z6] T (0, 0)) := box_put h 0 x0
  have h2 : ((W.setCell ⟨R, 0, none⟩ x0).setCell ⟨R, 1, none⟩ x1).heap[R]? = some (.cells #[x0, x1, z2, z3, z4, z5, z6] T (0, 0)) := box_put h1 1 x1
  have h3 : (((W.setCell ⟨R, 0, none⟩ x0).setCell ⟨R, 1, none⟩ x1).setCell ⟨R, 2, none⟩ x2).heap[R]? = some (.cells #[x0, x1, x2, z3, z4, z5, z6] T (0, 0)) := box_put h2 2 x2
  have h4 : ((((W.setCell ⟨R, 0, none⟩ x0).setCell ⟨R, 1, none⟩ x1).setCell ⟨R, 2, none⟩ x2).setCell ⟨R, 3, none⟩ x3).heap[R]? = some (.cells #[x0, x1, x2, x3, z4, z5, z6] T (0, 0)) := box_put h3 3 x3
  have h5 : (((((W.setCell ⟨R, 0, none⟩ x0).setCell ⟨R, 1, none⟩ x1).setCell ⟨R, 2, none⟩ x2).setCell ⟨R, 3, none⟩ x3).setCell ⟨R, 4, none⟩ x4).heap[R]? = some (.cells #[x0, x1, x2, x3, x4, z5, z6] T (0, 0)) := box_put h4 4 x4
  have h6 : ((((((W.setCell ⟨R, 0, none⟩ x0).setCell ⟨R, 1, none⟩ x1).setCell ⟨R, 2, none⟩ x2).setCell ⟨R, 3, none⟩ x3).setCell ⟨R, 4, none⟩ x4).setCell ⟨R, 5, none⟩ x5).heap[R]? = some (.cells #[x0, x1, x2, x3, x4, x5, z6] T (0, 0)) := box_put h5 5 x5
  have h7 : (((((((W.setCell ⟨R, 0, none⟩ x0).setCell ⟨R, 1, none⟩ x1).setCell ⟨R, 2, none⟩ x2).setCell ⟨R, 3, none⟩ x3).setCell ⟨R, 4, none⟩ x4).setCell ⟨R, 5, none⟩ x5).setCell ⟨R, 6, none⟩ x6).heap[R]? = some (.cells #[x0, x1, x2, x3, x4, x5, x6] T (0, 0)) := box_put h6 6 x6
  exact (((Below.refl _ _).alloc (Nat.le_refl _) O).block R (Array.getElem?_eq_some_iff.1 h7).1).trans h7
theorem cell_alloc {w : World} {b j : Nat} {u : Value} (h : w.cell? ⟨b, j, none⟩ = some u) (hz : b < w.heap.size) (O : Obj) : (w.alloc O).cell? ⟨b, j, none⟩ = some u := bC ((Below.refl _ _).alloc (Nat.le_refl _) O) h hz
theorem frozen_alloc {w : World} {b j : Nat} (h : w.frozen? ⟨b, j, none⟩ = false) (hz : b < w.heap.size) (O : Obj) : (w.alloc O).frozen? ⟨b, j, none⟩ = false := bF ((Below.refl _ _).alloc (Nat.le_refl _) O) h hz
theorem ring_stp {C R : Nat} {w w' : World} {v : Value} {l : List (List (List Int))} (h : RcR (R + 1) C w v l) (s : Stp R (R + 1) w w') (hs : C ≤ w'.heap.size) : RcR 0 w'.heap.size w' v l := RcR.mon.go (RcR.stp.go h s (.inl (Nat.le_refl _))) (Nat.zero_le _) hs
theorem ring_rcB {key : Int} {w : World} {base g : Nat} {l : List Bk} (h : RingO w base (.slice (some ⟨g, 0, none⟩) 1 1) (fun b => pairI key b l) []) : RcR base w.heap.size w (.slice (some ⟨g, 0, none⟩) 1 1) (ringT key [l]) := by
  obtain ⟨o3, c3, hs3, h1, h2, h3⟩ := h
  have h4 : GTabs w base [(o3, 8, c3)] (ringT key [l]) := by
    have := (GTabs.nil w base).snoc (ll := newT key l) (by rw [newT_len]; exact h2) (tab_new h3)
    rw [newT_len] at this
    exact this
  exact h4.rc h1

set_option maxRecDepth 100000 in
set_option maxHeartbeats 8000000 in
theorem l7new_any (key : Int) (m : Nat) (w : World) (hk : keyB key = true) (hm : m ≤ 16) :
    Calls Try.prog 17 #[.int .i64 key, .int .i64 (m : Int)] w fun e w' => New7 key m w e w' := by
  obtain ⟨cs, hmk, hown⟩ := madeN m hm
  have HO := hide hown
  clear hown
  have HN := hide (fun W => l4new_any key W hk)
  obtain ⟨W0, hW0⟩ : ∃ W, (w.alloc (.cells #[.int .i64 0, .slice none 0 0, .int .i64 0, .int .i64 0, .slice none 0 0, .slice none 0 0, .slice none 0 0] 33)) = W := ⟨_, rfl⟩
  have hb_W0 : Below w.heap.size w W0 := by rw [← hW0]; exact ((Below.refl _ _).alloc (Nat.le_refl _) _)
  have HB := hide hb_W0
  clear hb_W0
  have zr : w.heap.size < W0.heap.size := by rw [← hW0]; simp
  have r0 : W0.cell? ⟨w.heap.size, 0, none⟩ = some (.int .i64 0) := by rw [← hW0]; simp [go_sem]
  have r1 : W0.cell? ⟨w.heap.size, 1, none⟩ = some (.slice none 0 0) := by rw [← hW0]; simp [go_sem]
  have r2 : W0.cell? ⟨w.heap.size, 2, none⟩ = some (.int .i64 0) := by rw [← hW0]; simp [go_sem]
  have r3 : W0.cell? ⟨w.heap.size, 3, none⟩ = some (.int .i64 0) := by rw [← hW0]; simp [go_sem]
  have r4 : W0.cell? ⟨w.heap.size, 4, none⟩ = some (.slice none 0 0) := by rw [← hW0]; simp [go_sem]
  have r5 : W0.cell? ⟨w.heap.size, 5, none⟩ = some (.slice none 0 0) := by rw [← hW0]; simp [go_sem]
  have r6 : W0.cell? ⟨w.heap.size, 6, none⟩ = some (.slice none 0 0) := by rw [← hW0]; simp [go_sem]
  have fr0 : W0.frozen? ⟨w.heap.size, 0, none⟩ = false := by rw [← hW0]; simp [go_sem]
  have fr1 : W0.frozen? ⟨w.heap.size, 1, none⟩ = false := by rw [← hW0]; simp [go_sem]
  have fr2 : W0.frozen? ⟨w.heap.size, 2, none⟩ = false := by rw [← hW0]; simp [go_sem]
  have fr3 : W0.frozen? ⟨w.heap.size, 3, none⟩ = false := by rw [← hW0]; simp [go_sem]
  have fr4 : W0.frozen? ⟨w.heap.size, 4, none⟩ = false := by rw [← hW0]; simp [go_sem]
  have fr5 : W0.frozen? ⟨w.heap.size, 5, none⟩ = false := by rw [← hW0]; simp [go_sem]
  have fr6 : W0.frozen? ⟨w.heap.size, 6, none⟩ = false := by rw [← hW0]; simp [go_sem]
  have hbw := HB.out.size
  have HX0 : Hid (W0.heap[w.heap.size]? = some (.cells #[.int .i64 0, .slice none 0 0, .int .i64 0, .int .i64 0, .slice none 0 0, .slice none 0 0, .slice none 0 0] 33 (0, 0))) := by rw [← hW0]; exact World.alloc_heap_new w _
  have zr0 := zr
  clear hk
  go_enter Try.func17, Try.ntmps17
  go_wp2
  go_region_with (first | (go_at_call 43; (with_reducible refine (HN.out W0.drew).mono ?_); rintro e x0 ⟨g, rfl, hring, hq⟩; have hx : Below W0.heap.size W0 x0 := (Below.drew (Below.refl _ _)).trans hq; have zq : w.heap.size < x0.heap.size := Nat.lt_of_lt_of_le zr hx.size; have q0 := bC hx r0 zr; have qf0 := bF hx fr0 zr; have a0 := cell_alloc q0 zq; have af0 := frozen_alloc qf0 zq; have q1 := bC hx r1 zr; have qf1 := bF hx fr1 zr; have a1 := cell_alloc q1 zq; have af1 := frozen_alloc qf1 zq; have q2 := bC hx r2 zr; have qf2 := bF hx fr2 zr; have a2 := cell_alloc q2 zq; have af2 := frozen_alloc qf2 zq; have q3 := bC hx r3 zr; have qf3 := bF hx fr3 zr; have a3 := cell_alloc q3 zq; have af3 := frozen_alloc qf3 zq; have q4 := bC hx r4 zr; have qf4 := bF hx fr4 zr; have a4 := cell_alloc q4 zq; have af4 := frozen_alloc qf4 zq; have q5 := bC hx r5 zr; have qf5 := bF hx fr5 zr; have a5 := cell_alloc q5 zq; have af5 := frozen_alloc qf5 zq; have q6 := bC hx r6 zr; have qf6 := bF hx fr6 zr; have a6 := cell_alloc q6 zq; have af6 := frozen_alloc qf6 zq; have way : True := trivial; clear hq) | (go_at_call 43; (with_reducible refine (HN.out (W0.alloc (.cells cs 130)).drew).mono ?_); rintro e x0 ⟨g, rfl, hring, hq⟩; have hx : Below W0.heap.size W0 x0 := (Below.drew ((Below.refl _ _).alloc (Nat.le_refl _) _)).trans (hq.mono (by simp)); have zq : w.heap.size < x0.heap.size := Nat.lt_of_lt_of_le zr hx.size; have q0 := bC hx r0 zr; have qf0 := bF hx fr0 zr; have a0 := cell_alloc q0 zq; have af0 := frozen_alloc qf0 zq; have q1 := bC hx r1 zr; have qf1 := bF hx fr1 zr; have a1 := cell_alloc q1 zq; have af1 := frozen_alloc qf1 zq; have q2 := bC hx r2 zr; have qf2 := bF hx fr2 zr; have a2 := cell_alloc q2 zq; have af2 := frozen_alloc qf2 zq; have q3 := bC hx r3 zr; have qf3 := bF hx fr3 zr; have a3 := cell_alloc q3 zq; have af3 := frozen_alloc qf3 zq; have q4 := bC hx r4 zr; have qf4 := bF hx fr4 zr; have a4 := cell_alloc q4 zq; have af4 := frozen_alloc qf4 zq; have q5 := bC hx r5 zr; have qf5 := bF hx fr5 zr; have a5 := cell_alloc q5 zq; have af5 := frozen_alloc qf5 zq; have q6 := bC hx r6 zr; have qf6 := bF hx fr6 zr; have a6 := cell_alloc q6 zq; have af6 := frozen_alloc qf6 zq; have ho := own_kept (HO.out W0) ((Below.drew (Below.refl _ _)).trans hq)))
  · have HFI : Hid (RcR 0 (((setB x0 w.heap.size (.int .i64 key) (.slice none 0 0) (.int .i64 0) (.int .i64 key) (.slice none 0 0) (.slice (some ⟨g, 0, none⟩) 1 1) (.slice (some ⟨x0.heap.size, 0, none⟩) m m)).alloc (.cells cs 130))).heap.size ((setB x0 w.heap.size (.int .i64 key) (.slice none 0 0) (.int .i64 0) (.int .i64 key) (.slice none 0 0) (.slice (some ⟨g, 0, none⟩) 1 1) (.slice (some ⟨x0.heap.size, 0, none⟩) m m)).alloc (.cells cs 130)) (.slice (some ⟨g, 0, none⟩) 1 1) (ringT key [[]]) ∧ ownS ((setB x0 w.heap.size (.int .i64 key) (.slice none 0 0) (.int .i64 0) (.int .i64 key) (.slice none 0 0) (.slice (some ⟨g, 0, none⟩) 1 1) (.slice (some ⟨x0.heap.size, 0, none⟩) m m)).alloc (.cells cs 130)) w.heap.size (.slice (some ⟨x0.heap.size, 0, none⟩) m m) (List.replicate m sl0) ∧ Below w.heap.size w ((setB x0 w.heap.size (.int .i64 key) (.slice none 0 0) (.int .i64 0) (.int .i64 key) (.slice none 0 0) (.slice (some ⟨g, 0, none⟩) 1 1) (.slice (some ⟨x0.heap.size, 0, none⟩) m m)).alloc (.cells cs 130))) := by
      have s9 := stp_setB x0 w.heap.size (.int .i64 key) (.slice none 0 0) (.int .i64 0) (.int .i64 key) (.slice none 0 0) (.slice (some ⟨g, 0, none⟩) 1 1) (.slice (some ⟨x0.heap.size, 0, none⟩) m m)
      have hx0 := hx.size
      have ro := RcR.stp.go (RcR.mon.go (ring_rcB hring) (show w.heap.size + 1 ≤ _ by (try simp) <;> omega) (Nat.le_refl _)) s9 (.inl (Nat.le_refl _))
      have hb9 := setB_below (HB.out.trans (hx.mono hbw)) (Nat.le_refl _) (.int .i64 key) (.slice none 0 0) (.int .i64 0) (.int .i64 key) (.slice none 0 0) (.slice (some ⟨g, 0, none⟩) 1 1) (.slice (some ⟨x0.heap.size, 0, none⟩) m m)
      have hal : Below (setB x0 w.heap.size (.int .i64 key) (.slice none 0 0) (.int .i64 0) (.int .i64 key) (.slice none 0 0) (.slice (some ⟨g, 0, none⟩) 1 1) (.slice (some ⟨x0.heap.size, 0, none⟩) m m)).heap.size (setB x0 w.heap.size (.int .i64 key) (.slice none 0 0) (.int .i64 0) (.int .i64 key) (.slice none 0 0) (.slice (some ⟨g, 0, none⟩) 1 1) (.slice (some ⟨x0.heap.size, 0, none⟩) m m)) ((setB x0 w.heap.size (.int .i64 key) (.slice none 0 0) (.int .i64 0) (.int .i64 key) (.slice none 0 0) (.slice (some ⟨g, 0, none⟩) 1 1) (.slice (some ⟨x0.heap.size, 0, none⟩) m m)).alloc (.cells cs 130)) := (Below.refl _ _).alloc (Nat.le_refl _) _
      have h := HO.out (setB x0 w.heap.size (.int .i64 key) (.slice none 0 0) (.int .i64 0) (.int .i64 key) (.slice none 0 0) (.slice (some ⟨g, 0, none⟩) 1 1) (.slice (some ⟨x0.heap.size, 0, none⟩) m m))
      rw [setB_size] at h
      exact ⟨RcR.mon.go (RcR.stp.go ro (Stp.of (lo := 0) (hi := 0) hal) (.inl (Nat.zero_le _))) (Nat.zero_le _) (by rw [World.size_alloc, setB_size]; omega), own_mono h (by omega), hb9.trans (hal.mono hb9.size)⟩
    have hxr := setB_cells ((hx.block _ zr0).trans HX0.out) (.int .i64 key) (.slice none 0 0) (.int .i64 0) (.int .i64 key) (.slice none 0 0) (.slice (some ⟨g, 0, none⟩) 1 1) (.slice (some ⟨x0.heap.size, 0, none⟩) m m) (.cells cs 130)
    have y0 := bx_cell hxr 0 _ rfl
    have y1 := bx_cell hxr 1 _ rfl
    have y2 := bx_cell hxr 2 _ rfl
    have y3 := bx_cell hxr 3 _ rfl
    have y4 := bx_cell hxr 4 _ rfl
    have y5 := bx_cell hxr 5 _ rfl
    have y6 := bx_cell hxr 6 _ rfl
    clear hxr
    clear hmk hring hx
    go_wp2
    refine bodyPost_ret (v := balv key (.slice none 0 0) 0 key (.slice none 0 0) (.slice (some ⟨g, 0, none⟩) 1 1) (.slice (some ⟨x0.heap.size, 0, none⟩) m m)) (by simp [results, Try.results17, go_sem, q0, q1, q2, q3, q4, q5, q6, y0, y1, y2, y3, y4, y5, y6]) rfl ⟨g, x0.heap.size, rfl, HFI.out.1, HFI.out.2.1, HFI.out.2.2⟩
  · have HFI : Hid (RcR 0 ((setB x0 w.heap.size (.int .i64 key) (.slice none 0 0) (.int .i64 0) (.int .i64 key) (.slice none 0 0) (.slice (some ⟨g, 0, none⟩) 1 1) (.slice (some ⟨W0.heap.size, 0, none⟩) m m))).heap.size (setB x0 w.heap.size (.int .i64 key) (.slice none 0 0) (.int .i64 0) (.int .i64 key) (.slice none 0 0) (.slice (some ⟨g, 0, none⟩) 1 1) (.slice (some ⟨W0.heap.size, 0, none⟩) m m)) (.slice (some ⟨g, 0, none⟩) 1 1) (ringT key [[]]) ∧ ownS (setB x0 w.heap.size (.int .i64 key) (.slice none 0 0) (.int .i64 0) (.int .i64 key) (.slice none 0 0) (.slice (some ⟨g, 0, none⟩) 1 1) (.slice (some ⟨W0.heap.size, 0, none⟩) m m)) w.heap.size (.slice (some ⟨W0.heap.size, 0, none⟩) m m) (List.replicate m sl0) ∧ Below w.heap.size w (setB x0 w.heap.size (.int .i64 key) (.slice none 0 0) (.int .i64 0) (.int .i64 key) (.slice none 0 0) (.slice (some ⟨g, 0, none⟩) 1 1) (.slice (some ⟨W0.heap.size, 0, none⟩) m m))) := by
      have s9 := stp_setB x0 w.heap.size (.int .i64 key) (.slice none 0 0) (.int .i64 0) (.int .i64 key) (.slice none 0 0) (.slice (some ⟨g, 0, none⟩) 1 1) (.slice (some ⟨W0.heap.size, 0, none⟩) m m)
      have hx0 := hx.size
      have ro := RcR.stp.go (RcR.mon.go (ring_rcB hring) (show w.heap.size + 1 ≤ _ by (try simp) <;> omega) (Nat.le_refl _)) s9 (.inl (Nat.le_refl _))
      have hb9 := setB_below (HB.out.trans (hx.mono hbw)) (Nat.le_refl _) (.int .i64 key) (.slice none 0 0) (.int .i64 0) (.int .i64 key) (.slice none 0 0) (.slice (some ⟨g, 0, none⟩) 1 1) (.slice (some ⟨W0.heap.size, 0, none⟩) m m)
      exact ⟨RcR.mon.go ro (Nat.zero_le _) (by rw [setB_size]; exact Nat.le_refl _), own_mono (InRow.step (InRow.of ho) s9 (.inl (by omega))).1 (by omega), hb9⟩
    clear hmk hring hx ho
    go_wp2
    refine bodyPost_ret (v := balv key (.slice none 0 0) 0 key (.slice none 0 0) (.slice (some ⟨g, 0, none⟩) 1 1) (.slice (some ⟨W0.heap.size, 0, none⟩) m m)) (by simp [results, Try.results17, go_sem, q0, q1, q2, q3, q4, q5, q6]) rfl ⟨g, W0.heap.size, rfl, HFI.out.1, HFI.out.2.1, HFI.out.2.2⟩

set_option maxRecDepth 100000 in
set_option maxHeartbeats 4000000 in
theorem specBalNew_any (key size : Int) (w : World) :
    Calls Try.prog 5 #[.int .i64 key, .int .i64 size] w fun e w' => ∃ v, e = .returned (.tuple #[v, .bool (bnewB key size)]) ∧ OwBm w.heap.size w'.heap.size w' v (bnewM key size) ∧ Below w.heap.size w w' := by
  have HBM := hide (show bnewM key size = if bnewB key size = true then ⟨⟨key, [], 0⟩, pnewM key, newM size⟩ else bm0 from rfl)
  have HBB := hide (show bnewB key size = (keyB key && newB size) from rfl)
  have HKE := hide (fun W => l3key_any key W)
  obtain ⟨W0, hW0⟩ : ∃ W, (w.alloc (.cells #[.int .i64 0, .slice none 0 0, .int .i64 0, .int .i64 0, .slice none 0 0, .slice none 0 0, .slice none 0 0] 33)) = W := ⟨_, rfl⟩
  have hb_W0 : Below w.heap.size w W0 := by rw [← hW0]; exact ((Below.refl _ _).alloc (Nat.le_refl _) _)
  have HB := hide hb_W0
  clear hb_W0
  have zr : w.heap.size < W0.heap.size := by rw [← hW0]; simp
  have r0 : W0.cell? ⟨w.heap.size, 0, none⟩ = some (.int .i64 0) := by rw [← hW0]; simp [go_sem]
  have r1 : W0.cell? ⟨w.heap.size, 1, none⟩ = some (.slice none 0 0) := by rw [← hW0]; simp [go_sem]
  have r2 : W0.cell? ⟨w.heap.size, 2, none⟩ = some (.int .i64 0) := by rw [← hW0]; simp [go_sem]
  have r3 : W0.cell? ⟨w.heap.size, 3, none⟩ = some (.int .i64 0) := by rw [← hW0]; simp [go_sem]
  have r4 : W0.cell? ⟨w.heap.size, 4, none⟩ = some (.slice none 0 0) := by rw [← hW0]; simp [go_sem]
  have r5 : W0.cell? ⟨w.heap.size, 5, none⟩ = some (.slice none 0 0) := by rw [← hW0]; simp [go_sem]
  have r6 : W0.cell? ⟨w.heap.size, 6, none⟩ = some (.slice none 0 0) := by rw [← hW0]; simp [go_sem]
  have fr0 : W0.frozen? ⟨w.heap.size, 0, none⟩ = false := by rw [← hW0]; simp [go_sem]
  have fr1 : W0.frozen? ⟨w.heap.size, 1, none⟩ = false := by rw [← hW0]; simp [go_sem]
  have fr2 : W0.frozen? ⟨w.heap.size, 2, none⟩ = false := by rw [← hW0]; simp [go_sem]
  have fr3 : W0.frozen? ⟨w.heap.size, 3, none⟩ = false := by rw [← hW0]; simp [go_sem]
  have fr4 : W0.frozen? ⟨w.heap.size, 4, none⟩ = false := by rw [← hW0]; simp [go_sem]
  have fr5 : W0.frozen? ⟨w.heap.size, 5, none⟩ = false := by rw [← hW0]; simp [go_sem]
  have fr6 : W0.frozen? ⟨w.heap.size, 6, none⟩ = false := by rw [← hW0]; simp [go_sem]
  have hzr := zr
  cases hk : keyB key with
  | false =>
    rw [hk] at HKE HBB
    rw [HBB.out] at HBM
    clear hk
    go_enter Try.func5, Try.ntmps5
    go_wp2_with fail
    refine (HKE.out _).mono ?_
    rintro e _ ⟨rfl, rfl⟩
    go_wp2
    refine bodyPost_ret (v := .tuple #[balv 0 (.slice none 0 0) 0 0 (.slice none 0 0) (.slice none 0 0) (.slice none 0 0), .bool false]) (by simp [results, Try.results5, go_sem, r0, r1, r2, r3, r4, r5, r6]) rfl ⟨_, by rw [HBB.out]; rfl, ?_, setB_below HB.out (Nat.le_refl _) _ _ _ _ _ _ _⟩
    rw [HBM.out]
    exact bm0_ow _ _ _
  | true =>
    have HK := hide hk
    by_cases hn : 1 ≤ size ∧ size ≤ 16
    · have hnb : newB size = true := by simp [newB]; omega
      rw [hk, hnb] at HBB
      rw [hk] at HKE
      rw [HBB.out] at HBM
      clear hk hnb
      obtain ⟨m, rfl⟩ : ∃ m : Nat, size = m := ⟨size.toNat, by omega⟩
      have HPM := hide (show pnewM key = ⟨key, [], ringT key [[]]⟩ by unfold pnewM; rw [if_pos HK.out])
      have HNM := hide (show newM (m : Int) = List.replicate m sl0 by unfold newM; rw [if_pos hn]; simp)
      have i1 : ¬ ((m : Int) < 1) := by omega
      have i2 : ¬ (16 < (m : Int)) := by omega
      go_enter Try.func5, Try.ntmps5
      go_wp2_with fail
      refine (HKE.out _).mono ?_
      rintro e _ ⟨rfl, rfl⟩
      go_wp2_with fail
      refine (l7new_any key m W0 HK.out (by omega)).mono ?_
      rintro e v1 ⟨g, tb, rfl, hring, ho, hb⟩
      have HRG := hide hring
      have HOS := hide ho
      clear hring ho
      replace r0 := bC hb r0 zr
      replace r1 := bC hb r1 zr
      replace r2 := bC hb r2 zr
      replace r3 := bC hb r3 zr
      replace r4 := bC hb r4 zr
      replace r5 := bC hb r5 zr
      replace r6 := bC hb r6 zr
      replace fr0 := bF hb fr0 zr
      replace fr1 := bF hb fr1 zr
      replace fr2 := bF hb fr2 zr
      replace fr3 := bF hb fr3 zr
      replace fr4 := bF hb fr4 zr
      replace fr5 := bF hb fr5 zr
      replace fr6 := bF hb fr6 zr
      replace zr := Nat.lt_of_lt_of_le zr hb.size
      replace HB := hide (HB.out.trans (hb.mono HB.out.size))
      clear hb
      have hz1 : w.heap.size + 1 ≤ v1.heap.size := zr
      have HL : Hid (Calls Try.prog 16 #[balv key (.slice none 0 0) 0 key (.slice none 0 0) (.slice (some ⟨g, 0, none⟩) 1 1) (.slice (some ⟨tb, 0, none⟩) m m)] v1 fun e w' => ∃ v, e = .returned v ∧ OwBm v1.heap.size w'.heap.size w' v ⟨⟨key, [], 0⟩, ⟨key, [], ringT key [[]]⟩, List.replicate m sl0⟩ ∧ Below v1.heap.size v1 w') := by
        obtain ⟨b9, f9, e9, hb9, r9⟩ : ∃ b off, (some ⟨tb, 0, none⟩ : Option Addr) = some ⟨b, off, none⟩ ∧ b < v1.heap.size ∧ ∀ i, i < (List.replicate m sl0).length → ∀ j, j < layS.k → v1.cell? ⟨b, off + i * layS.k + j, none⟩ = (layS.cs ((List.replicate m sl0).getD i layS.d))[j]? := by
          rcases ownL.rds (L := layS) HOS.out with h | h
          · exact absurd (congrArg List.length h) (by rw [List.length_replicate]; simp; omega)
          · exact h
        injection e9 with e9
        injection e9 with e91 e92 _
        subst e91 e92
        exact l7own_go key none 0 0 0 key none 0 0 (some ⟨g, 0, none⟩) 1 1 tb 0 m m [] [] (ringT key [[]]) (List.replicate m sl0) v1 rfl rfl rfl (List.length_replicate ..).symm (.inl rfl) (fun _ => rfl) (.inl rfl) (fun _ => rfl) HRG.out hb9 r9 ⟨by simp, ringT_fit key [] [[]] (by simp) (by simp), by rw [List.length_replicate]; omega⟩
      go_wp2_with fail
      refine (HL.out).mono ?_
      rintro e v2 ⟨v9, rfl, hin, hb⟩
      have HIN := hide hin
      clear hin
      replace r0 := bC hb r0 zr
      replace r1 := bC hb r1 zr
      replace r2 := bC hb r2 zr
      replace r3 := bC hb r3 zr
      replace r4 := bC hb r4 zr
      replace r5 := bC hb r5 zr
      replace r6 := bC hb r6 zr
      replace fr0 := bF hb fr0 zr
      replace fr1 := bF hb fr1 zr
      replace fr2 := bF hb fr2 zr
      replace fr3 := bF hb fr3 zr
      replace fr4 := bF hb fr4 zr
      replace fr5 := bF hb fr5 zr
      replace fr6 := bF hb fr6 zr
      replace zr := Nat.lt_of_lt_of_le zr hb.size
      replace HB := hide (HB.out.trans (hb.mono HB.out.size))
      clear hb
      obtain ⟨o9, c9, ob9, cb9, oR9, cR9, ot9, ct9, e9⟩ := HIN.out.rd.opn
      have e9' : v9 = balv key (.slice o9 0 c9) 0 key (.slice ob9 0 cb9) (.slice oR9 1 cR9) (.slice ot9 m ct9) := by rw [e9, List.length_replicate]; rfl
      subst e9'
      clear e9
      skip
      go_wp2
      refine bodyPost_ret (v := .tuple #[balv key (.slice o9 0 c9) 0 key (.slice ob9 0 cb9) (.slice oR9 1 cR9) (.slice ot9 m ct9), .bool true]) (by simp [results, Try.results5, go_sem, r0, r1, r2, r3, r4, r5, r6]) rfl ⟨_, by rw [HBB.out]; rfl, ?_, setB_below HB.out (Nat.le_refl _) _ _ _ _ _ _ _⟩
      rw [HBM.out, HPM.out, HNM.out]
      have s9 := stp_setB v2 w.heap.size (.int .i64 key) (.slice o9 0 c9) (.int .i64 0) (.int .i64 key) (.slice ob9 0 cb9) (.slice oR9 1 cR9) (.slice ot9 m ct9)
      rw [setB_size]
      exact (HIN.out.step s9 (.inl hz1)).mono (by omega) (Nat.le_refl _)
    · have hnb : newB size = false := by simp [newB]; omega
      rw [hk, hnb] at HBB
      rw [hk] at HKE
      rw [HBB.out] at HBM
      clear hk hnb
      by_cases h1 : size < 1
      · clear hn
        go_enter Try.func5, Try.ntmps5
        go_wp2_with fail
        refine (HKE.out _).mono ?_
        rintro e _ ⟨rfl, rfl⟩
        go_wp2
        refine bodyPost_ret (v := .tuple #[balv 0 (.slice none 0 0) 0 0 (.slice none 0 0) (.slice none 0 0) (.slice none 0 0), .bool false]) (by simp [results, Try.results5, go_sem, r0, r1, r2, r3, r4, r5, r6]) rfl ⟨_, by rw [HBB.out]; rfl, ?_, setB_below HB.out (Nat.le_refl _) _ _ _ _ _ _ _⟩
        rw [HBM.out]
        exact bm0_ow _ _ _
      · have h2 : 16 < size := by omega
        clear hn
        go_enter Try.func5, Try.ntmps5
        go_wp2_with fail
        refine (HKE.out _).mono ?_
        rintro e _ ⟨rfl, rfl⟩
        go_wp2
        refine bodyPost_ret (v := .tuple #[balv 0 (.slice none 0 0) 0 0 (.slice none 0 0) (.slice none 0 0) (.slice none 0 0), .bool false]) (by simp [results, Try.results5, go_sem, r0, r1, r2, r3, r4, r5, r6]) rfl ⟨_, by rw [HBB.out]; rfl, ?_, setB_below HB.out (Nat.le_refl _) _ _ _ _ _ _ _⟩
        rw [HBM.out]
        exact bm0_ow _ _ _

end Go.Proofs.Ytfmnhdemhbbjlaa

