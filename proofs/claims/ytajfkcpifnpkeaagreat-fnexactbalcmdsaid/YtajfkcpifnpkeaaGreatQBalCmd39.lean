/- Several texts in one: SPdo, SPdo2, OpenP, CutP, Cut4, NoteMath, BalMath, SCmdI, ShBal2, ShBal3, BalIn. -/
import Derived.Deep.RegionHeld3
import Derived.Deep.CutRange
import Derived.BigQuiet
import Derived.Test.YtajfkcpifnpkeaaGreatQBalCmd38
import Derived.Test.YtajfkcpifnpkeaaGreatQBalCmd10
import Derived.Test.YtajfkcpifnpkeaaGreatQBalCmd36
import Derived.Test.YtajfkcpifnpkeaaGreatQBalCmd32
import Derived.Test.YtajfkcpifnpkeaaGreatQBalCmd35
import Derived.Test.YtajfkcpifnpkeaaGreatQBalCmd29
/- PoolDo, on both sides. -/
namespace Go.Proofs.YtajfkcpifnpkeaaGreat
open Go.ChangeShapes Go.WideShapes Go.ChangeAt Go.RowKit Go.Joins
set_option linter.unusedVariables false
set_option linter.unusedSimpArgs false

/-- What PoolDo tells. -/
def pdoM (m : Pm) (k i g : Int) : Pm := if (poolB m && cmdOkB k i g) = true then (match doL m.l k i g with | none => m | some l => ⟨m.key, l, (newT m.key l :: m.ring).take 3⟩) else pm0
def pdoF (m : Pm) (k i g : Int) : Bool := (poolB m && cmdOkB k i g) && (doL m.l k i g).isSome
theorem pool_facts {m : Pm} (h : poolB m = true) : keyB m.key = true ∧ backsOkB m.l = true ∧ 1 ≤ m.ring.length ∧ m.ring.length ≤ 3 ∧ ∀ i, i < m.ring.length → tabOkB (m.ring.getD i []) = true := by
 unfold poolB at h
 simp only [Bool.and_eq_true, decide_eq_true_eq, List.all_eq_true, List.mem_range] at h
 obtain ⟨⟨⟨⟨⟨h1, h2⟩, h3⟩, h4⟩, h5⟩, h6⟩ := h
 exact ⟨h1, h2, h3, h4, h5⟩
theorem pair_len {l : List Int} (h : pairOkB l = true) : l.length ≤ 2 := by
 unfold pairOkB at h
 simp only [Bool.or_eq_true, Bool.and_eq_true, decide_eq_true_eq] at h
 omega
theorem tab_back {ll : List (List Int)} (h : tabOkB ll = true) : ptLL (tabF ll) = ll := by
 obtain ⟨h8, hp⟩ := tab_pair h
 apply List.ext_getElem
 ·rw [ptLL_len, h8]
 ·intro i h1 h2
  have hi : i < 8 := by rw [ptLL_len] at h1; exact h1
  have e : ll.getD i [] = ll[i] := by simp [h2]
  have := ipList_of (hp i hi)
  rw [e] at this
  simp [ptLL, tabF, h2, this]
theorem tabs_back {R : List (List (List Int))} (h : ∀ i, i < R.length → tabOkB (R.getD i []) = true) : (R.map tabF).map ptLL = R := by
 apply List.ext_getElem
 ·simp
 ·intro i h1 h2
  have := tab_back (h i h2)
  have e : R.getD i [] = R[i] := by simp [h2]
  rw [e] at this
  simp [this]
theorem tabs_next {key : Int} {l : List Bk} {R : List (List (List Int))} (hl : backsOkB l = true) (h : ∀ i, i < R.length → tabOkB (R.getD i []) = true) : (newF key l :: (R.map tabF).take 2).map ptLL = (newT key l :: R).take 3 := by
 rw [List.map_cons, ptLL_new key hl, List.map_take, tabs_back h]
 rfl
theorem take_getD {α : Type} (l : List α) (n i : Nat) (d : α) (h : i < n) : (l.take n).getD i d = l.getD i d := by
 rw [List.getD_eq_getElem?_getD, List.getElem?_take, if_pos h, ← List.getD_eq_getElem?_getD]
theorem rc_cons {w : World} {base C : Nat} {oR2 o3 : Option Addr} {n2 cR2 c3 : Nat} {hsR hs3 : List Hd} {key : Int} {l : List Bk} {R : List (List (List Int))} (hC : C ≤ w.heap.size) (ho : ownL layH 152 w base (.slice oR2 n2 cR2) (((o3, 8, c3) :: hsR).take 3)) (h3 : ownL layH 175 w base (.slice o3 8 c3) hs3) (ht : Tab (fun b => pairI key b l) 8 w base hs3) (hl : hsR.length = R.length) (hr : ∀ i, i < R.length → RcT 0 C w (hv hsR i) (R.getD i [])) : RcR 0 w.heap.size w (.slice oR2 n2 cR2) ((newT key l :: R).take 3) := by
 refine ⟨((o3, 8, c3) :: hsR).take 3, by simp [hl], (InRow.ri (InRow.of ho)).mono (Nat.zero_le _) (Nat.le_refl _), fun i hi => ?_⟩
 have hi3 : i < 3 := by simp at hi; omega
 have e1 : hv (((o3, 8, c3) :: hsR).take 3) i = hv ((o3, 8, c3) :: hsR) i := by unfold hv; rw [take_getD _ _ _ _ hi3]
 have e2 : ((newT key l :: R).take 3).getD i [] = (newT key l :: R).getD i [] := take_getD _ _ _ _ hi3
 rw [e1, e2]
 cases i with
 | zero =>
  have h5 := tab_new ht
  refine ⟨hs3, h5.len, (InRow.ri (InRow.of h3)).mono (Nat.zero_le _) (Nat.le_refl _), fun j hj => ⟨(InRow.ri (InRow.of (h5.row j hj))).mono (Nat.zero_le _) (Nat.le_refl _), InRow.cap (InRow.of (h5.row j hj))⟩⟩
 | succ i =>
  have hi' : i < R.length := by simp at hi; omega
  exact RcT.mon.go (hr i hi') (Nat.le_refl _) hC
theorem pdo_fit {m : Pm} (k i g : Int) (h : fitPm m) : fitPm (pdoM m k i g) := by
 unfold pdoM
 split
 ·next hb =>
  split
  ·exact h
  ·next l hl =>
   simp only [Bool.and_eq_true] at hb
   obtain ⟨h1, h2, h3, h4, h5⟩ := pool_facts hb.1
   have hok := doL_ok h2 hb.2 hl
   have hlen := backs_len hok
   have hrow : ∀ q, q < ((newT m.key l :: m.ring).take 3).length → (((newT m.key l :: m.ring).take 3).getD q []).length = 8 ∧ ∀ j, ((((newT m.key l :: m.ring).take 3).getD q []).getD j []).length ≤ 2 := fun q hq => by
    have hq3 : q < 3 := by simp at hq; omega
    have e2 : ((newT m.key l :: m.ring).take 3).getD q [] = (newT m.key l :: m.ring).getD q [] := take_getD _ _ _ _ hq3
    rw [e2]
    cases q with
    | zero => exact ⟨newT_len _ _, fun j => newT_row _ _ j⟩
    | succ q =>
     have hq' : q < m.ring.length := by simp at hq; omega
     obtain ⟨t8, tp⟩ := tab_pair (h5 q hq')
     refine ⟨t8, fun j => ?_⟩
     by_cases hj : j < 8
     ·exact pair_len (tp j hj)
     ·show ((m.ring.getD q []).getD j []).length ≤ 2
      rw [List.getD_eq_getElem?_getD, List.getElem?_eq_none (by omega)]; simp
   have hl3 : ((newT m.key l :: m.ring).take 3).length ≤ 3 := by simp; omega
   have hsz : ∀ q, lenR ((newT m.key l :: m.ring).take 3) q ≤ 16 := fun q => by
    by_cases hq : q < ((newT m.key l :: m.ring).take 3).length
    ·unfold lenR szT
     have := sumN_bd (lenT (((newT m.key l :: m.ring).take 3).getD q [])) 2 (fun j => (hrow q hq).2 j) (((newT m.key l :: m.ring).take 3).getD q []).length
     rw [(hrow q hq).1] at this ⊢
     omega
    ·unfold lenR; rw [List.getD_eq_getElem?_getD, List.getElem?_eq_none (by omega)]; exact Nat.zero_le _
   refine ⟨by show l.length ≤ _; omega, by show ((newT m.key l :: m.ring).take 3).length ≤ _; omega, ?_, fun q hq => ?_, fun q hq j hj => ?_⟩
   ·have := sumN_bd (lenR ((newT m.key l :: m.ring).take 3)) 16 hsz ((newT m.key l :: m.ring).take 3).length
    show sumN (lenR ((newT m.key l :: m.ring).take 3)) ((newT m.key l :: m.ring).take 3).length ≤ _
    have hm : 16 * ((newT m.key l :: m.ring).take 3).length ≤ 48 := by omega
    omega
   ·have := (hrow q hq).1
    show (((newT m.key l :: m.ring).take 3).getD q []).length ≤ _
    omega
   ·have := (hrow q hq).2 j
    show ((((newT m.key l :: m.ring).take 3).getD q []).getD j []).length ≤ _
    omega
 ·exact ⟨by simp [pm0], by simp [pm0], by simp [pm0, szR, sumN], fun i hi => absurd hi (Nat.not_lt_zero _), fun i hi => absurd hi (Nat.not_lt_zero _)⟩

end Go.Proofs.YtajfkcpifnpkeaaGreat

/- PoolDo, on both sides: the walks. -/
namespace Go.Proofs.YtajfkcpifnpkeaaGreat
open Go.ChangeShapes Go.WideShapes Go.ChangeAt Go.RowKit Go.Joins
set_option linter.unusedVariables false
set_option linter.unusedSimpArgs false


set_option maxRecDepth 100000 in
set_option maxHeartbeats 8000000 in
theorem implPoolDo_sh (v : Value) (m : Pm) (k i g : Int) (w : World) (hR : RcPm 0 w.heap.size w v m) (hf : fitPm m) :
  Calls Tryz.prog 122 #[v, cmd k i g] w fun e w' => ∃ v', e = .returned (.tuple #[v', .bool (pdoF m k i g)]) ∧ InPm w.heap.size w'.heap.size w' v' (pdoM m k i g) ∧ Below w.heap.size w w' := by
 obtain ⟨vb, vr, rfl, hvb, hcb, rr, hcr⟩ := hR
 obtain ⟨o, c, rfl, r⟩ := hvb.open
 have hnil : o = none → c = 0 := fun e => hcb _ _ (by rw [e])
 obtain ⟨oR, cR, rfl⟩ := RiR.len (RcR.ri rr)
 have hnilR : oR = none → cR = 0 := fun e => hcr _ _ (by rw [e])
 clear hvb hcb hcr
 obtain ⟨key, l, lll⟩ := m
 dsimp only at *
 have HPM := hide (show pdoM ⟨key, l, lll⟩ k i g = if (poolB ⟨key, l, lll⟩ && cmdOkB k i g) = true then (match doL l k i g with | none => ⟨key, l, lll⟩ | some l' => ⟨key, l', (newT key l' :: lll).take 3⟩) else pm0 from rfl)
 have HPF := hide (show pdoF ⟨key, l, lll⟩ k i g = ((poolB ⟨key, l, lll⟩ && cmdOkB k i g) && (doL l k i g).isSome) from rfl)
 have HFA := hide (fun h : poolB ⟨key, l, lll⟩ = true => pool_facts h)
 have HFIT := hide hf
 obtain ⟨hf1, hf2, hf3, hf4, hf5⟩ := hf
 dsimp only at hf1 hf2 hf3 hf4 hf5
 clear hf3 hf4 hf5
 obtain ⟨W0, hW0⟩ : ∃ W, (((w.alloc (.cells #[.int .i64 key, .slice o l.length c, .slice oR lll.length cR] 41)).alloc (.cells #[.int .i64 k, .int .i64 i, .int .i64 g] 54)).alloc (.cells #[.int .i64 0, .slice none 0 0, .slice none 0 0] 41)) = W := ⟨_, rfl⟩
 have hb_W0 : Below w.heap.size w W0 := by rw [← hW0]; exact ((((Below.refl _ _).alloc (Nat.le_refl _) _).alloc (by simp <;> omega) _).alloc (by simp <;> omega) _)
 have HB := hide hb_W0
 clear hb_W0
 have zz : w.heap.size < W0.heap.size := by rw [← hW0]; simp <;> omega
 have z0 : W0.cell? ⟨w.heap.size, 0, none⟩ = some (.int .i64 key) := by rw [← hW0]; simp [go_sem]
 have z1 : W0.cell? ⟨w.heap.size, 1, none⟩ = some (.slice o l.length c) := by rw [← hW0]; simp [go_sem]
 have z2 : W0.cell? ⟨w.heap.size, 2, none⟩ = some (.slice oR lll.length cR) := by rw [← hW0]; simp [go_sem]
 have zu : w.heap.size + 1 < W0.heap.size := by rw [← hW0]; simp <;> omega
 have u0 : W0.cell? ⟨w.heap.size + 1, 0, none⟩ = some (.int .i64 k) := by rw [← hW0]; simp [go_sem]
 have u1 : W0.cell? ⟨w.heap.size + 1, 1, none⟩ = some (.int .i64 i) := by rw [← hW0]; simp [go_sem]
 have u2 : W0.cell? ⟨w.heap.size + 1, 2, none⟩ = some (.int .i64 g) := by rw [← hW0]; simp [go_sem]
 have zr : w.heap.size + 1 + 1 < W0.heap.size := by rw [← hW0]; simp
 have r0 : W0.cell? ⟨w.heap.size + 1 + 1, 0, none⟩ = some (.int .i64 0) := by rw [← hW0]; simp [go_sem]
 have r1 : W0.cell? ⟨w.heap.size + 1 + 1, 1, none⟩ = some (.slice none 0 0) := by rw [← hW0]; simp [go_sem]
 have r2 : W0.cell? ⟨w.heap.size + 1 + 1, 2, none⟩ = some (.slice none 0 0) := by rw [← hW0]; simp [go_sem]
 have fr0 : W0.frozen? ⟨w.heap.size + 1 + 1, 0, none⟩ = false := by rw [← hW0]; simp [go_sem]
 have fr1 : W0.frozen? ⟨w.heap.size + 1 + 1, 1, none⟩ = false := by rw [← hW0]; simp [go_sem]
 have fr2 : W0.frozen? ⟨w.heap.size + 1 + 1, 2, none⟩ = false := by rw [← hW0]; simp [go_sem]
 have hzr := zr
 have HFR := hide (poolFrom_go key o c l oR cR lll lll.length rfl W0 ((r.kept HB.out (Nat.le_refl _)).le HB.out.size) (RiR.mon.go (RiR.stp.go (RcR.ri rr) (Stp.of (lo := 0) (hi := 0) HB.out) (.inl (Nat.zero_le _))) (Nat.le_refl _) HB.out.size) HFIT.out)
 have HDE := hide (fun W => deedOf_any k i g W)
 have HRL := hide r
 clear r rr
 have hw0 := HB.out.size
 cases hp : poolB ⟨key, l, lll⟩ with
 | false =>
  rw [hp] at HPM HPF
  go_enter Tryz.func122, Tryz.ntmps122
  go_wp2_with fail
  refine HFR.out.mono ?_
  rintro e v1 ⟨vP, rfl, _, h2, hb⟩
  have e2 := h2 hp
  subst e2
  rw [hp]
  clear h2
  replace z0 := bC hb z0 zz
  replace z1 := bC hb z1 zz
  replace z2 := bC hb z2 zz
  replace zz := Nat.lt_of_lt_of_le zz hb.size
  replace u0 := bC hb u0 zu
  replace u1 := bC hb u1 zu
  replace u2 := bC hb u2 zu
  replace zu := Nat.lt_of_lt_of_le zu hb.size
  replace r0 := bC hb r0 zr
  replace r1 := bC hb r1 zr
  replace r2 := bC hb r2 zr
  replace fr0 := bF hb fr0 zr
  replace fr1 := bF hb fr1 zr
  replace fr2 := bF hb fr2 zr
  replace zr := Nat.lt_of_lt_of_le zr hb.size
  replace HB := hide (HB.out.trans (hb.mono HB.out.size))
  clear hb
  have hb1 : Below v1.heap.size v1 (v1.alloc (.cells #[.int .i64 0, .slice none 0 0, .slice none 0 0] 213)) := (Below.refl _ _).alloc (Nat.le_refl _) _
  replace z0 := bC hb1 z0 zz
  replace z1 := bC hb1 z1 zz
  replace z2 := bC hb1 z2 zz
  replace zz := Nat.lt_of_lt_of_le zz hb1.size
  replace u0 := bC hb1 u0 zu
  replace u1 := bC hb1 u1 zu
  replace u2 := bC hb1 u2 zu
  replace zu := Nat.lt_of_lt_of_le zu hb1.size
  replace r0 := bC hb1 r0 zr
  replace r1 := bC hb1 r1 zr
  replace r2 := bC hb1 r2 zr
  replace fr0 := bF hb1 fr0 zr
  replace fr1 := bF hb1 fr1 zr
  replace fr2 := bF hb1 fr2 zr
  replace zr := Nat.lt_of_lt_of_le zr hb1.size
  replace HB := hide (HB.out.trans (hb1.mono HB.out.size))
  clear hb1
  generalize cmdOkB k i g = ck at *
  go_wp2_with fail
  refine (HDE.out _).mono ?_
  rintro e v2 ⟨rfl, hb⟩
  replace z0 := bC hb z0 zz
  replace z1 := bC hb z1 zz
  replace z2 := bC hb z2 zz
  replace zz := Nat.lt_of_lt_of_le zz hb.size
  replace u0 := bC hb u0 zu
  replace u1 := bC hb u1 zu
  replace u2 := bC hb u2 zu
  replace zu := Nat.lt_of_lt_of_le zu hb.size
  replace r0 := bC hb r0 zr
  replace r1 := bC hb r1 zr
  replace r2 := bC hb r2 zr
  replace fr0 := bF hb fr0 zr
  replace fr1 := bF hb fr1 zr
  replace fr2 := bF hb fr2 zr
  replace zr := Nat.lt_of_lt_of_le zr hb.size
  replace HB := hide (HB.out.trans (hb.mono HB.out.size))
  clear hb
  generalize (if ck = true then deedV k i g else .nilIface) = dv
  go_wp2
  refine bodyPost_ret (v := .tuple #[plv 0 (.slice none 0 0) (.slice none 0 0), .bool false]) (by simp [results, Tryz.results122, go_sem, r0, r1, r2]) rfl ⟨plv 0 (.slice none 0 0) (.slice none 0 0), by rw [HPF.out]; simp, ?_, setQ_below HB.out (by omega) _ _ _⟩
  rw [HPM.out, if_neg (by simp)]
  exact pm0_in _ _ _ (setQ_below HB.out (show w.heap.size ≤ w.heap.size + 1 + 1 by omega) _ _ _).size
 | true =>
  obtain ⟨hk, hbo, h1n, h3n, hto⟩ := HFA.out hp
  dsimp only at hk hbo h1n h3n hto
  have HK := hide hk
  have HBK := hide hbo
  have HTO := hide hto
  have hl6 := backs_len hbo
  clear hk hbo hto HFA
  rw [hp] at HPM HPF
  have HP := hide hp
  clear hp
  cases hc : cmdOkB k i g with
  | false =>
   rw [hc] at HDE HPM HPF
   simp only [Bool.false_eq_true, if_false] at HDE
   go_enter Tryz.func122, Tryz.ntmps122
   go_wp2_with fail
   refine HFR.out.mono ?_
   rintro e v1 ⟨vP, rfl, h1, _, hb⟩
   obtain ⟨o2, c2, e2, ow2⟩ := h1 HP.out
   dsimp only at e2 ow2
   subst e2
   rw [HP.out]
   have HOW := hide ow2
   have hs1 := hb.size
   have HRM := hide (own_roomT ow2)
   clear h1 ow2
   have HLM := hide (show (lll.map tabF).length = lll.length by simp)
   obtain ⟨n, hn⟩ : ∃ n, lll.length = n := ⟨_, rfl⟩
   rw [hn] at HOW HLM ⊢
   have HN := hide hn
   clear hn
   replace z0 := bC hb z0 zz
   replace z1 := bC hb z1 zz
   replace z2 := bC hb z2 zz
   replace zz := Nat.lt_of_lt_of_le zz hb.size
   replace u0 := bC hb u0 zu
   replace u1 := bC hb u1 zu
   replace u2 := bC hb u2 zu
   replace zu := Nat.lt_of_lt_of_le zu hb.size
   replace r0 := bC hb r0 zr
   replace r1 := bC hb r1 zr
   replace r2 := bC hb r2 zr
   replace fr0 := bF hb fr0 zr
   replace fr1 := bF hb fr1 zr
   replace fr2 := bF hb fr2 zr
   replace zr := Nat.lt_of_lt_of_le zr hb.size
   replace HB := hide (HB.out.trans (hb.mono HB.out.size))
   clear hb
   obtain ⟨W1, hW1⟩ : ∃ W, (v1.alloc (.cells #[.int .i64 key, .slice o l.length c, .slice o2 n c2] 213)) = W := ⟨_, rfl⟩
   have hb_W1 : Below v1.heap.size v1 W1 := by rw [← hW1]; exact ((Below.refl _ _).alloc (Nat.le_refl _) _)
   replace z0 := bC hb_W1 z0 zz
   replace z1 := bC hb_W1 z1 zz
   replace z2 := bC hb_W1 z2 zz
   replace zz := Nat.lt_of_lt_of_le zz hb_W1.size
   replace u0 := bC hb_W1 u0 zu
   replace u1 := bC hb_W1 u1 zu
   replace u2 := bC hb_W1 u2 zu
   replace zu := Nat.lt_of_lt_of_le zu hb_W1.size
   replace r0 := bC hb_W1 r0 zr
   replace r1 := bC hb_W1 r1 zr
   replace r2 := bC hb_W1 r2 zr
   replace fr0 := bF hb_W1 fr0 zr
   replace fr1 := bF hb_W1 fr1 zr
   replace fr2 := bF hb_W1 fr2 zr
   replace zr := Nat.lt_of_lt_of_le zr hb_W1.size
   replace HOW := hide (own_kept HOW.out hb_W1)
   replace HB := hide (HB.out.trans (hb_W1.mono HB.out.size))
   clear hb_W1
   have zx : v1.heap.size < W1.heap.size := by rw [← hW1]; simp
   have x0 : W1.cell? ⟨v1.heap.size, 0, none⟩ = some (.int .i64 key) := by rw [← hW1]; simp [go_sem]
   have x1 : W1.cell? ⟨v1.heap.size, 1, none⟩ = some (.slice o l.length c) := by rw [← hW1]; simp [go_sem]
   have x2 : W1.cell? ⟨v1.heap.size, 2, none⟩ = some (.slice o2 n c2) := by rw [← hW1]; simp [go_sem]
   have hsW1 := zx
   go_wp2_with fail
   refine (HDE.out W1).mono ?_
   rintro e v2 ⟨rfl, hb⟩
   have hs2 := hb.size
   replace z0 := bC hb z0 zz
   replace z1 := bC hb z1 zz
   replace z2 := bC hb z2 zz
   replace zz := Nat.lt_of_lt_of_le zz hb.size
   replace u0 := bC hb u0 zu
   replace u1 := bC hb u1 zu
   replace u2 := bC hb u2 zu
   replace zu := Nat.lt_of_lt_of_le zu hb.size
   replace r0 := bC hb r0 zr
   replace r1 := bC hb r1 zr
   replace r2 := bC hb r2 zr
   replace fr0 := bF hb fr0 zr
   replace fr1 := bF hb fr1 zr
   replace fr2 := bF hb fr2 zr
   replace zr := Nat.lt_of_lt_of_le zr hb.size
   replace x0 := bC hb x0 zx
   replace x1 := bC hb x1 zx
   replace x2 := bC hb x2 zx
   replace zx := Nat.lt_of_lt_of_le zx hb.size
   replace HOW := hide (own_kept HOW.out hb)
   replace HB := hide (HB.out.trans (hb.mono HB.out.size))
   clear hb
   go_wp2
   refine bodyPost_ret (v := .tuple #[plv 0 (.slice none 0 0) (.slice none 0 0), .bool false]) (by simp [results, Tryz.results122, go_sem, r0, r1, r2]) rfl ⟨plv 0 (.slice none 0 0) (.slice none 0 0), by rw [HPF.out]; simp, ?_, setQ_below HB.out (by omega) _ _ _⟩
   rw [HPM.out, if_neg (by simp)]
   exact pm0_in _ _ _ (setQ_below HB.out (show w.heap.size ≤ w.heap.size + 1 + 1 by omega) _ _ _).size
  | true =>
   have HBA := hide (fun W h1 => backsAfter_any o c l k i g W h1 hnil (by omega) hc)
   have HDO := hide (fun l' h => doL_ok HBK.out hc h (m := l'))
   rw [hc] at HDE HPM HPF
   simp only [if_true] at HDE
   clear hc
   generalize deedV k i g = dv at *
   go_enter Tryz.func122, Tryz.ntmps122
   go_wp2_with fail
   refine HFR.out.mono ?_
   rintro e v1 ⟨vP, rfl, h1, _, hb⟩
   obtain ⟨o2, c2, e2, ow2⟩ := h1 HP.out
   dsimp only at e2 ow2
   subst e2
   rw [HP.out]
   have HOW := hide ow2
   have hs1 := hb.size
   have HRM := hide (own_roomT ow2)
   clear h1 ow2
   have HLM := hide (show (lll.map tabF).length = lll.length by simp)
   obtain ⟨n, hn⟩ : ∃ n, lll.length = n := ⟨_, rfl⟩
   rw [hn] at HOW HLM ⊢
   have HN := hide hn
   clear hn
   replace z0 := bC hb z0 zz
   replace z1 := bC hb z1 zz
   replace z2 := bC hb z2 zz
   replace zz := Nat.lt_of_lt_of_le zz hb.size
   replace u0 := bC hb u0 zu
   replace u1 := bC hb u1 zu
   replace u2 := bC hb u2 zu
   replace zu := Nat.lt_of_lt_of_le zu hb.size
   replace r0 := bC hb r0 zr
   replace r1 := bC hb r1 zr
   replace r2 := bC hb r2 zr
   replace fr0 := bF hb fr0 zr
   replace fr1 := bF hb fr1 zr
   replace fr2 := bF hb fr2 zr
   replace zr := Nat.lt_of_lt_of_le zr hb.size
   replace HB := hide (HB.out.trans (hb.mono HB.out.size))
   clear hb
   obtain ⟨W1, hW1⟩ : ∃ W, (v1.alloc (.cells #[.int .i64 key, .slice o l.length c, .slice o2 n c2] 213)) = W := ⟨_, rfl⟩
   have hb_W1 : Below v1.heap.size v1 W1 := by rw [← hW1]; exact ((Below.refl _ _).alloc (Nat.le_refl _) _)
   replace z0 := bC hb_W1 z0 zz
   replace z1 := bC hb_W1 z1 zz
   replace z2 := bC hb_W1 z2 zz
   replace zz := Nat.lt_of_lt_of_le zz hb_W1.size
   replace u0 := bC hb_W1 u0 zu
   replace u1 := bC hb_W1 u1 zu
   replace u2 := bC hb_W1 u2 zu
   replace zu := Nat.lt_of_lt_of_le zu hb_W1.size
   replace r0 := bC hb_W1 r0 zr
   replace r1 := bC hb_W1 r1 zr
   replace r2 := bC hb_W1 r2 zr
   replace fr0 := bF hb_W1 fr0 zr
   replace fr1 := bF hb_W1 fr1 zr
   replace fr2 := bF hb_W1 fr2 zr
   replace zr := Nat.lt_of_lt_of_le zr hb_W1.size
   replace HOW := hide (own_kept HOW.out hb_W1)
   replace HB := hide (HB.out.trans (hb_W1.mono HB.out.size))
   clear hb_W1
   have zx : v1.heap.size < W1.heap.size := by rw [← hW1]; simp
   have x0 : W1.cell? ⟨v1.heap.size, 0, none⟩ = some (.int .i64 key) := by rw [← hW1]; simp [go_sem]
   have x1 : W1.cell? ⟨v1.heap.size, 1, none⟩ = some (.slice o l.length c) := by rw [← hW1]; simp [go_sem]
   have x2 : W1.cell? ⟨v1.heap.size, 2, none⟩ = some (.slice o2 n c2) := by rw [← hW1]; simp [go_sem]
   have hsW1 := zx
   go_wp2_with fail
   refine (HDE.out W1).mono ?_
   rintro e v2 ⟨rfl, hb⟩
   have hs2 := hb.size
   replace z0 := bC hb z0 zz
   replace z1 := bC hb z1 zz
   replace z2 := bC hb z2 zz
   replace zz := Nat.lt_of_lt_of_le zz hb.size
   replace u0 := bC hb u0 zu
   replace u1 := bC hb u1 zu
   replace u2 := bC hb u2 zu
   replace zu := Nat.lt_of_lt_of_le zu hb.size
   replace r0 := bC hb r0 zr
   replace r1 := bC hb r1 zr
   replace r2 := bC hb r2 zr
   replace fr0 := bF hb fr0 zr
   replace fr1 := bF hb fr1 zr
   replace fr2 := bF hb fr2 zr
   replace zr := Nat.lt_of_lt_of_le zr hb.size
   replace x0 := bC hb x0 zx
   replace x1 := bC hb x1 zx
   replace x2 := bC hb x2 zx
   replace zx := Nat.lt_of_lt_of_le zx hb.size
   replace HOW := hide (own_kept HOW.out hb)
   replace HB := hide (HB.out.trans (hb.mono HB.out.size))
   clear hb
   have HA2 := hide (HBA.out v2 ((HRL.out.kept HB.out (Nat.le_refl _)).le HB.out.size))
   cases hdo : doL l k i g with
   | none =>
    rw [hdo] at HA2 HPM HPF
    simp only [Option.isSome_none] at HA2
    clear hdo
    go_wp2_with fail
    refine (HA2.out).mono ?_
    rintro e v3 ⟨v5, rfl, _, hb⟩
    have hs3 := hb.size
    skip
    replace z0 := bC hb z0 zz
    replace z1 := bC hb z1 zz
    replace z2 := bC hb z2 zz
    replace zz := Nat.lt_of_lt_of_le zz hb.size
    replace u0 := bC hb u0 zu
    replace u1 := bC hb u1 zu
    replace u2 := bC hb u2 zu
    replace zu := Nat.lt_of_lt_of_le zu hb.size
    replace r0 := bC hb r0 zr
    replace r1 := bC hb r1 zr
    replace r2 := bC hb r2 zr
    replace fr0 := bF hb fr0 zr
    replace fr1 := bF hb fr1 zr
    replace fr2 := bF hb fr2 zr
    replace zr := Nat.lt_of_lt_of_le zr hb.size
    replace x0 := bC hb x0 zx
    replace x1 := bC hb x1 zx
    replace x2 := bC hb x2 zx
    replace zx := Nat.lt_of_lt_of_le zx hb.size
    replace HOW := hide (own_kept HOW.out hb)
    replace HB := hide (HB.out.trans (hb.mono HB.out.size))
    clear hb
    have HPL := hide (plain_any key o c l o2 c2 (lll.map tabF) v3 ((HRL.out.kept HB.out (Nat.le_refl _)).le HB.out.size) hnil hf1 (ownL.rds (L := layT) HOW.out) (by rw [HLM.out]; have := HN.out; omega))
    rw [tabs_back HTO.out, HLM.out] at HPL
    go_wp2_with fail
    refine (HPL.out).mono ?_
    rintro e v4 ⟨v9, rfl, hin, hb⟩
    have HIN := hide hin
    have hs4 := hb.size
    clear hin
    obtain ⟨o9, c9, oR9, cR9, e9⟩ : ∃ (o9 : Option Addr) (c9 : Nat) (oR9 : Option Addr) (cR9 : Nat), v9 = plv key (.slice o9 l.length c9) (.slice oR9 lll.length cR9) := HIN.out.opn
    subst e9
    replace z0 := bC hb z0 zz
    replace z1 := bC hb z1 zz
    replace z2 := bC hb z2 zz
    replace zz := Nat.lt_of_lt_of_le zz hb.size
    replace u0 := bC hb u0 zu
    replace u1 := bC hb u1 zu
    replace u2 := bC hb u2 zu
    replace zu := Nat.lt_of_lt_of_le zu hb.size
    replace r0 := bC hb r0 zr
    replace r1 := bC hb r1 zr
    replace r2 := bC hb r2 zr
    replace fr0 := bF hb fr0 zr
    replace fr1 := bF hb fr1 zr
    replace fr2 := bF hb fr2 zr
    replace zr := Nat.lt_of_lt_of_le zr hb.size
    replace x0 := bC hb x0 zx
    replace x1 := bC hb x1 zx
    replace x2 := bC hb x2 zx
    replace zx := Nat.lt_of_lt_of_le zx hb.size
    replace HOW := hide (own_kept HOW.out hb)
    replace HB := hide (HB.out.trans (hb.mono HB.out.size))
    clear hb
    go_wp2
    refine bodyPost_ret (v := .tuple #[plv key (.slice o9 l.length c9) (.slice oR9 lll.length cR9), .bool false]) (by simp [results, Tryz.results122, go_sem, r0, r1, r2]) rfl ⟨plv key (.slice o9 l.length c9) (.slice oR9 lll.length cR9), by rw [HPF.out]; simp, ?_, setQ_below HB.out (by omega) _ _ _⟩
    rw [HPM.out, if_pos (by simp), setQ_size]
    exact InPm.mono (HIN.out.step (stp_setQ v4 (w.heap.size + 1 + 1) _ _ _) (.inl (by omega))) (by omega)
   | some mm =>
    have HOKM := hide (HDO.out mm hdo)
    rw [hdo] at HA2 HPM HPF
    simp only [Option.isSome_some] at HA2
    dsimp only at HPM
    clear hdo HDO HBA
    go_wp2_with fail
    refine (HA2.out).mono ?_
    rintro e v3 ⟨v5, rfl, hown5, hb⟩
    have hs3 := hb.size
    have ow5 := hown5 mm rfl
    obtain ⟨o5, c5, e5, _⟩ := ownL.open (L := layK) ow5
    subst e5
    have HO5 := hide ow5
    clear hown5 ow5
    replace z0 := bC hb z0 zz
    replace z1 := bC hb z1 zz
    replace z2 := bC hb z2 zz
    replace zz := Nat.lt_of_lt_of_le zz hb.size
    replace u0 := bC hb u0 zu
    replace u1 := bC hb u1 zu
    replace u2 := bC hb u2 zu
    replace zu := Nat.lt_of_lt_of_le zu hb.size
    replace r0 := bC hb r0 zr
    replace r1 := bC hb r1 zr
    replace r2 := bC hb r2 zr
    replace fr0 := bF hb fr0 zr
    replace fr1 := bF hb fr1 zr
    replace fr2 := bF hb fr2 zr
    replace zr := Nat.lt_of_lt_of_le zr hb.size
    replace x0 := bC hb x0 zx
    replace x1 := bC hb x1 zx
    replace x2 := bC hb x2 zx
    replace zx := Nat.lt_of_lt_of_le zx hb.size
    replace HOW := hide (own_kept HOW.out hb)
    replace HB := hide (HB.out.trans (hb.mono HB.out.size))
    clear hb
    have hm6 := backs_len HOKM.out
    have HWI := hide (with_any key o l.length c o2 c2 o5 c5 mm v3 (lll.map tabF) (by rw [HLM.out]; have := HN.out; omega) (ownL.rds (L := layT) HOW.out) HRM.out.1 HRM.out.2 (ownL.rds (L := layK) HO5.out) (by omega) HK.out HOKM.out)
    rw [HLM.out] at HWI
    go_wp2_with fail
    refine (HWI.out).mono ?_
    rintro e v6 ⟨o7, c7, rfl, ow7, hb⟩
    have hs6 := hb.size
    have HO7 := hide ow7
    clear ow7
    replace z0 := bC hb z0 zz
    replace z1 := bC hb z1 zz
    replace z2 := bC hb z2 zz
    replace zz := Nat.lt_of_lt_of_le zz hb.size
    replace u0 := bC hb u0 zu
    replace u1 := bC hb u1 zu
    replace u2 := bC hb u2 zu
    replace zu := Nat.lt_of_lt_of_le zu hb.size
    replace r0 := bC hb r0 zr
    replace r1 := bC hb r1 zr
    replace r2 := bC hb r2 zr
    replace fr0 := bF hb fr0 zr
    replace fr1 := bF hb fr1 zr
    replace fr2 := bF hb fr2 zr
    replace zr := Nat.lt_of_lt_of_le zr hb.size
    replace x0 := bC hb x0 zx
    replace x1 := bC hb x1 zx
    replace x2 := bC hb x2 zx
    replace zx := Nat.lt_of_lt_of_le zx hb.size
    replace HOW := hide (own_kept HOW.out hb)
    replace HO5 := hide (own_kept HO5.out hb)
    replace HB := hide (HB.out.trans (hb.mono HB.out.size))
    clear hb
    have HPL := hide (plain_any key o5 c5 mm o7 c7 (newF key mm :: (lll.map tabF).take 2) v6 (ownL.rds (L := layK) HO5.out) (own_capK HO5.out) (by omega) (ownL.rds (L := layT) HO7.out) (by simp; omega))
    rw [tabs_next HOKM.out HTO.out] at HPL
    obtain ⟨nq, hnq⟩ : ∃ q, (newF key mm :: (lll.map tabF).take 2).length = q := ⟨_, rfl⟩
    rw [hnq] at HPL ⊢
    obtain ⟨rg, hrg⟩ : ∃ q, (newT key mm :: lll).take 3 = q := ⟨_, rfl⟩
    rw [hrg] at HPL HPM
    clear hnq hrg
    go_wp2_with fail
    refine (HPL.out).mono ?_
    rintro e v7 ⟨v9, rfl, hin, hb⟩
    have HIN := hide hin
    have hs7 := hb.size
    clear hin
    obtain ⟨o9, c9, oR9, cR9, e9⟩ : ∃ (o9 : Option Addr) (c9 : Nat) (oR9 : Option Addr) (cR9 : Nat), v9 = plv key (.slice o9 mm.length c9) (.slice oR9 rg.length cR9) := HIN.out.opn
    subst e9
    replace z0 := bC hb z0 zz
    replace z1 := bC hb z1 zz
    replace z2 := bC hb z2 zz
    replace zz := Nat.lt_of_lt_of_le zz hb.size
    replace u0 := bC hb u0 zu
    replace u1 := bC hb u1 zu
    replace u2 := bC hb u2 zu
    replace zu := Nat.lt_of_lt_of_le zu hb.size
    replace r0 := bC hb r0 zr
    replace r1 := bC hb r1 zr
    replace r2 := bC hb r2 zr
    replace fr0 := bF hb fr0 zr
    replace fr1 := bF hb fr1 zr
    replace fr2 := bF hb fr2 zr
    replace zr := Nat.lt_of_lt_of_le zr hb.size
    replace x0 := bC hb x0 zx
    replace x1 := bC hb x1 zx
    replace x2 := bC hb x2 zx
    replace zx := Nat.lt_of_lt_of_le zx hb.size
    replace HOW := hide (own_kept HOW.out hb)
    replace HO5 := hide (own_kept HO5.out hb)
    replace HB := hide (HB.out.trans (hb.mono HB.out.size))
    clear hb
    go_wp2
    refine bodyPost_ret (v := .tuple #[plv key (.slice o9 mm.length c9) (.slice oR9 rg.length cR9), .bool true]) (by simp [results, Tryz.results122, go_sem, r0, r1, r2]) rfl ⟨plv key (.slice o9 mm.length c9) (.slice oR9 rg.length cR9), by rw [HPF.out]; simp, ?_, setQ_below HB.out (by omega) _ _ _⟩
    rw [HPM.out, if_pos (by simp), setQ_size]
    exact InPm.mono (HIN.out.step (stp_setQ v7 (w.heap.size + 1 + 1) _ _ _) (.inl (by omega))) (by omega)

end Go.Proofs.YtajfkcpifnpkeaaGreat

/- How a pool that comes in is opened. -/
namespace Go.Proofs.YtajfkcpifnpkeaaGreat
open Go.ChangeShapes Go.WideShapes Go.ChangeAt Go.RowKit Go.Joins
set_option linter.unusedVariables false
set_option linter.unusedSimpArgs false


theorem cellsLawsPool : Tryz.prog.cellsOf 28 = 3 := by kernel_rfl
theorem cellsIntSS : Tryz.prog.cellsOf 152 = 1 := by kernel_rfl
/-- Rows of rows of ints that came in. -/
theorem open_rows3_cells {H : Type} {enc : TypeId × Value → H} {W : World} {fuel : Nat} {cs : List Value} {x : DataW H × List MemPlace} (h : DataW.trod enc Tryz.prog W 0 (fun _ => true) true fuel 26 cs = some x) :
  ∃ (o : Option Addr) (cap : Nat) (ll : List (List (List Int))), cs = [.slice o ll.length cap] ∧ ll.length ≤ maxLen ∧ RiR 0 W.heap.size W (.slice o ll.length cap) ll ∧ (∀ i, i < ll.length → (ll.getD i []).length ≤ maxLen) ∧ ∀ i, i < ll.length → ∀ j, j < (ll.getD i []).length → ((ll.getD i []).getD j []).length ≤ maxLen := by
 rcases Go.Deep.open_slice1 Tryz.underlying26 cellsIntSS h with ⟨hcs, _⟩ | ⟨a, len, cap, m, n, V, D, Pl, hcs, _, hl, hm, hmm, _, hx⟩
 ·exact ⟨none, 0, [], hcs, Nat.zero_le _, ⟨[], rfl, ⟨none, 0, rfl, .inl rfl⟩, fun i hi => absurd hi (Nat.not_lt_zero _)⟩, fun i hi => absurd hi (Nat.not_lt_zero _), fun i hi => absurd hi (Nat.not_lt_zero _)⟩
 ·have hlm : len ≤ m := by rw [hmm]; split <;> omega
  have ex : ∀ i, i < len → ∃ y : Hd × List (List Int), V i = .slice y.1.1 y.1.2.1 y.1.2.2 ∧ y.1.2.1 = y.2.length ∧ y.2.length ≤ maxLen ∧ RdLL W.heap.size W y.1.1 y.2 ∧ ∀ j, j < y.2.length → (y.2.getD j []).length ≤ maxLen := fun i hi => by
   obtain ⟨o', c', l', e, hl', hr, hj⟩ := open_rows_cells (hx i (by omega)).2
   simp at e
   exact ⟨((o', l'.length, c'), l'), e, rfl, hl', hr, hj⟩
  have hne : Inhabited (Hd × List (List Int)) := ⟨((none, 0, 0), [])⟩
  obtain ⟨f, hf⟩ := Go.Deep.choose_lt ex
  have gd : ∀ i, i < len → ((List.range len).map (fun i => (f i).2)).getD i [] = (f i).2 := fun i hi => by simp [hi]
  have gh : ∀ i, i < len → ((List.range len).map (fun i => (f i).1)).getD i (none, 0, 0) = (f i).1 := fun i hi => by simp [hi]
  refine ⟨some a, cap, (List.range len).map (fun i => (f i).2), by simpa using hcs, by simp; omega, ⟨(List.range len).map (fun i => (f i).1), by simp, ⟨some a, cap, by simp, ?_⟩, fun i hi => ?_⟩, fun i hi => ?_, fun i hi => ?_⟩
  ·by_cases h0 : len = 0
   ·left; simp [h0]
   ·right
    obtain ⟨b, off, spot⟩ := a
    have hc := (hx 0 (by omega)).1
    have hspot : spot = none := by simpa [Addr.add] using World.cell?_spot hc
    subst hspot
    have e2 : ∀ j, (⟨b, off, none⟩ : Addr).add j = ⟨b, off + j, none⟩ := fun j => by by_cases h : j = 0 <;> simp [Addr.add, h]
    refine ⟨b, off, rfl, Nat.zero_le _, ?_, fun i hi j hj => ?_⟩
    ·rw [e2] at hc
     rcases Nat.lt_or_ge b W.heap.size with h | h
     ·exact h
     ·simp [World.cell?, Array.getElem?_eq_none h] at hc
    ·have hi' : i < len := by simpa using hi
     have hj' : j = 0 := by have : j < 1 := hj; omega
     subst hj'
     have h1 := (hx i (by omega)).1
     rw [e2] at h1
     rw [show layH.d = (none, 0, 0) from rfl, gh i hi', show layH.k = 1 from rfl, Nat.mul_one, Nat.add_zero, h1, (hf i hi').1]
     rfl
  ·have hi' : i < len := by simpa using hi
   have hv' : hv ((List.range len).map (fun i => (f i).1)) i = .slice (f i).1.1 (f i).2.length (f i).1.2.2 := by unfold hv; rw [gh i hi', (hf i hi').2.1]
   rw [gd i hi', hv']
   exact RiT.of (hf i hi').2.2.2.1
  ·have hi' : i < len := by simpa using hi
   rw [gd i hi']
   exact (hf i hi').2.2.1
  ·have hi' : i < len := by simpa using hi
   rw [gd i hi']
   exact (hf i hi').2.2.2.2
end Go.Proofs.YtajfkcpifnpkeaaGreat

/- A box of a pool that is laid at any place among calls: what its end wants. -/
namespace Go.Proofs.YtajfkcpifnpkeaaGreat
open Go.ChangeShapes Go.WideShapes Go.ChangeAt Go.RowKit Go.Joins
set_option linter.unusedVariables false
set_option linter.unusedSimpArgs false

theorem RiPm.stps : Stps RiPm := ⟨fun h s hd => RiPm.step h s hd⟩
theorem InPm.stps : Stps InPm := ⟨fun h s hd => InPm.step h s hd⟩
theorem block_cellD {W : World} {B : Nat} {c : Array Value} {t : TypeId} (h : W.heap[B]? = some (.cells c t (0, 0))) (j : Nat) (u : Value) (hj : c[j]? = some u) : W.cell? ⟨B, j, none⟩ = some u := bx_cell h j u hj
theorem finD {P : Nat → Nat → World → Value → Pm → Prop} (hP : Stps P) {cur W : World} {B lo hi : Nat} {f : Value} {mr : Pm} {o oR : Option Addr} {c cR : Nat} {z0 z1 z2 : Value} (hZ : W.heap[B]? = some (.cells #[z0, z1, z2] 41 (0, 0))) (hx : Below cur.heap.size cur W) (hB : cur.heap.size ≤ B) (hi' : P lo hi W (plv mr.key (.slice o mr.l.length c) (.slice oR mr.ring.length cR)) mr) (h1 : cur.heap.size ≤ lo) (h2 : hi ≤ W.heap.size) (h3 : B < lo ∨ hi ≤ B) :
  ∃ B' lo hi o' c' oR' cR', Value.pointer (some ⟨B, 0, none⟩) = .pointer (some ⟨B', 0, none⟩) ∧ f = f ∧ Hid ((setP W B (.int .i64 mr.key) (.slice o mr.l.length c) (.slice oR mr.ring.length cR)).heap[B']? = some (.cells #[.int .i64 mr.key, .slice o' mr.l.length c', .slice oR' mr.ring.length cR'] 41 (0, 0))) ∧ Hid (Below cur.heap.size cur (setP W B (.int .i64 mr.key) (.slice o mr.l.length c) (.slice oR mr.ring.length cR))) ∧ cur.heap.size ≤ B' ∧ B' < (setP W B (.int .i64 mr.key) (.slice o mr.l.length c) (.slice oR mr.ring.length cR)).heap.size ∧ Hid (P lo hi (setP W B (.int .i64 mr.key) (.slice o mr.l.length c) (.slice oR mr.ring.length cR)) (plv mr.key (.slice o' mr.l.length c') (.slice oR' mr.ring.length cR')) mr) ∧ cur.heap.size ≤ lo ∧ hi ≤ (setP W B (.int .i64 mr.key) (.slice o mr.l.length c) (.slice oR mr.ring.length cR)).heap.size ∧ (B' < lo ∨ hi ≤ B') := by
 have b1 := box_put hZ 0 (.int .i64 mr.key)
 have b2 := box_put b1 1 (.slice o mr.l.length c)
 have b3 := box_put b2 2 (.slice oR mr.ring.length cR)
 exact ⟨B, lo, hi, o, c, oR, cR, rfl, rfl, b3, setQ_below hx hB _ _ _, hB, (Array.getElem?_eq_some_iff.1 b3).1, hP.go hi' (stp_setQ W B _ _ _) (by omega), h1, by rw [setQ_size]; exact h2, h3⟩
theorem finDn {P : Nat → Nat → World → Value → Pm → Prop} (hP : Stps P) {cur W : World} {lo hi : Nat} {f : Value} {mr : Pm} {o oR : Option Addr} {c cR : Nat} (hx : Below cur.heap.size cur W) (hi' : P lo hi W (plv mr.key (.slice o mr.l.length c) (.slice oR mr.ring.length cR)) mr) (h1 : cur.heap.size ≤ lo) (h2 : hi ≤ W.heap.size) :
  ∃ B' lo hi o' c' oR' cR', Value.pointer (some ⟨W.heap.size, 0, none⟩) = .pointer (some ⟨B', 0, none⟩) ∧ f = f ∧ Hid ((W.alloc (.cells #[.int .i64 mr.key, .slice o mr.l.length c, .slice oR mr.ring.length cR] 41)).heap[B']? = some (.cells #[.int .i64 mr.key, .slice o' mr.l.length c', .slice oR' mr.ring.length cR'] 41 (0, 0))) ∧ Hid (Below cur.heap.size cur (W.alloc (.cells #[.int .i64 mr.key, .slice o mr.l.length c, .slice oR mr.ring.length cR] 41))) ∧ cur.heap.size ≤ B' ∧ B' < (W.alloc (.cells #[.int .i64 mr.key, .slice o mr.l.length c, .slice oR mr.ring.length cR] 41)).heap.size ∧ Hid (P lo hi (W.alloc (.cells #[.int .i64 mr.key, .slice o mr.l.length c, .slice oR mr.ring.length cR] 41)) (plv mr.key (.slice o' mr.l.length c') (.slice oR' mr.ring.length cR')) mr) ∧ cur.heap.size ≤ lo ∧ hi ≤ (W.alloc (.cells #[.int .i64 mr.key, .slice o mr.l.length c, .slice oR mr.ring.length cR] 41)).heap.size ∧ (B' < lo ∨ hi ≤ B') :=
 ⟨W.heap.size, lo, hi, o, c, oR, cR, rfl, rfl, World.alloc_heap_new W _, hx.alloc hx.size _, hx.size, by simp, hP.go hi' (Stp.of (lo := 0) (hi := 0) ((Below.refl _ _).alloc (Nat.le_refl _) _)) (.inl (Nat.zero_le _)), h1, by simp; omega, .inr h2⟩
end Go.Proofs.YtajfkcpifnpkeaaGreat

/- A box of a journal that is laid at any place among calls: what its end wants. -/
namespace Go.Proofs.YtajfkcpifnpkeaaGreat
open Go.ChangeShapes Go.WideShapes Go.ChangeAt Go.RowKit Go.Joins
set_option linter.unusedVariables false
set_option linter.unusedSimpArgs false

theorem InJm.opn {lo hi : Nat} {w : World} {v : Value} {m : Jm} (h : InJm lo hi w v m) : ∃ (o : Option Addr) (c : Nat), v = jrn m.key (.slice o m.l.length c) m.safe := by
 obtain ⟨vl, rfl, ⟨o, c, rfl, _⟩⟩ := h.rd
 exact ⟨o, c, rfl⟩
theorem stp_setP (W : World) (B : Nat) (x y z : Value) : Stp B (B + 1) W (setP W B x y z) :=
 ((Stp.grown (grown_set W B 0 x) (fun b e => by injection e with e; omega)).trans (Stp.grown (grown_set _ B 1 y) (fun b e => by injection e with e; omega))).trans (Stp.grown (grown_set _ B 2 z) (fun b e => by injection e with e; omega))
theorem setP_size (W : World) (B : Nat) (x y z : Value) : (setP W B x y z).heap.size = W.heap.size := by simp [World.setCell]
theorem finN {cur W : World} {B lo hi : Nat} {f : Value} {mr : Jm} {o : Option Addr} {c : Nat} {z0 z1 z2 : Value} (hZ : W.heap[B]? = some (.cells #[z0, z1, z2] 38 (0, 0))) (hx : Below cur.heap.size cur W) (hB : cur.heap.size ≤ B) (hi' : InJm lo hi W (jrn mr.key (.slice o mr.l.length c) mr.safe) mr) (h1 : cur.heap.size ≤ lo) (h2 : hi ≤ W.heap.size) (h3 : B < lo ∨ hi ≤ B) :
  ∃ B' lo hi o' c', Value.pointer (some ⟨B, 0, none⟩) = .pointer (some ⟨B', 0, none⟩) ∧ f = f ∧ Hid ((setP W B (.int .i64 mr.key) (.slice o mr.l.length c) (.int .i64 mr.safe)).heap[B']? = some (.cells #[.int .i64 mr.key, .slice o' mr.l.length c', .int .i64 mr.safe] 38 (0, 0))) ∧ Hid (Below cur.heap.size cur (setP W B (.int .i64 mr.key) (.slice o mr.l.length c) (.int .i64 mr.safe))) ∧ cur.heap.size ≤ B' ∧ B' < (setP W B (.int .i64 mr.key) (.slice o mr.l.length c) (.int .i64 mr.safe)).heap.size ∧ Hid (InJm lo hi (setP W B (.int .i64 mr.key) (.slice o mr.l.length c) (.int .i64 mr.safe)) (jrn mr.key (.slice o' mr.l.length c') mr.safe) mr) ∧ cur.heap.size ≤ lo ∧ hi ≤ (setP W B (.int .i64 mr.key) (.slice o mr.l.length c) (.int .i64 mr.safe)).heap.size ∧ (B' < lo ∨ hi ≤ B') := by
 have b1 := box_put hZ 0 (.int .i64 mr.key)
 have b2 := box_put b1 1 (.slice o mr.l.length c)
 have b3 := box_put b2 2 (.int .i64 mr.safe)
 exact ⟨B, lo, hi, o, c, rfl, rfl, b3, setP_below hx hB _ _ _, hB, (Array.getElem?_eq_some_iff.1 b3).1, InJm.step hi' (stp_setP W B _ _ _) (by omega), h1, by rw [setP_size]; exact h2, h3⟩
theorem finNn {cur W : World} {lo hi : Nat} {f : Value} {mr : Jm} {o : Option Addr} {c : Nat} (hx : Below cur.heap.size cur W) (hi' : InJm lo hi W (jrn mr.key (.slice o mr.l.length c) mr.safe) mr) (h1 : cur.heap.size ≤ lo) (h2 : hi ≤ W.heap.size) :
  ∃ B' lo hi o' c', Value.pointer (some ⟨W.heap.size, 0, none⟩) = .pointer (some ⟨B', 0, none⟩) ∧ f = f ∧ Hid ((W.alloc (.cells #[.int .i64 mr.key, .slice o mr.l.length c, .int .i64 mr.safe] 38)).heap[B']? = some (.cells #[.int .i64 mr.key, .slice o' mr.l.length c', .int .i64 mr.safe] 38 (0, 0))) ∧ Hid (Below cur.heap.size cur (W.alloc (.cells #[.int .i64 mr.key, .slice o mr.l.length c, .int .i64 mr.safe] 38))) ∧ cur.heap.size ≤ B' ∧ B' < (W.alloc (.cells #[.int .i64 mr.key, .slice o mr.l.length c, .int .i64 mr.safe] 38)).heap.size ∧ Hid (InJm lo hi (W.alloc (.cells #[.int .i64 mr.key, .slice o mr.l.length c, .int .i64 mr.safe] 38)) (jrn mr.key (.slice o' mr.l.length c') mr.safe) mr) ∧ cur.heap.size ≤ lo ∧ hi ≤ (W.alloc (.cells #[.int .i64 mr.key, .slice o mr.l.length c, .int .i64 mr.safe] 38)).heap.size ∧ (B' < lo ∨ hi ≤ B') :=
 ⟨W.heap.size, lo, hi, o, c, rfl, rfl, World.alloc_heap_new W _, hx.alloc hx.size _, hx.size, by simp, InJm.step hi' (Stp.of (lo := 0) (hi := 0) ((Below.refl _ _).alloc (Nat.le_refl _) _)) (.inl (Nat.zero_le _)), h1, by simp; omega, .inr h2⟩
end Go.Proofs.YtajfkcpifnpkeaaGreat

/- What is noted is replayed; what is replayed may be. -/
namespace Go.Proofs.YtajfkcpifnpkeaaGreat
open Go.ChangeShapes Go.WideShapes Go.ChangeAt Go.RowKit Go.Joins
set_option linter.unusedVariables false
set_option linter.unusedSimpArgs false

theorem run_snoc {cs : List Cd} {a i g : Int} {m : List Bk} (hr : (runTo cs cs.length).isSome = true) (hok : cmdOkB a i g = true) (hd : doL (servedOf cs cs.length) a i g = some m) : (runTo (cs ++ [(a, i, g)]) (cs ++ [(a, i, g)]).length).isSome = true := by
 obtain ⟨l, hl⟩ := Option.isSome_iff_exists.1 hr
 have e1 : servedOf cs cs.length = l := by unfold servedOf; rw [hl]; rfl
 rw [e1] at hd
 have e2 : runTo (cs ++ [(a, i, g)]) (cs ++ [(a, i, g)]).length = stepO (runTo cs cs.length) (a, i, g) := by
  unfold runTo
  rw [List.take_length, List.take_length, List.foldl_append]
  rfl
 rw [e2, hl]
 unfold stepO
 simp [hok, hd]
theorem run_pre {cs : List Cd} {c : Cd} : ∀ q, q ≤ cs.length → runTo (cs ++ [c]) q = runTo cs q := fun q h => by
 unfold runTo
 rw [List.take_append_of_le_length h]
theorem ring_pre {cs : List Cd} {c : Cd} : ∀ q, q ≤ cs.length → ringR (cs ++ [c]) q = ringR cs q
 | 0, _ => rfl
 | q + 1, h => by
  unfold ringR
  rw [ring_pre q (by omega)]
  unfold servedOf
  rw [run_pre (q + 1) h]
theorem ring_head (cs : List Cd) : ∀ q, (ringR cs q).getD 0 [] = servedOf cs q
 | 0 => rfl
 | q + 1 => by unfold ringR; simp
theorem ring_each {key safe : Int} {cs : List Cd} (h : journalB key cs safe = true) : ∀ q, q ≤ cs.length → ∀ l ∈ ringR cs q, backsOkB l = true
 | 0, _, l, hl => by
  have : l = [] := by simpa [ringR] using hl
  subst this
  exact (served_each h 0 (by omega)).1
 | q + 1, hq, l, hl => by
  unfold ringR at hl
  have hl := List.mem_of_mem_take hl
  rcases List.mem_cons.1 hl with e | hl
  ·rw [e]; exact (served_each h (q + 1) (by omega)).1
  ·exact ring_each h q (by omega) l hl
theorem ring_pos (cs : List Cd) : ∀ q, 1 ≤ (ringR cs q).length
 | 0 => by simp [ringR]
 | q + 1 => by unfold ringR; simp
theorem replay_pool {m : Jm} (h : journalB m.key m.l m.safe = true) : poolB (replayM m) = true := by
 have e : replayM m = ⟨m.key, servedOf m.l m.l.length, ringT m.key (ringR m.l m.l.length)⟩ := by unfold replayM; rw [if_pos h]
 have hr := ringR_len m.l m.l.length
 have hp := ring_pos m.l m.l.length
 have hlen : (ringT m.key (ringR m.l m.l.length)).length = (ringR m.l m.l.length).length := by simp [ringT]
 have hso := (served_each h m.l.length (by omega)).1
 rw [e]
 refine pool_rest (journal_facts h).1 hso (by dsimp only; omega) (by dsimp only; omega) (fun i hi => ?_) ?_
 ·dsimp only at hi ⊢
  rw [ringT_get _ _ _ (by omega)]
  refine tabOk_new m.key (ring_each h m.l.length (Nat.le_refl _) _ ?_)
  rw [List.getD_eq_getElem?_getD, List.getElem?_eq_getElem (by omega)]
  exact List.getElem_mem _
 ·dsimp only
  rw [ringT_get _ _ _ (by omega), ring_head]
  unfold movedI
  rw [if_pos ⟨newT_len _ _, newT_len _ _⟩]
  exact moved_none 8 (fun _ _ => rfl)
/-- What is noted is replayed. -/
theorem note_yes {m : Jm} {a i g : Int} (h : noteF m a i g = true) : journalB m.key m.l m.safe = true ∧ journalB (noteM m a i g).key (noteM m a i g).l (noteM m a i g).safe = true ∧ pdoF (replayM m) a i g = true ∧ pdoM (replayM m) a i g = replayM (noteM m a i g) ∧ (noteM m a i g).safe = ((noteM m a i g).l.length : Int) ∧ 1 ≤ (replayM (noteM m a i g)).ring.length ∧ (∀ j, j < (replayM (noteM m a i g)).ring.length → ((replayM (noteM m a i g)).ring.getD j []).length = 8) := by
 unfold noteF at h
 rw [Bool.and_eq_true] at h
 obtain ⟨h1, h2⟩ := h
 have eM : noteM m a i g = ⟨m.key, m.l ++ [(a, i, g)], (m.l.length : Int) + 1⟩ := by unfold noteM; rw [if_pos h1, if_pos h2]
 unfold noteB at h1
 rw [Bool.and_eq_true] at h1
 obtain ⟨hj, hc⟩ := h1
 unfold noteD at h2
 rw [Bool.and_eq_true] at h2
 obtain ⟨hd, h100⟩ := h2
 have hlt : m.l.length < 100 := by simpa using h100
 obtain ⟨l', hl'⟩ := Option.isSome_iff_exists.1 hd
 have hf := journal_facts hj
 have hrun := run_snoc (journal_run hj) hc hl'
 have hj2 : journalB m.key (m.l ++ [(a, i, g)]) ((m.l.length : Int) + 1) = true := by
  unfold journalB
  simp only [Bool.and_eq_true, decide_eq_true_eq]
  refine ⟨⟨⟨⟨hf.1, ?_⟩, ?_⟩, ?_⟩, hrun⟩
  ·rw [List.length_append]; simp; omega
  ·omega
  ·rw [List.length_append]; simp
 have hs2 : servedOf (m.l ++ [(a, i, g)]) (m.l.length + 1) = l' := by
  have hr1 : runTo (m.l ++ [(a, i, g)]) (m.l.length + 1) = stepO (runTo m.l m.l.length) (a, i, g) := by
   rw [runTo_succ (by simp), run_pre _ (Nat.le_refl _)]
   congr 1
   simp
  obtain ⟨l0, hl0⟩ := Option.isSome_iff_exists.1 (journal_run hj)
  have e0 : servedOf m.l m.l.length = l0 := by unfold servedOf; rw [hl0]; rfl
  rw [e0] at hl'
  unfold servedOf
  rw [hr1, hl0]
  unfold stepO
  simp [hc, hl']
 have eR : replayM m = ⟨m.key, servedOf m.l m.l.length, ringT m.key (ringR m.l m.l.length)⟩ := by unfold replayM; rw [if_pos hj]
 have hlen2 : (m.l ++ [(a, i, g)]).length = m.l.length + 1 := by rw [List.length_append]; rfl
 have eN : replayM ⟨m.key, m.l ++ [(a, i, g)], (m.l.length : Int) + 1⟩ = ⟨m.key, l', (newT m.key l' :: ringT m.key (ringR m.l m.l.length)).take 3⟩ := by
  unfold replayM
  dsimp only
  rw [if_pos hj2, hlen2, hs2]
  congr 1
  show ringT m.key (ringR (m.l ++ [(a, i, g)]) (m.l.length + 1)) = _
  have e3 : ringR (m.l ++ [(a, i, g)]) (m.l.length + 1) = (servedOf (m.l ++ [(a, i, g)]) (m.l.length + 1) :: ringR (m.l ++ [(a, i, g)]) m.l.length).take 3 := rfl
  rw [e3, hs2, ring_pre _ (Nat.le_refl _)]
  unfold ringT
  rw [List.map_take, List.map_cons]
 have hpp := replay_pool hj
 have hF : pdoF (replayM m) a i g = true := by
  unfold pdoF
  rw [hpp, hc, eR]
  dsimp only
  rw [hl']
  rfl
 rw [eM]
 refine ⟨hj, hj2, hF, ?_, ?_, ?_⟩
 ·rw [eN]
  unfold pdoM
  rw [if_pos (by rw [hpp, hc]; rfl), eR]
  dsimp only
  rw [hl']
 ·dsimp only; rw [hlen2]; simp
 ·have hq := replay_pool (m := ⟨m.key, m.l ++ [(a, i, g)], (m.l.length : Int) + 1⟩) hj2
  obtain ⟨_, _, f3, _, f5⟩ := pool_facts hq
  exact ⟨f3, fun j hj => (tab_pair (f5 j hj)).1⟩
end Go.Proofs.YtajfkcpifnpkeaaGreat

/- A balancer that may be: its pool is what its journal tells. -/
namespace Go.Proofs.YtajfkcpifnpkeaaGreat
open Go.ChangeShapes Go.WideShapes Go.ChangeAt Go.RowKit Go.Joins
set_option linter.unusedVariables false
set_option linter.unusedSimpArgs false


theorem movedTo_pos (aa bb : List (List Int)) : ∀ k, 0 ≤ movedTo aa bb k
 | 0 => Int.le_refl _
 | k + 1 => by
  have h := movedTo_pos aa bb k
  unfold movedTo
  split <;> omega
theorem movedTo_zero {aa bb : List (List Int)} : ∀ k, movedTo aa bb k = 0 → ∀ i, i < k → aa.getD i [] = bb.getD i []
 | 0, _, i, hi => absurd hi (Nat.not_lt_zero _)
 | k + 1, h, i, hi => by
  have h0 := movedTo_pos aa bb k
  unfold movedTo at h
  split at h
  ·next e =>
   by_cases hk : i = k
   ·rw [hk]; exact e
   ·exact movedTo_zero k (by omega) i (by omega)
  ·omega
theorem moved_same {aa bb : List (List Int)} (h : movedI aa bb = 0) : aa = bb := by
 unfold movedI at h
 split at h
 ·next e =>
  refine List.ext_getElem (by omega) (fun i h1 h2 => ?_)
  have h3 := movedTo_zero 8 h i (by omega)
  simpa [h1, h2] using h3
 ·omega
theorem samePB_eq {m1 m2 : Pm} (h : samePB m1 m2 = true) : m1 = m2 := by
 unfold samePB ringSame at h
 simp only [Bool.and_eq_true, decide_eq_true_eq, List.all_eq_true, List.mem_range, beq_iff_eq] at h
 obtain ⟨⟨h1, h2⟩, h3, h4⟩ := h
 obtain ⟨k1, l1, r1⟩ := m1
 obtain ⟨k2, l2, r2⟩ := m2
 dsimp only at h1 h2 h3 h4
 subst h1 h2
 have e : r1 = r2 := List.ext_getElem h3 (fun i a b => by
  have h5 := moved_same (h4 i a)
  simpa [a, b] using h5)
 rw [e]
theorem balB_jrn {m : Bm} (h : balB m = true) : journalB m.j.key m.j.l m.j.safe = true := by
 unfold balB at h
 rw [Bool.and_eq_true] at h
 exact h.1
theorem balB_same {m : Bm} (h : balB m = true) : m.p = replayM m.j := by
 unfold balB at h
 simp only [Bool.and_eq_true] at h
 exact (samePB_eq h.2.2).symm
theorem balB_pool {m : Bm} (h : balB m = true) : poolB m.p = true := by
 rw [balB_same h]
 exact replay_pool (balB_jrn h)
theorem balB_fit {m : Bm} (h : balB m = true) : fitPm m.p := by
 rw [balB_same h]
 exact replay_fit _
end Go.Proofs.YtajfkcpifnpkeaaGreat

/- A command: the program's side. -/
namespace Go.Proofs.YtajfkcpifnpkeaaGreat
open Go.ChangeShapes Go.WideShapes Go.ChangeAt Go.RowKit Go.Joins
set_option linter.unusedVariables false
set_option linter.unusedSimpArgs false


/-- What a command makes of a balancer that may be. -/
def cmdM (m : Bm) (k i gg : Int) : Bm := if noteF m.j k i gg = true then ⟨noteM m.j k i gg, pdoM m.p k i gg, m.t⟩ else m
theorem Bx.po {lo : Nat} {w : World} {g xc : Nat} {kj : Int} {vl : Value} {sj kp : Int} {vb vr : Value} {m : Bm} (h : Bx lo w g xc kj vl sj kp vb vr m) : RcPm 0 w.heap.size w (plv m.p.key vb vr) m.p := by
 obtain ⟨j0, j1, p0, p1, k1, k2, k3, k4, k5, k6, k7, i1, i2⟩ := h.mem
 exact i2.rc.le k4
theorem Bx.jo {lo : Nat} {w : World} {g xc : Nat} {kj : Int} {vl : Value} {sj kp : Int} {vb vr : Value} {m : Bm} (h : Bx lo w g xc kj vl sj kp vb vr m) : RdJm w.heap.size w (jrn m.j.key vl m.j.safe) m.j ∧ capJm (jrn m.j.key vl m.j.safe) := by
 obtain ⟨j0, j1, p0, p1, k1, k2, k3, k4, k5, k6, k7, i1, i2⟩ := h.mem
 exact ⟨i1.rd.le k2, i1.cap⟩

set_option maxRecDepth 100000 in
set_option maxHeartbeats 8000000 in
theorem command_any (P lo g nt xc : Nat) (kq : Int) (yo : Option Addr) (nj yc : Nat) (sq kr : Int) (uo : Option Addr) (un uc : Nat) (vo : Option Addr) (vn vc : Nat) (m : Bm) (k i gg : Int) (w : World)
  (hX : w.heap[P]? = some (.cells #[.slice (some ⟨g, 0, none⟩) nt xc, .int .i64 kq, .slice yo nj yc, .int .i64 sq, .int .i64 kr, .slice uo un uc, .slice vo vn vc] 109 (0, 0))) (hB : Bx lo w g xc kq (.slice yo nj yc) sq kr (.slice uo un uc) (.slice vo vn vc) m) (hlo : lo ≤ w.heap.size) (hsm : m.p = replayM m.j) (hfp : fitPm m.p) (hfj : fitJm m.j) :
  Calls Tryz.prog 62 #[.pointer (some ⟨P, 0, none⟩), cmd k i gg] w fun e w' => e = .returned (.bool (noteF m.j k i gg)) ∧ ∃ (g' : Nat) (k1 : Int) (o1 : Option Addr) (n1 c1 : Nat) (s1 k2 : Int) (o2 : Option Addr) (n2 c2 : Nat) (o3 : Option Addr) (n3 c3 : Nat), w'.heap[P]? = some (.cells #[(.slice (some ⟨g', 0, none⟩) nt xc), .int .i64 k1, .slice o1 n1 c1, .int .i64 s1, .int .i64 k2, .slice o2 n2 c2, .slice o3 n3 c3] 109 (0, 0)) ∧ Bx lo w' g' xc k1 (.slice o1 n1 c1) s1 k2 (.slice o2 n2 c2) (.slice o3 n3 c3) (cmdM m k i gg) ∧ Stp P (P + 1) w w' := by
 have B_w : Below w.heap.size w w := Below.refl _ _
 have bxp := hX
 clear hX
 have hPw : P < w.heap.size := (Array.getElem?_eq_some_iff.1 bxp).1
 obtain ⟨e1, e2, e3, ⟨base, hbs, hrow⟩, _⟩ := id hB
 subst e1 e2 e3
 have HPO := hide (fun W (hb : Below w.heap.size w W) => implPoolDo_sh (plv m.p.key (.slice uo un uc) (.slice vo vn vc)) m.p k i gg W ((hB.po.kept hb (Nat.le_refl _)).le hb.size) hfp)
 have HNO := hide (fun W (hb : Below w.heap.size w W) => implNote_sh (jrn m.j.key (.slice yo nj yc) m.j.safe) m.j k i gg W ((hB.jo.1.kept hb (Nat.le_refl _)).le hb.size) hB.jo.2 hfj)
 have HBX := hide hB
 have HDN := hide (show noteF m.j k i gg = true → pdoF m.p k i gg = true from fun h => by rw [hsm]; exact (note_yes h).2.2.1)
 have HCM := hide (show cmdM m k i gg = if noteF m.j k i gg = true then ⟨noteM m.j k i gg, pdoM m.p k i gg, m.t⟩ else m from rfl)
 have HNF := hide (noteM_fit k i gg hfj)
 obtain ⟨pr, hpr⟩ : ∃ x, pdoM m.p k i gg = x := ⟨_, rfl⟩
 obtain ⟨td, htd⟩ : ∃ x, pdoF m.p k i gg = x := ⟨_, rfl⟩
 obtain ⟨nr, hnr⟩ : ∃ x, noteM m.j k i gg = x := ⟨_, rfl⟩
 obtain ⟨tn, htn⟩ : ∃ x, noteF m.j k i gg = x := ⟨_, rfl⟩
 rw [hpr, htd] at HPO
 rw [hnr, htn] at HNO
 rw [htd, htn] at HDN
 rw [htn, hnr, hpr] at HCM
 have HTN := hide htn
 clear hpr htd hnr htn hB hsm hfp hfj
 obtain ⟨kq, hkq⟩ : ∃ x, m.j.key = x := ⟨_, rfl⟩
 obtain ⟨sq, hsq⟩ : ∃ x, m.j.safe = x := ⟨_, rfl⟩
 obtain ⟨kr, hkr⟩ : ∃ x, m.p.key = x := ⟨_, rfl⟩
 rw [hkq, hsq] at HNO
 rw [hkr] at HPO
 rw [hkq, hsq, hkr] at HBX bxp
 have HKE := hide (And.intro hkq (And.intro hsq hkr))
 have HRW := hide hrow
 clear hkq hsq hkr hrow
 obtain ⟨w1, hW_w1⟩ : ∃ W, w.alloc (.cells #[.int .i64 k, .int .i64 i, .int .i64 gg] 54) = W := ⟨_, rfl⟩
 have bxc : w1.heap[w.heap.size]? = some (.cells #[.int .i64 k, .int .i64 i, .int .i64 gg] 54 (0, 0)) := by rw [← hW_w1]; exact World.alloc_heap_new w _
 have hb_w1 : Below w.heap.size w w1 := by rw [← hW_w1]; exact (Below.refl _ _).alloc (Nat.le_refl _) _
 have hz_w1 : w.heap.size < w1.heap.size := by rw [← hW_w1]; simp
 replace bxp := (hb_w1.block _ (by omega)).trans bxp
 have B_w1 : Below w.heap.size w w1 := B_w.trans (hb_w1.mono B_w.size)
 have hs_w1 : w.heap.size ≤ w1.heap.size := hb_w1.size
 clear hb_w1 B_w
 have Hbxp := hide bxp
 clear bxp
 have Hbxc := hide bxc
 clear bxc
 have HB_ := hide B_w1
 clear B_w1
 go_enter Tryz.func62, Tryz.ntmps62
 have bxp := Hbxp.out
 clear Hbxp
 have bxc := Hbxc.out
 clear Hbxc
 have B_w1 := HB_.out
 clear HB_
 have bxpc0 : w1.cell? ⟨P, 0, none⟩ = some (.slice (some ⟨g, 0, none⟩) nt xc) := block_cellD bxp 0 _ rfl
 have bxpc1 : w1.cell? ⟨P, 1, none⟩ = some (.int .i64 kq) := block_cellD bxp 1 _ rfl
 have bxpc2 : w1.cell? ⟨P, 2, none⟩ = some (.slice yo nj yc) := block_cellD bxp 2 _ rfl
 have bxpc3 : w1.cell? ⟨P, 3, none⟩ = some (.int .i64 sq) := block_cellD bxp 3 _ rfl
 have bxpc4 : w1.cell? ⟨P, 4, none⟩ = some (.int .i64 kr) := block_cellD bxp 4 _ rfl
 have bxpc5 : w1.cell? ⟨P, 5, none⟩ = some (.slice uo un uc) := block_cellD bxp 5 _ rfl
 have bxpc6 : w1.cell? ⟨P, 6, none⟩ = some (.slice vo vn vc) := block_cellD bxp 6 _ rfl
 have bxcc0 : w1.cell? ⟨w.heap.size, 0, none⟩ = some (.int .i64 k) := block_cellD bxc 0 _ rfl
 have bxcc1 : w1.cell? ⟨w.heap.size, 1, none⟩ = some (.int .i64 i) := block_cellD bxc 1 _ rfl
 have bxcc2 : w1.cell? ⟨w.heap.size, 2, none⟩ = some (.int .i64 gg) := block_cellD bxc 2 _ rfl
 have Hbxp := hide bxp
 clear bxp
 have Hbxc := hide bxc
 clear bxc
 have HB_ := hide B_w1
 clear B_w1
 go_upto_region 1 with fail
 go_cut [5, 6] from 9 to 17 (fun s5 s6 wx => ∃ B lo hi ou cu oRu cRu, s5 = .pointer (some ⟨B, 0, none⟩) ∧ s6 = .bool td ∧ Hid (wx.heap[B]? = some (.cells #[.int .i64 pr.key, .slice ou pr.l.length cu, .slice oRu pr.ring.length cRu] 41 (0, 0))) ∧ Hid (Below w1.heap.size w1 wx) ∧ w1.heap.size ≤ B ∧ B < wx.heap.size ∧ Hid (InPm lo hi wx (plv pr.key (.slice ou pr.l.length cu) (.slice oRu pr.ring.length cRu)) pr) ∧ w1.heap.size ≤ lo ∧ hi ≤ wx.heap.size ∧ (B < lo ∨ hi ≤ B))
 case first =>
  have hk_bxp : P < w1.heap.size := by omega
  have hk_bxc : w.heap.size < w1.heap.size := by omega
  go_region_held3 (fun w' => w'.cell? ⟨P, 0, none⟩ = some (.slice (some ⟨g, 0, none⟩) nt xc) ∧ w'.cell? ⟨P, 1, none⟩ = some (.int .i64 kq) ∧ w'.cell? ⟨P, 2, none⟩ = some (.slice yo nj yc) ∧ w'.cell? ⟨P, 3, none⟩ = some (.int .i64 sq) ∧ w'.cell? ⟨P, 4, none⟩ = some (.int .i64 kr) ∧ w'.cell? ⟨P, 5, none⟩ = some (.slice uo un uc) ∧ w'.cell? ⟨P, 6, none⟩ = some (.slice vo vn vc) ∧ w'.cell? ⟨w.heap.size, 0, none⟩ = some (.int .i64 k) ∧ w'.cell? ⟨w.heap.size, 1, none⟩ = some (.int .i64 i) ∧ w'.cell? ⟨w.heap.size, 2, none⟩ = some (.int .i64 gg)) (first | with_reducible exact ⟨k0_0, k0_1, k0_2, k0_3, k0_4, k0_5, k0_6, k0_7, k0_8, k0_9⟩ | with_reducible exact ⟨bxpc0, bxpc1, bxpc2, bxpc3, bxpc4, bxpc5, bxpc6, bxcc0, bxcc1, bxcc2⟩ | with_reducible exact ⟨setP_cell k0_0 (show P < w1.heap.size by omega), setP_cell k0_1 (show P < w1.heap.size by omega), setP_cell k0_2 (show P < w1.heap.size by omega), setP_cell k0_3 (show P < w1.heap.size by omega), setP_cell k0_4 (show P < w1.heap.size by omega), setP_cell k0_5 (show P < w1.heap.size by omega), setP_cell k0_6 (show P < w1.heap.size by omega), setP_cell k0_7 (show w.heap.size < w1.heap.size by omega), setP_cell k0_8 (show w.heap.size < w1.heap.size by omega), setP_cell k0_9 (show w.heap.size < w1.heap.size by omega)⟩ | go_keep) (first | (go_at_call 122; have hc_ := HPO.out w1.drew (Below.drew HB_.out); with_reducible refine hc_.mono ?_; clear hc_; rintro e x0 ⟨vu, rfl, inu, hb⟩; have hp0 : Below w1.heap.size w1 x0 := Below.trans (show Below w1.heap.size w1 w1.drew from (Below.drew (Below.refl _ _))) (hb.mono (by simp)); have sp0 : w1.heap.size ≤ x0.heap.size := hp0.size; have hx0 : Below w1.heap.size w1 x0 := hp0; have k0_0 := (hx0.cell (p := ⟨P, 0, none⟩) hk_bxp).trans bxpc0; have k0_1 := (hx0.cell (p := ⟨P, 1, none⟩) hk_bxp).trans bxpc1; have k0_2 := (hx0.cell (p := ⟨P, 2, none⟩) hk_bxp).trans bxpc2; have k0_3 := (hx0.cell (p := ⟨P, 3, none⟩) hk_bxp).trans bxpc3; have k0_4 := (hx0.cell (p := ⟨P, 4, none⟩) hk_bxp).trans bxpc4; have k0_5 := (hx0.cell (p := ⟨P, 5, none⟩) hk_bxp).trans bxpc5; have k0_6 := (hx0.cell (p := ⟨P, 6, none⟩) hk_bxp).trans bxpc6; have k0_7 := (hx0.cell (p := ⟨w.heap.size, 0, none⟩) hk_bxc).trans bxcc0; have k0_8 := (hx0.cell (p := ⟨w.heap.size, 1, none⟩) hk_bxc).trans bxcc1; have k0_9 := (hx0.cell (p := ⟨w.heap.size, 2, none⟩) hk_bxc).trans bxcc2; (try have hzl0_0 := (Array.getElem?_eq_some_iff.1 hZ0_0).1); obtain ⟨ou, cu, oRu, cRu, hve⟩ := inu.opn; subst hve; (try have hzc0_0 : x0.cell? ⟨w1.heap.size, 0, none⟩ = some (.int .i64 0) := block_cellD hZ0_0 0 _ rfl); (try have hzf0_0 := bx_frozen hZ0_0 0); (try have hzc0_1 : x0.cell? ⟨w1.heap.size, 1, none⟩ = some (.slice none 0 0) := block_cellD hZ0_0 1 _ rfl); (try have hzf0_1 := bx_frozen hZ0_0 1); (try have hzc0_2 : x0.cell? ⟨w1.heap.size, 2, none⟩ = some (.slice none 0 0) := block_cellD hZ0_0 2 _ rfl); (try have hzf0_2 := bx_frozen hZ0_0 2); clear hb) | (go_at_call 122; have hc_ := HPO.out (w1.alloc (.cells #[.int .i64 0, .slice none 0 0, .slice none 0 0] 41)).drew (Below.drew (HB_.out.alloc HB_.out.size _)); with_reducible refine hc_.mono ?_; clear hc_; rintro e x0 ⟨vu, rfl, inu, hb⟩; have hp0 : Below w1.heap.size w1 x0 := Below.trans (show Below w1.heap.size w1 (w1.alloc (.cells #[.int .i64 0, .slice none 0 0, .slice none 0 0] 41)).drew from (Below.drew ((Below.refl _ _).alloc (Nat.le_refl _) _))) (hb.mono (by simp)); have sp0 : w1.heap.size ≤ x0.heap.size := hp0.size; have hx0 : Below w1.heap.size w1 x0 := hp0; have k0_0 := (hx0.cell (p := ⟨P, 0, none⟩) hk_bxp).trans bxpc0; have k0_1 := (hx0.cell (p := ⟨P, 1, none⟩) hk_bxp).trans bxpc1; have k0_2 := (hx0.cell (p := ⟨P, 2, none⟩) hk_bxp).trans bxpc2; have k0_3 := (hx0.cell (p := ⟨P, 3, none⟩) hk_bxp).trans bxpc3; have k0_4 := (hx0.cell (p := ⟨P, 4, none⟩) hk_bxp).trans bxpc4; have k0_5 := (hx0.cell (p := ⟨P, 5, none⟩) hk_bxp).trans bxpc5; have k0_6 := (hx0.cell (p := ⟨P, 6, none⟩) hk_bxp).trans bxpc6; have k0_7 := (hx0.cell (p := ⟨w.heap.size, 0, none⟩) hk_bxc).trans bxcc0; have k0_8 := (hx0.cell (p := ⟨w.heap.size, 1, none⟩) hk_bxc).trans bxcc1; have k0_9 := (hx0.cell (p := ⟨w.heap.size, 2, none⟩) hk_bxc).trans bxcc2; have hZ0_0 : x0.heap[w1.heap.size]? = some (.cells #[.int .i64 0, .slice none 0 0, .slice none 0 0] 41 (0, 0)) := (box_newA hb); (try have hzl0_0 := (Array.getElem?_eq_some_iff.1 hZ0_0).1); obtain ⟨ou, cu, oRu, cRu, hve⟩ := inu.opn; subst hve; (try have hzc0_0 : x0.cell? ⟨w1.heap.size, 0, none⟩ = some (.int .i64 0) := block_cellD hZ0_0 0 _ rfl); (try have hzf0_0 := bx_frozen hZ0_0 0); (try have hzc0_1 : x0.cell? ⟨w1.heap.size, 1, none⟩ = some (.slice none 0 0) := block_cellD hZ0_0 1 _ rfl); (try have hzf0_1 := bx_frozen hZ0_0 1); (try have hzc0_2 : x0.cell? ⟨w1.heap.size, 2, none⟩ = some (.slice none 0 0) := block_cellD hZ0_0 2 _ rfl); (try have hzf0_2 := bx_frozen hZ0_0 2); clear hb))
  all_goals (go_wp2_with fail; go_meet)
  all_goals first
   | with_reducible exact finD InPm.stps hZ0_0 hx0 (by omega) inu (by (try simp) <;> omega) (Nat.le_refl _) (by (try simp) <;> omega)
   | with_reducible exact finDn InPm.stps hx0 inu (by (try simp) <;> omega) (Nat.le_refl _)
 case rest =>
 obtain ⟨Bu, lou, hiu, ou, cu, oRu, cRu, rfl, rfl, Hbx_, Hbl_, hB1_u, hB2_u, Hin_, hl1_u, hl2_u, hl3_u⟩ := hcut
 have bxu := Hbx_.out
 have hbl_ := Hbl_.out
 clear Hbx_ Hbl_
 have inu := Hin_.out
 clear Hin_
 clear bxpc0 bxpc1 bxpc2 bxpc3 bxpc4 bxpc5 bxpc6
 clear bxcc0 bxcc1 bxcc2
 have bxp := Hbxp.out
 clear Hbxp
 have bxc := Hbxc.out
 clear Hbxc
 have B_w1 := HB_.out
 clear HB_
 obtain ⟨w2, hwc⟩ : ∃ W, W = wc := ⟨_, rfl⟩
 subst hwc
 replace bxp := (hbl_.block _ (by omega)).trans bxp
 replace bxc := (hbl_.block _ (by omega)).trans bxc
 have B_w2 : Below w.heap.size w w2 := B_w1.trans (hbl_.mono B_w1.size)
 have hs_w2 : w1.heap.size ≤ w2.heap.size := hbl_.size
 clear hbl_ B_w1
 clear hW_w1
 have bxpc0 : w2.cell? ⟨P, 0, none⟩ = some (.slice (some ⟨g, 0, none⟩) nt xc) := block_cellD bxp 0 _ rfl
 have bxpc1 : w2.cell? ⟨P, 1, none⟩ = some (.int .i64 kq) := block_cellD bxp 1 _ rfl
 have bxpc2 : w2.cell? ⟨P, 2, none⟩ = some (.slice yo nj yc) := block_cellD bxp 2 _ rfl
 have bxpc3 : w2.cell? ⟨P, 3, none⟩ = some (.int .i64 sq) := block_cellD bxp 3 _ rfl
 have bxpc4 : w2.cell? ⟨P, 4, none⟩ = some (.int .i64 kr) := block_cellD bxp 4 _ rfl
 have bxpc5 : w2.cell? ⟨P, 5, none⟩ = some (.slice uo un uc) := block_cellD bxp 5 _ rfl
 have bxpc6 : w2.cell? ⟨P, 6, none⟩ = some (.slice vo vn vc) := block_cellD bxp 6 _ rfl
 have bxcc0 : w2.cell? ⟨w.heap.size, 0, none⟩ = some (.int .i64 k) := block_cellD bxc 0 _ rfl
 have bxcc1 : w2.cell? ⟨w.heap.size, 1, none⟩ = some (.int .i64 i) := block_cellD bxc 1 _ rfl
 have bxcc2 : w2.cell? ⟨w.heap.size, 2, none⟩ = some (.int .i64 gg) := block_cellD bxc 2 _ rfl
 have Hbxp := hide bxp
 clear bxp
 have Hbxc := hide bxc
 clear bxc
 have Hbxu := hide bxu
 clear bxu
 have Hinu := hide inu
 clear inu
 have HB_ := hide B_w2
 clear B_w2
 go_upto_region 2 with fail
 go_cut [7, 8] from 18 to 26 (fun s7 s8 wx => ∃ B lo hi on cn, s7 = .pointer (some ⟨B, 0, none⟩) ∧ s8 = .bool tn ∧ Hid (wx.heap[B]? = some (.cells #[.int .i64 nr.key, .slice on nr.l.length cn, .int .i64 nr.safe] 38 (0, 0))) ∧ Hid (Below w2.heap.size w2 wx) ∧ w2.heap.size ≤ B ∧ B < wx.heap.size ∧ Hid (InJm lo hi wx (jrn nr.key (.slice on nr.l.length cn) nr.safe) nr) ∧ w2.heap.size ≤ lo ∧ hi ≤ wx.heap.size ∧ (B < lo ∨ hi ≤ B))
 case first =>
  have hk_bxp : P < w2.heap.size := by omega
  have hk_bxc : w.heap.size < w2.heap.size := by omega
  go_region_held3 (fun w' => w'.cell? ⟨P, 0, none⟩ = some (.slice (some ⟨g, 0, none⟩) nt xc) ∧ w'.cell? ⟨P, 1, none⟩ = some (.int .i64 kq) ∧ w'.cell? ⟨P, 2, none⟩ = some (.slice yo nj yc) ∧ w'.cell? ⟨P, 3, none⟩ = some (.int .i64 sq) ∧ w'.cell? ⟨P, 4, none⟩ = some (.int .i64 kr) ∧ w'.cell? ⟨P, 5, none⟩ = some (.slice uo un uc) ∧ w'.cell? ⟨P, 6, none⟩ = some (.slice vo vn vc) ∧ w'.cell? ⟨w.heap.size, 0, none⟩ = some (.int .i64 k) ∧ w'.cell? ⟨w.heap.size, 1, none⟩ = some (.int .i64 i) ∧ w'.cell? ⟨w.heap.size, 2, none⟩ = some (.int .i64 gg)) (first | with_reducible exact ⟨k0_0, k0_1, k0_2, k0_3, k0_4, k0_5, k0_6, k0_7, k0_8, k0_9⟩ | with_reducible exact ⟨bxpc0, bxpc1, bxpc2, bxpc3, bxpc4, bxpc5, bxpc6, bxcc0, bxcc1, bxcc2⟩ | with_reducible exact ⟨setP_cell k0_0 (show P < w2.heap.size by omega), setP_cell k0_1 (show P < w2.heap.size by omega), setP_cell k0_2 (show P < w2.heap.size by omega), setP_cell k0_3 (show P < w2.heap.size by omega), setP_cell k0_4 (show P < w2.heap.size by omega), setP_cell k0_5 (show P < w2.heap.size by omega), setP_cell k0_6 (show P < w2.heap.size by omega), setP_cell k0_7 (show w.heap.size < w2.heap.size by omega), setP_cell k0_8 (show w.heap.size < w2.heap.size by omega), setP_cell k0_9 (show w.heap.size < w2.heap.size by omega)⟩ | go_keep) (first | (go_at_call 123; have hc_ := HNO.out w2.drew (Below.drew HB_.out); with_reducible refine hc_.mono ?_; clear hc_; rintro e x0 ⟨vn9, rfl, inn, hb⟩; have hp0 : Below w2.heap.size w2 x0 := Below.trans (show Below w2.heap.size w2 w2.drew from (Below.drew (Below.refl _ _))) (hb.mono (by simp)); have sp0 : w2.heap.size ≤ x0.heap.size := hp0.size; have hx0 : Below w2.heap.size w2 x0 := hp0; have k0_0 := (hx0.cell (p := ⟨P, 0, none⟩) hk_bxp).trans bxpc0; have k0_1 := (hx0.cell (p := ⟨P, 1, none⟩) hk_bxp).trans bxpc1; have k0_2 := (hx0.cell (p := ⟨P, 2, none⟩) hk_bxp).trans bxpc2; have k0_3 := (hx0.cell (p := ⟨P, 3, none⟩) hk_bxp).trans bxpc3; have k0_4 := (hx0.cell (p := ⟨P, 4, none⟩) hk_bxp).trans bxpc4; have k0_5 := (hx0.cell (p := ⟨P, 5, none⟩) hk_bxp).trans bxpc5; have k0_6 := (hx0.cell (p := ⟨P, 6, none⟩) hk_bxp).trans bxpc6; have k0_7 := (hx0.cell (p := ⟨w.heap.size, 0, none⟩) hk_bxc).trans bxcc0; have k0_8 := (hx0.cell (p := ⟨w.heap.size, 1, none⟩) hk_bxc).trans bxcc1; have k0_9 := (hx0.cell (p := ⟨w.heap.size, 2, none⟩) hk_bxc).trans bxcc2; (try have hzl0_0 := (Array.getElem?_eq_some_iff.1 hZ0_0).1); obtain ⟨on, cn, hve⟩ := InJm.opn inn; subst hve; (try have hzc0_0 : x0.cell? ⟨w2.heap.size, 0, none⟩ = some (.int .i64 0) := block_cell1 hZ0_0 0 _ rfl); (try have hzf0_0 := bx_frozen hZ0_0 0); (try have hzc0_1 : x0.cell? ⟨w2.heap.size, 1, none⟩ = some (.slice none 0 0) := block_cell1 hZ0_0 1 _ rfl); (try have hzf0_1 := bx_frozen hZ0_0 1); (try have hzc0_2 : x0.cell? ⟨w2.heap.size, 2, none⟩ = some (.int .i64 0) := block_cell1 hZ0_0 2 _ rfl); (try have hzf0_2 := bx_frozen hZ0_0 2); clear hb) | (go_at_call 123; have hc_ := HNO.out (w2.alloc (.cells #[.int .i64 0, .slice none 0 0, .int .i64 0] 38)).drew (Below.drew (HB_.out.alloc HB_.out.size _)); with_reducible refine hc_.mono ?_; clear hc_; rintro e x0 ⟨vn9, rfl, inn, hb⟩; have hp0 : Below w2.heap.size w2 x0 := Below.trans (show Below w2.heap.size w2 (w2.alloc (.cells #[.int .i64 0, .slice none 0 0, .int .i64 0] 38)).drew from (Below.drew ((Below.refl _ _).alloc (Nat.le_refl _) _))) (hb.mono (by simp)); have sp0 : w2.heap.size ≤ x0.heap.size := hp0.size; have hx0 : Below w2.heap.size w2 x0 := hp0; have k0_0 := (hx0.cell (p := ⟨P, 0, none⟩) hk_bxp).trans bxpc0; have k0_1 := (hx0.cell (p := ⟨P, 1, none⟩) hk_bxp).trans bxpc1; have k0_2 := (hx0.cell (p := ⟨P, 2, none⟩) hk_bxp).trans bxpc2; have k0_3 := (hx0.cell (p := ⟨P, 3, none⟩) hk_bxp).trans bxpc3; have k0_4 := (hx0.cell (p := ⟨P, 4, none⟩) hk_bxp).trans bxpc4; have k0_5 := (hx0.cell (p := ⟨P, 5, none⟩) hk_bxp).trans bxpc5; have k0_6 := (hx0.cell (p := ⟨P, 6, none⟩) hk_bxp).trans bxpc6; have k0_7 := (hx0.cell (p := ⟨w.heap.size, 0, none⟩) hk_bxc).trans bxcc0; have k0_8 := (hx0.cell (p := ⟨w.heap.size, 1, none⟩) hk_bxc).trans bxcc1; have k0_9 := (hx0.cell (p := ⟨w.heap.size, 2, none⟩) hk_bxc).trans bxcc2; have hZ0_0 : x0.heap[w2.heap.size]? = some (.cells #[.int .i64 0, .slice none 0 0, .int .i64 0] 38 (0, 0)) := (box_newA hb); (try have hzl0_0 := (Array.getElem?_eq_some_iff.1 hZ0_0).1); obtain ⟨on, cn, hve⟩ := InJm.opn inn; subst hve; (try have hzc0_0 : x0.cell? ⟨w2.heap.size, 0, none⟩ = some (.int .i64 0) := block_cell1 hZ0_0 0 _ rfl); (try have hzf0_0 := bx_frozen hZ0_0 0); (try have hzc0_1 : x0.cell? ⟨w2.heap.size, 1, none⟩ = some (.slice none 0 0) := block_cell1 hZ0_0 1 _ rfl); (try have hzf0_1 := bx_frozen hZ0_0 1); (try have hzc0_2 : x0.cell? ⟨w2.heap.size, 2, none⟩ = some (.int .i64 0) := block_cell1 hZ0_0 2 _ rfl); (try have hzf0_2 := bx_frozen hZ0_0 2); clear hb))
  all_goals (go_wp2_with fail; go_meet)
  all_goals first
   | with_reducible exact finN hZ0_0 hx0 (by omega) inn (by (try simp) <;> omega) (Nat.le_refl _) (by (try simp) <;> omega)
   | with_reducible exact finNn hx0 inn (by (try simp) <;> omega) (Nat.le_refl _)
 case rest =>
 obtain ⟨Bn, lon, hin, on, cn, rfl, rfl, Hbx_, Hbl_, hB1_n, hB2_n, Hin_, hl1_n, hl2_n, hl3_n⟩ := hcut
 have bxn := Hbx_.out
 have hbl_ := Hbl_.out
 clear Hbx_ Hbl_
 have inn := Hin_.out
 clear Hin_
 clear bxpc0 bxpc1 bxpc2 bxpc3 bxpc4 bxpc5 bxpc6
 clear bxcc0 bxcc1 bxcc2
 have bxp := Hbxp.out
 clear Hbxp
 have bxc := Hbxc.out
 clear Hbxc
 have bxu := Hbxu.out
 clear Hbxu
 have inu := Hinu.out
 clear Hinu
 have B_w2 := HB_.out
 clear HB_
 obtain ⟨w3, hwc⟩ : ∃ W, W = wc := ⟨_, rfl⟩
 subst hwc
 replace bxp := (hbl_.block _ (by omega)).trans bxp
 replace bxc := (hbl_.block _ (by omega)).trans bxc
 replace bxu := (hbl_.block _ (by omega)).trans bxu
 replace inu := inu.step (Stp.of (lo := 0) (hi := 0) hbl_) (.inl (Nat.zero_le _))
 have B_w3 : Below w.heap.size w w3 := B_w2.trans (hbl_.mono B_w2.size)
 have hs_w3 : w2.heap.size ≤ w3.heap.size := hbl_.size
 clear hbl_ B_w2
 cases tn with
 | false =>
  have HFI : Hid (w3.heap[P]? = some (.cells #[.slice (some ⟨g, 0, none⟩) nt xc, .int .i64 kq, .slice yo nj yc, .int .i64 sq, .int .i64 kr, .slice uo un uc, .slice vo vn vc] 109 (0, 0)) ∧ Bx lo w3 g xc kq (.slice yo nj yc) sq kr (.slice uo un uc) (.slice vo vn vc) (cmdM m k i gg) ∧ Stp P (P + 1) w w3) := by
   refine ⟨bxp, ?_, Stp.of B_w3⟩
   rw [HCM.out]
   exact HBX.out.kept B_w3
  clear HBX HDN HCM HNF HPO HNO HRW HKE
  have Hbxp := hide bxp
  clear bxp
  have Hbxc := hide bxc
  clear bxc
  have Hbxu := hide bxu
  clear bxu
  have Hinu := hide inu
  clear inu
  have Hbxn := hide bxn
  clear bxn
  have Hinn := hide inn
  clear inn
  have HB_ := hide B_w3
  clear B_w3
  cases td <;> (go_wp2; go_ret; exact ⟨by rw [HTN.out]; rfl, g, _, _, _, _, _, _, _, _, _, _, _, _, HFI.out.1, HFI.out.2.1, HFI.out.2.2⟩)
 | true =>
  have etd : td = true := HDN.out (by first | rfl | trivial)
  subst etd
  clear HDN HPO HNO
  obtain ⟨W9, hW9⟩ : ∃ W, (set3 (set3 w3 P 4 (.int .i64 pr.key) (.slice ou pr.l.length cu) (.slice oRu pr.ring.length cRu)) P 1 (.int .i64 nr.key) (.slice on nr.l.length cn) (.int .i64 nr.safe)) = W := ⟨_, rfl⟩
  have sA := stp_set3 w3 P 4 (.int .i64 pr.key) (.slice ou pr.l.length cu) (.slice oRu pr.ring.length cRu)
  have hbA : (set3 w3 P 4 (.int .i64 pr.key) (.slice ou pr.l.length cu) (.slice oRu pr.ring.length cRu)).heap[P]? = some (.cells #[.slice (some ⟨g, 0, none⟩) nt xc, .int .i64 kq, .slice yo nj yc, .int .i64 sq, .int .i64 pr.key, .slice ou pr.l.length cu, .slice oRu pr.ring.length cRu] 109 (0, 0)) := box_put (box_put (box_put bxp 4 _) 5 _) 6 _
  have s9 : Stp P (P + 1) w3 W9 := by rw [← hW9]; exact sA.trans (stp_set3 _ P 1 _ _ _)
  have X9 : W9.heap[P]? = some (.cells #[.slice (some ⟨g, 0, none⟩) nt xc, .int .i64 nr.key, .slice on nr.l.length cn, .int .i64 nr.safe, .int .i64 pr.key, .slice ou pr.l.length cu, .slice oRu pr.ring.length cRu] 109 (0, 0)) := by rw [← hW9]; exact box_put (box_put (box_put hbA 1 _) 2 _) 3 _
  have hz9 := s9.size
  have HFI : Hid (W9.heap[P]? = some (.cells #[.slice (some ⟨g, 0, none⟩) nt xc, .int .i64 nr.key, .slice on nr.l.length cn, .int .i64 nr.safe, .int .i64 pr.key, .slice ou pr.l.length cu, .slice oRu pr.ring.length cRu] 109 (0, 0)) ∧ Bx lo W9 g xc nr.key (.slice on nr.l.length cn) nr.safe pr.key (.slice ou pr.l.length cu) (.slice oRu pr.ring.length cRu) (cmdM m k i gg) ∧ Stp P (P + 1) w W9) := by
   refine ⟨X9, ?_, (Stp.of B_w3).trans s9⟩
   rw [HCM.out]
   have hgP : ∀ q : Nat, Value.ownBlock (.slice (some ⟨g, 0, none⟩) m.t.length xc) = some q → q < P ∨ P + 1 ≤ q := fun q e => by
    have hro := own_kept HRW.out B_w3
    rcases own_box hro bxp (by decide) with h | h
    ·rw [h] at e; cases e
    ·rw [e] at h; have : q ≠ P := fun e2 => h (by rw [e2]); omega
   refine ⟨rfl, rfl, rfl, ⟨base, hbs, (InRow.steps (InRow.of (own_kept HRW.out B_w3)) s9 hgP).1⟩, ⟨lon, hin, lou, hiu, by omega, by omega, by omega, by omega, by omega, ?_, ?_, inn.step s9 (.inl (by omega)), inu.step s9 (.inl (by omega))⟩⟩
   ·have hg9 := (HRW.out.lt g rfl).2
    omega
   ·have hg9 := (HRW.out.lt g rfl).2
    omega
  clear sA hbA s9 X9 HBX HCM HNF HRW HKE
  have bxpc0 : w3.cell? ⟨P, 0, none⟩ = some (.slice (some ⟨g, 0, none⟩) nt xc) := block_cellD bxp 0 _ rfl
  have bxpc1 : w3.cell? ⟨P, 1, none⟩ = some (.int .i64 kq) := block_cellD bxp 1 _ rfl
  have bxpc2 : w3.cell? ⟨P, 2, none⟩ = some (.slice yo nj yc) := block_cellD bxp 2 _ rfl
  have bxpc3 : w3.cell? ⟨P, 3, none⟩ = some (.int .i64 sq) := block_cellD bxp 3 _ rfl
  have bxpc4 : w3.cell? ⟨P, 4, none⟩ = some (.int .i64 kr) := block_cellD bxp 4 _ rfl
  have bxpc5 : w3.cell? ⟨P, 5, none⟩ = some (.slice uo un uc) := block_cellD bxp 5 _ rfl
  have bxpc6 : w3.cell? ⟨P, 6, none⟩ = some (.slice vo vn vc) := block_cellD bxp 6 _ rfl
  have bxuc0 : w3.cell? ⟨Bu, 0, none⟩ = some (.int .i64 pr.key) := block_cellD bxu 0 _ rfl
  have bxuc1 : w3.cell? ⟨Bu, 1, none⟩ = some (.slice ou pr.l.length cu) := block_cellD bxu 1 _ rfl
  have bxuc2 : w3.cell? ⟨Bu, 2, none⟩ = some (.slice oRu pr.ring.length cRu) := block_cellD bxu 2 _ rfl
  have bxnc0 : w3.cell? ⟨Bn, 0, none⟩ = some (.int .i64 nr.key) := block_cellD bxn 0 _ rfl
  have bxnc1 : w3.cell? ⟨Bn, 1, none⟩ = some (.slice on nr.l.length cn) := block_cellD bxn 1 _ rfl
  have bxnc2 : w3.cell? ⟨Bn, 2, none⟩ = some (.int .i64 nr.safe) := block_cellD bxn 2 _ rfl
  have fp0 := bx_frozen bxp 0
  have fp1 := bx_frozen bxp 1
  have fp2 := bx_frozen bxp 2
  have fp3 := bx_frozen bxp 3
  have fp4 := bx_frozen bxp 4
  have fp5 := bx_frozen bxp 5
  have fp6 := bx_frozen bxp 6
  have Hbxp := hide bxp
  clear bxp
  have Hbxc := hide bxc
  clear bxc
  have Hbxu := hide bxu
  clear bxu
  have Hinu := hide inu
  clear inu
  have Hbxn := hide bxn
  clear bxn
  have Hinn := hide inn
  clear inn
  have HB_ := hide B_w3
  clear B_w3
  dsimp only [set3] at hW9
  go_wp2
  go_region
  all_goals (try go_wp2)
  all_goals go_ret
  all_goals exact ⟨by rw [HTN.out]; rfl, g, _, _, _, _, _, _, _, _, _, _, _, _, HFI.out.1, HFI.out.2.1.kept (Below.drew (Below.refl _ _)), HFI.out.2.2.trans (Stp.of (Below.drew (Below.refl _ _)))⟩

def cmd0B (m : Bm) (k i gg : Int) : Bool := balB m && cmdOkB k i gg
/-- What BalCmd tells. -/
def cmd0M (m : Bm) (k i gg : Int) : Bm := if cmd0B m k i gg = true then cmdM m k i gg else bm0
def cmd0F (m : Bm) (k i gg : Int) : Bool := cmd0B m k i gg && noteF m.j k i gg

set_option maxRecDepth 100000 in
set_option maxHeartbeats 4000000 in
theorem implBalCmd_any (kj : Int) (o : Option Addr) (nj c : Nat) (sj kp : Int) (ob : Option Addr) (np cb : Nat) (oR : Option Addr) (nr cR : Nat) (ot : Option Addr) (nt ct : Nat) (lj : List Cd) (lb : List Bk) (lr : List (List (List Int))) (lt : List Sl) (k i gg : Int) (w : World)
  (hnj : nj = lj.length) (hnt : nt = lt.length) (h1 : RdC w.heap.size w o lj) (h1c : o = none → c = 0) (h2 : RdPm w.heap.size w (plv kp (.slice ob np cb) (.slice oR nr cR)) ⟨kp, lb, lr⟩) (h4 : RdS w.heap.size w ot lt) (hf : fitB0 ⟨⟨kj, lj, sj⟩, ⟨kp, lb, lr⟩, lt⟩) :
  Calls Tryz.prog 18 #[balv kj (.slice o nj c) sj kp (.slice ob np cb) (.slice oR nr cR) (.slice ot nt ct), cmd k i gg] w fun e w' => ∃ v, e = .returned (.tuple #[v, .bool (cmd0F ⟨⟨kj, lj, sj⟩, ⟨kp, lb, lr⟩, lt⟩ k i gg)]) ∧ InBm w.heap.size w'.heap.size w' v (cmd0M ⟨⟨kj, lj, sj⟩, ⟨kp, lb, lr⟩, lt⟩ k i gg) ∧ Below w.heap.size w w' := by
 have HBF := hide (fun W (hb : Below w.heap.size w W) => balFrom_any kj o nj c sj kp ob np cb oR nr cR ot nt ct lj lb lr lt W hnj hnt ((h1.kept hb (Nat.le_refl _)).le hb.size) h1c ((h2.kept hb (Nat.le_refl _)).le hb.size) ((h4.kept hb (Nat.le_refl _)).le hb.size) hf)
 have f7 : lt.length ≤ 1048576 := hf.2.2
 have f1 : lj.length ≤ 1048576 := hf.1
 have HBP := hide (fun h => balB_pos (m := ⟨⟨kj, lj, sj⟩, ⟨kp, lb, lr⟩, lt⟩) h)
 have HSM := hide (fun h => balB_same (m := ⟨⟨kj, lj, sj⟩, ⟨kp, lb, lr⟩, lt⟩) h)
 have HFT := hide (fun h => balB_fit (m := ⟨⟨kj, lj, sj⟩, ⟨kp, lb, lr⟩, lt⟩) h)
 have HTL := hide (show (cmdM ⟨⟨kj, lj, sj⟩, ⟨kp, lb, lr⟩, lt⟩ k i gg).t = lt by unfold cmdM; split <;> rfl)
 have HF0 := hide (show cmd0F ⟨⟨kj, lj, sj⟩, ⟨kp, lb, lr⟩, lt⟩ k i gg = ((balB ⟨⟨kj, lj, sj⟩, ⟨kp, lb, lr⟩, lt⟩ && cmdOkB k i gg) && noteF ⟨kj, lj, sj⟩ k i gg) from rfl)
 have HM := hide (show cmd0M ⟨⟨kj, lj, sj⟩, ⟨kp, lb, lr⟩, lt⟩ k i gg = if (balB ⟨⟨kj, lj, sj⟩, ⟨kp, lb, lr⟩, lt⟩ && cmdOkB k i gg) = true then cmdM ⟨⟨kj, lj, sj⟩, ⟨kp, lb, lr⟩, lt⟩ k i gg else bm0 from rfl)
 dsimp only at HBP HSM HFT
 clear h1 h2 h4 hnj hnt hf
 obtain ⟨bb, hbb⟩ : ∃ x, balB ⟨⟨kj, lj, sj⟩, ⟨kp, lb, lr⟩, lt⟩ = x := ⟨_, rfl⟩
 obtain ⟨mr, hmr⟩ : ∃ r, cmd0M ⟨⟨kj, lj, sj⟩, ⟨kp, lb, lr⟩, lt⟩ k i gg = r := ⟨_, rfl⟩
 obtain ⟨fl, hfl⟩ : ∃ r, cmd0F ⟨⟨kj, lj, sj⟩, ⟨kp, lb, lr⟩, lt⟩ k i gg = r := ⟨_, rfl⟩
 obtain ⟨cb9, hcb⟩ : ∃ r, cmdOkB k i gg = r := ⟨_, rfl⟩
 have HCB := hide (fun W => implPoolCmdOk_any k i gg W)
 rw [hmr, hfl]
 rw [hbb] at HBF HBP HSM HFT HM HF0
 rw [hmr] at HM
 rw [hfl] at HF0
 rw [hcb] at HM HF0 HCB
 clear hbb hmr hfl hcb
 obtain ⟨W0, hW0⟩ : ∃ W, (((w.alloc (.cells #[.int .i64 kj, .slice o nj c, .int .i64 sj, .int .i64 kp, .slice ob np cb, .slice oR nr cR, .slice ot nt ct] 46)).alloc (.cells #[.int .i64 k, .int .i64 i, .int .i64 gg] 54)).alloc (.cells #[.int .i64 0, .slice none 0 0, .int .i64 0, .int .i64 0, .slice none 0 0, .slice none 0 0, .slice none 0 0] 46)) = W := ⟨_, rfl⟩
 have hb_W0 : Below w.heap.size w W0 := by rw [← hW0]; exact ((((Below.refl _ _).alloc (Nat.le_refl _) _).alloc (by simp <;> omega) _).alloc (by simp <;> omega) _)
 have HB := hide hb_W0
 clear hb_W0
 have zz : w.heap.size < W0.heap.size := by rw [← hW0]; simp <;> omega
 have z0 : W0.cell? ⟨w.heap.size, 0, none⟩ = some (.int .i64 kj) := by rw [← hW0]; simp [go_sem]
 have z1 : W0.cell? ⟨w.heap.size, 1, none⟩ = some (.slice o nj c) := by rw [← hW0]; simp [go_sem]
 have z2 : W0.cell? ⟨w.heap.size, 2, none⟩ = some (.int .i64 sj) := by rw [← hW0]; simp [go_sem]
 have z3 : W0.cell? ⟨w.heap.size, 3, none⟩ = some (.int .i64 kp) := by rw [← hW0]; simp [go_sem]
 have z4 : W0.cell? ⟨w.heap.size, 4, none⟩ = some (.slice ob np cb) := by rw [← hW0]; simp [go_sem]
 have z5 : W0.cell? ⟨w.heap.size, 5, none⟩ = some (.slice oR nr cR) := by rw [← hW0]; simp [go_sem]
 have z6 : W0.cell? ⟨w.heap.size, 6, none⟩ = some (.slice ot nt ct) := by rw [← hW0]; simp [go_sem]
 have zc : w.heap.size + 1 < W0.heap.size := by rw [← hW0]; simp <;> omega
 have c0 : W0.cell? ⟨w.heap.size + 1, 0, none⟩ = some (.int .i64 k) := by rw [← hW0]; simp [go_sem]
 have c1 : W0.cell? ⟨w.heap.size + 1, 1, none⟩ = some (.int .i64 i) := by rw [← hW0]; simp [go_sem]
 have c2 : W0.cell? ⟨w.heap.size + 1, 2, none⟩ = some (.int .i64 gg) := by rw [← hW0]; simp [go_sem]
 have zr : w.heap.size + 1 + 1 < W0.heap.size := by rw [← hW0]; simp
 have r0 : W0.cell? ⟨w.heap.size + 1 + 1, 0, none⟩ = some (.int .i64 0) := by rw [← hW0]; simp [go_sem]
 have r1 : W0.cell? ⟨w.heap.size + 1 + 1, 1, none⟩ = some (.slice none 0 0) := by rw [← hW0]; simp [go_sem]
 have r2 : W0.cell? ⟨w.heap.size + 1 + 1, 2, none⟩ = some (.int .i64 0) := by rw [← hW0]; simp [go_sem]
 have r3 : W0.cell? ⟨w.heap.size + 1 + 1, 3, none⟩ = some (.int .i64 0) := by rw [← hW0]; simp [go_sem]
 have r4 : W0.cell? ⟨w.heap.size + 1 + 1, 4, none⟩ = some (.slice none 0 0) := by rw [← hW0]; simp [go_sem]
 have r5 : W0.cell? ⟨w.heap.size + 1 + 1, 5, none⟩ = some (.slice none 0 0) := by rw [← hW0]; simp [go_sem]
 have r6 : W0.cell? ⟨w.heap.size + 1 + 1, 6, none⟩ = some (.slice none 0 0) := by rw [← hW0]; simp [go_sem]
 have fr0 : W0.frozen? ⟨w.heap.size + 1 + 1, 0, none⟩ = false := by rw [← hW0]; simp [go_sem]
 have fr1 : W0.frozen? ⟨w.heap.size + 1 + 1, 1, none⟩ = false := by rw [← hW0]; simp [go_sem]
 have fr2 : W0.frozen? ⟨w.heap.size + 1 + 1, 2, none⟩ = false := by rw [← hW0]; simp [go_sem]
 have fr3 : W0.frozen? ⟨w.heap.size + 1 + 1, 3, none⟩ = false := by rw [← hW0]; simp [go_sem]
 have fr4 : W0.frozen? ⟨w.heap.size + 1 + 1, 4, none⟩ = false := by rw [← hW0]; simp [go_sem]
 have fr5 : W0.frozen? ⟨w.heap.size + 1 + 1, 5, none⟩ = false := by rw [← hW0]; simp [go_sem]
 have fr6 : W0.frozen? ⟨w.heap.size + 1 + 1, 6, none⟩ = false := by rw [← hW0]; simp [go_sem]
 have hzr : w.heap.size + 1 + 1 < W0.heap.size := zr
 go_enter Tryz.func18, Tryz.ntmps18
 go_wp2_with fail
 refine (HBF.out W0 HB.out).mono ?_
 rintro e v1 ⟨xo, xn, xc, kq, yo, yn, yc, sq, kr, uo, un, uc, vo, vn, vc, rfl, hin, hb⟩
 have HIN := hide hin
 have hs1 := hb.size
 clear hin HBF
 replace z0 := bC hb z0 zz
 replace z1 := bC hb z1 zz
 replace z2 := bC hb z2 zz
 replace z3 := bC hb z3 zz
 replace z4 := bC hb z4 zz
 replace z5 := bC hb z5 zz
 replace z6 := bC hb z6 zz
 replace zz := Nat.lt_of_lt_of_le zz hb.size
 replace c0 := bC hb c0 zc
 replace c1 := bC hb c1 zc
 replace c2 := bC hb c2 zc
 replace zc := Nat.lt_of_lt_of_le zc hb.size
 replace r0 := bC hb r0 zr
 replace r1 := bC hb r1 zr
 replace r2 := bC hb r2 zr
 replace r3 := bC hb r3 zr
 replace r4 := bC hb r4 zr
 replace r5 := bC hb r5 zr
 replace r6 := bC hb r6 zr
 replace fr0 := bF hb fr0 zr
 replace fr1 := bF hb fr1 zr
 replace fr2 := bF hb fr2 zr
 replace fr3 := bF hb fr3 zr
 replace fr4 := bF hb fr4 zr
 replace fr5 := bF hb fr5 zr
 replace fr6 := bF hb fr6 zr
 replace zr := Nat.lt_of_lt_of_le zr hb.size
 replace HB := hide (HB.out.trans (hb.mono HB.out.size))
 clear hb
 cases bb with
 | false =>
  obtain ⟨W2, hW2⟩ : ∃ W, (v1.alloc (.cells #[.slice xo xn xc, .int .i64 kq, .slice yo yn yc, .int .i64 sq, .int .i64 kr, .slice uo un uc, .slice vo vn vc] 109)) = W := ⟨_, rfl⟩
  have hb_W2 : Below v1.heap.size v1 W2 := by rw [← hW2]; exact ((Below.refl _ _).alloc (Nat.le_refl _) _)
  replace z0 := bC hb_W2 z0 zz
  replace z1 := bC hb_W2 z1 zz
  replace z2 := bC hb_W2 z2 zz
  replace z3 := bC hb_W2 z3 zz
  replace z4 := bC hb_W2 z4 zz
  replace z5 := bC hb_W2 z5 zz
  replace z6 := bC hb_W2 z6 zz
  replace zz := Nat.lt_of_lt_of_le zz hb_W2.size
  replace c0 := bC hb_W2 c0 zc
  replace c1 := bC hb_W2 c1 zc
  replace c2 := bC hb_W2 c2 zc
  replace zc := Nat.lt_of_lt_of_le zc hb_W2.size
  replace r0 := bC hb_W2 r0 zr
  replace r1 := bC hb_W2 r1 zr
  replace r2 := bC hb_W2 r2 zr
  replace r3 := bC hb_W2 r3 zr
  replace r4 := bC hb_W2 r4 zr
  replace r5 := bC hb_W2 r5 zr
  replace r6 := bC hb_W2 r6 zr
  replace fr0 := bF hb_W2 fr0 zr
  replace fr1 := bF hb_W2 fr1 zr
  replace fr2 := bF hb_W2 fr2 zr
  replace fr3 := bF hb_W2 fr3 zr
  replace fr4 := bF hb_W2 fr4 zr
  replace fr5 := bF hb_W2 fr5 zr
  replace fr6 := bF hb_W2 fr6 zr
  replace zr := Nat.lt_of_lt_of_le zr hb_W2.size
  replace HB := hide (HB.out.trans (hb_W2.mono HB.out.size))
  clear hb_W2
  have zx : v1.heap.size < W2.heap.size := by rw [← hW2]; simp
  have x0 : W2.cell? ⟨v1.heap.size, 0, none⟩ = some (.slice xo xn xc) := by rw [← hW2]; simp [go_sem]
  have x1 : W2.cell? ⟨v1.heap.size, 1, none⟩ = some (.int .i64 kq) := by rw [← hW2]; simp [go_sem]
  have x2 : W2.cell? ⟨v1.heap.size, 2, none⟩ = some (.slice yo yn yc) := by rw [← hW2]; simp [go_sem]
  have x3 : W2.cell? ⟨v1.heap.size, 3, none⟩ = some (.int .i64 sq) := by rw [← hW2]; simp [go_sem]
  have x4 : W2.cell? ⟨v1.heap.size, 4, none⟩ = some (.int .i64 kr) := by rw [← hW2]; simp [go_sem]
  have x5 : W2.cell? ⟨v1.heap.size, 5, none⟩ = some (.slice uo un uc) := by rw [← hW2]; simp [go_sem]
  have x6 : W2.cell? ⟨v1.heap.size, 6, none⟩ = some (.slice vo vn vc) := by rw [← hW2]; simp [go_sem]
  clear HIN
  have e0 : fl = false := by rw [HF0.out]; simp
  subst e0
  go_wp2
  refine bodyPost_ret (v := .tuple #[balv 0 (.slice none 0 0) 0 0 (.slice none 0 0) (.slice none 0 0) (.slice none 0 0), .bool false]) (by simp [results, Tryz.results18, go_sem, r0, r1, r2, r3, r4, r5, r6]) rfl ⟨_, rfl, ?_, setB_below HB.out (by omega) _ _ _ _ _ _ _⟩
  rw [HM.out, setB_size]
  exact bm0_in _ _ _ (by have := HB.out.size; omega)
 | true =>
  have hn := HBP.out rfl
  have hsm := HSM.out rfl
  have hft := HFT.out rfl
  obtain ⟨g, rfl, rfl, hgl, bx⟩ := Bx.of (HIN.out rfl) hn
  rw [← hsm] at bx
  have HBX := hide bx
  clear bx HIN HBP HSM HFT
  obtain ⟨W2, hW2⟩ : ∃ W, (v1.alloc (.cells #[.slice (some ⟨g, 0, none⟩) lt.length xc, .int .i64 kq, .slice yo yn yc, .int .i64 sq, .int .i64 kr, .slice uo un uc, .slice vo vn vc] 109)) = W := ⟨_, rfl⟩
  have hb_W2 : Below v1.heap.size v1 W2 := by rw [← hW2]; exact ((Below.refl _ _).alloc (Nat.le_refl _) _)
  replace z0 := bC hb_W2 z0 zz
  replace z1 := bC hb_W2 z1 zz
  replace z2 := bC hb_W2 z2 zz
  replace z3 := bC hb_W2 z3 zz
  replace z4 := bC hb_W2 z4 zz
  replace z5 := bC hb_W2 z5 zz
  replace z6 := bC hb_W2 z6 zz
  replace zz := Nat.lt_of_lt_of_le zz hb_W2.size
  replace c0 := bC hb_W2 c0 zc
  replace c1 := bC hb_W2 c1 zc
  replace c2 := bC hb_W2 c2 zc
  replace zc := Nat.lt_of_lt_of_le zc hb_W2.size
  replace r0 := bC hb_W2 r0 zr
  replace r1 := bC hb_W2 r1 zr
  replace r2 := bC hb_W2 r2 zr
  replace r3 := bC hb_W2 r3 zr
  replace r4 := bC hb_W2 r4 zr
  replace r5 := bC hb_W2 r5 zr
  replace r6 := bC hb_W2 r6 zr
  replace fr0 := bF hb_W2 fr0 zr
  replace fr1 := bF hb_W2 fr1 zr
  replace fr2 := bF hb_W2 fr2 zr
  replace fr3 := bF hb_W2 fr3 zr
  replace fr4 := bF hb_W2 fr4 zr
  replace fr5 := bF hb_W2 fr5 zr
  replace fr6 := bF hb_W2 fr6 zr
  replace zr := Nat.lt_of_lt_of_le zr hb_W2.size
  replace HB := hide (HB.out.trans (hb_W2.mono HB.out.size))
  clear hb_W2
  have zx : v1.heap.size < W2.heap.size := by rw [← hW2]; simp
  have x0 : W2.cell? ⟨v1.heap.size, 0, none⟩ = some (.slice (some ⟨g, 0, none⟩) lt.length xc) := by rw [← hW2]; simp [go_sem]
  have x1 : W2.cell? ⟨v1.heap.size, 1, none⟩ = some (.int .i64 kq) := by rw [← hW2]; simp [go_sem]
  have x2 : W2.cell? ⟨v1.heap.size, 2, none⟩ = some (.slice yo yn yc) := by rw [← hW2]; simp [go_sem]
  have x3 : W2.cell? ⟨v1.heap.size, 3, none⟩ = some (.int .i64 sq) := by rw [← hW2]; simp [go_sem]
  have x4 : W2.cell? ⟨v1.heap.size, 4, none⟩ = some (.int .i64 kr) := by rw [← hW2]; simp [go_sem]
  have x5 : W2.cell? ⟨v1.heap.size, 5, none⟩ = some (.slice uo un uc) := by rw [← hW2]; simp [go_sem]
  have x6 : W2.cell? ⟨v1.heap.size, 6, none⟩ = some (.slice vo vn vc) := by rw [← hW2]; simp [go_sem]
  replace HBX := hide (HBX.out.kept (show Below v1.heap.size v1 W2 by rw [← hW2]; exact (Below.refl _ _).alloc (Nat.le_refl _) _))
  have hs2 : v1.heap.size < W2.heap.size := zx
  have HXB : Hid (W2.heap[v1.heap.size]? = some (.cells #[.slice (some ⟨g, 0, none⟩) lt.length xc, .int .i64 kq, .slice yo yn yc, .int .i64 sq, .int .i64 kr, .slice uo un uc, .slice vo vn vc] 109 (0, 0))) := by rw [← hW2]; exact World.alloc_heap_new v1 _
  have HSMF := hide (And.intro hsm hft)
  clear hsm hft
  have hck := HCB.out W2
  cases cb9 with
  | false =>
   go_wp2_with fail
   refine (hck).mono ?_
   rintro e v2 ⟨rfl, hb⟩
   replace z0 := bC hb z0 zz
   replace z1 := bC hb z1 zz
   replace z2 := bC hb z2 zz
   replace z3 := bC hb z3 zz
   replace z4 := bC hb z4 zz
   replace z5 := bC hb z5 zz
   replace z6 := bC hb z6 zz
   replace zz := Nat.lt_of_lt_of_le zz hb.size
   replace c0 := bC hb c0 zc
   replace c1 := bC hb c1 zc
   replace c2 := bC hb c2 zc
   replace zc := Nat.lt_of_lt_of_le zc hb.size
   replace r0 := bC hb r0 zr
   replace r1 := bC hb r1 zr
   replace r2 := bC hb r2 zr
   replace r3 := bC hb r3 zr
   replace r4 := bC hb r4 zr
   replace r5 := bC hb r5 zr
   replace r6 := bC hb r6 zr
   replace fr0 := bF hb fr0 zr
   replace fr1 := bF hb fr1 zr
   replace fr2 := bF hb fr2 zr
   replace fr3 := bF hb fr3 zr
   replace fr4 := bF hb fr4 zr
   replace fr5 := bF hb fr5 zr
   replace fr6 := bF hb fr6 zr
   replace zr := Nat.lt_of_lt_of_le zr hb.size
   replace x0 := bC hb x0 zx
   replace x1 := bC hb x1 zx
   replace x2 := bC hb x2 zx
   replace x3 := bC hb x3 zx
   replace x4 := bC hb x4 zx
   replace x5 := bC hb x5 zx
   replace x6 := bC hb x6 zx
   replace zx := Nat.lt_of_lt_of_le zx hb.size
   replace HB := hide (HB.out.trans (hb.mono HB.out.size))
   clear hb
   clear hck HXB HBX
   have e0 : fl = false := by rw [HF0.out]; simp
   subst e0
   go_wp2
   refine bodyPost_ret (v := .tuple #[balv 0 (.slice none 0 0) 0 0 (.slice none 0 0) (.slice none 0 0) (.slice none 0 0), .bool false]) (by simp [results, Tryz.results18, go_sem, r0, r1, r2, r3, r4, r5, r6]) rfl ⟨_, rfl, ?_, setB_below HB.out (by omega) _ _ _ _ _ _ _⟩
   rw [HM.out, setB_size]
   exact bm0_in _ _ _ (by have := HB.out.size; omega)
  | true =>
   go_wp2_with fail
   refine (hck).mono ?_
   rintro e v2 ⟨rfl, hb⟩
   replace HBX := hide (HBX.out.kept hb)
   replace HXB := hide ((hb.block _ (by omega)).trans HXB.out)
   have hs3 := hb.size
   replace z0 := bC hb z0 zz
   replace z1 := bC hb z1 zz
   replace z2 := bC hb z2 zz
   replace z3 := bC hb z3 zz
   replace z4 := bC hb z4 zz
   replace z5 := bC hb z5 zz
   replace z6 := bC hb z6 zz
   replace zz := Nat.lt_of_lt_of_le zz hb.size
   replace c0 := bC hb c0 zc
   replace c1 := bC hb c1 zc
   replace c2 := bC hb c2 zc
   replace zc := Nat.lt_of_lt_of_le zc hb.size
   replace r0 := bC hb r0 zr
   replace r1 := bC hb r1 zr
   replace r2 := bC hb r2 zr
   replace r3 := bC hb r3 zr
   replace r4 := bC hb r4 zr
   replace r5 := bC hb r5 zr
   replace r6 := bC hb r6 zr
   replace fr0 := bF hb fr0 zr
   replace fr1 := bF hb fr1 zr
   replace fr2 := bF hb fr2 zr
   replace fr3 := bF hb fr3 zr
   replace fr4 := bF hb fr4 zr
   replace fr5 := bF hb fr5 zr
   replace fr6 := bF hb fr6 zr
   replace zr := Nat.lt_of_lt_of_le zr hb.size
   replace x0 := bC hb x0 zx
   replace x1 := bC hb x1 zx
   replace x2 := bC hb x2 zx
   replace x3 := bC hb x3 zx
   replace x4 := bC hb x4 zx
   replace x5 := bC hb x5 zx
   replace x6 := bC hb x6 zx
   replace zx := Nat.lt_of_lt_of_le zx hb.size
   replace HB := hide (HB.out.trans (hb.mono HB.out.size))
   clear hb
   clear hck
   have HCR := hide (command_any v1.heap.size W0.heap.size g lt.length xc kq yo yn yc sq kr uo un uc vo vn vc ⟨⟨kj, lj, sj⟩, ⟨kp, lb, lr⟩, lt⟩ k i gg v2 HXB.out HBX.out (by omega) HSMF.out.1 HSMF.out.2 f1)
   clear HXB HBX HSMF
   have hq0 : w.heap.size < v1.heap.size := by omega
   have hq1 : w.heap.size + 1 < v1.heap.size := by omega
   have hq2 : w.heap.size + 1 + 1 < v1.heap.size := by omega
   obtain ⟨nf, hnf⟩ : ∃ x, noteF ⟨kj, lj, sj⟩ k i gg = x := ⟨_, rfl⟩
   rw [hnf] at HF0
   dsimp only at HCR
   rw [hnf] at HCR
   clear hnf
   have e0 : fl = nf := by rw [HF0.out]; simp
   subst e0
   clear HF0
   obtain ⟨cm, hcm⟩ : ∃ x, cmdM ⟨⟨kj, lj, sj⟩, ⟨kp, lb, lr⟩, lt⟩ k i gg = x := ⟨_, rfl⟩
   rw [hcm] at HCR HM HTL
   clear hcm
   go_wp2_with fail
   refine (HCR.out).mono ?_
   rintro e w5 ⟨rfl, g', k1, o1, n1, d1, s1, k2, o2, n2, d2, o3, n3, d3, X5, bx5, s5⟩
   have HX5 := hide X5
   have HBX := hide bx5
   have hs5 := s5.size
   replace r0 := s5.cellP r0 (.inl hq2)
   replace r1 := s5.cellP r1 (.inl hq2)
   replace r2 := s5.cellP r2 (.inl hq2)
   replace r3 := s5.cellP r3 (.inl hq2)
   replace r4 := s5.cellP r4 (.inl hq2)
   replace r5 := s5.cellP r5 (.inl hq2)
   replace r6 := s5.cellP r6 (.inl hq2)
   replace fr0 := Stp.frozen s5 fr0 (by omega) (.inl hq2)
   replace fr1 := Stp.frozen s5 fr1 (by omega) (.inl hq2)
   replace fr2 := Stp.frozen s5 fr2 (by omega) (.inl hq2)
   replace fr3 := Stp.frozen s5 fr3 (by omega) (.inl hq2)
   replace fr4 := Stp.frozen s5 fr4 (by omega) (.inl hq2)
   replace fr5 := Stp.frozen s5 fr5 (by omega) (.inl hq2)
   replace fr6 := Stp.frozen s5 fr6 (by omega) (.inl hq2)
   replace HB := hide (HB.out.trans (s5.below (by omega) HB.out.size))
   clear X5 bx5 s5 HCR x0 z0 x1 z1 x2 z2 x3 z3 x4 z4 x5 z5 x6 z6 zx hW2
   have y0 : w5.cell? ⟨v1.heap.size, 0, none⟩ = some ((.slice (some ⟨g', 0, none⟩) lt.length xc)) := bx_cell HX5.out 0 _ rfl
   have y1 : w5.cell? ⟨v1.heap.size, 1, none⟩ = some (.int .i64 k1) := bx_cell HX5.out 1 _ rfl
   have y2 : w5.cell? ⟨v1.heap.size, 2, none⟩ = some (.slice o1 n1 d1) := bx_cell HX5.out 2 _ rfl
   have y3 : w5.cell? ⟨v1.heap.size, 3, none⟩ = some (.int .i64 s1) := bx_cell HX5.out 3 _ rfl
   have y4 : w5.cell? ⟨v1.heap.size, 4, none⟩ = some (.int .i64 k2) := bx_cell HX5.out 4 _ rfl
   have y5 : w5.cell? ⟨v1.heap.size, 5, none⟩ = some (.slice o2 n2 d2) := bx_cell HX5.out 5 _ rfl
   have y6 : w5.cell? ⟨v1.heap.size, 6, none⟩ = some (.slice o3 n3 d3) := bx_cell HX5.out 6 _ rfl
   have HPL := hide (plainB_any W0.heap.size g' lt.length xc k1 o1 n1 d1 s1 k2 o2 n2 d2 o3 n3 d3 cm w5 (by rw [HTL.out]) (by rw [HTL.out]; exact f7) (by omega) HBX.out)
   clear HBX HX5
   go_wp2_with fail
   refine (HPL.out).mono ?_
   rintro e w6 ⟨tO, tn, tc, rfl, in6, hb6⟩
   have hs6 := hb6.size
   replace r0 := bC hb6 r0 (by omega)
   replace r1 := bC hb6 r1 (by omega)
   replace r2 := bC hb6 r2 (by omega)
   replace r3 := bC hb6 r3 (by omega)
   replace r4 := bC hb6 r4 (by omega)
   replace r5 := bC hb6 r5 (by omega)
   replace r6 := bC hb6 r6 (by omega)
   replace fr0 := bF hb6 fr0 (by omega)
   replace fr1 := bF hb6 fr1 (by omega)
   replace fr2 := bF hb6 fr2 (by omega)
   replace fr3 := bF hb6 fr3 (by omega)
   replace fr4 := bF hb6 fr4 (by omega)
   replace fr5 := bF hb6 fr5 (by omega)
   replace fr6 := bF hb6 fr6 (by omega)
   replace HB := hide (HB.out.trans (hb6.mono HB.out.size))
   have HI6 := hide in6
   clear in6 hb6 HPL y0 y1 y2 y3 y4 y5 y6
   go_wp2
   refine bodyPost_ret (v := .tuple #[balv k1 (.slice o1 n1 d1) s1 k2 (.slice o2 n2 d2) (.slice o3 n3 d3) (.slice tO tn tc), .bool fl]) (by simp [results, Tryz.results18, go_sem, r0, r1, r2, r3, r4, r5, r6]) rfl ⟨_, rfl, ?_, setB_below HB.out (by omega) _ _ _ _ _ _ _⟩
   rw [HM.out, setB_size]
   exact (HI6.out.step (stp_setB _ _ _ _ _ _ _ _ _) (.inl (by omega))).mono (by omega) (Nat.le_refl _)

end Go.Proofs.YtajfkcpifnpkeaaGreat

/- Balancers as an argument of the laws: how they are counted. -/
namespace Go.Proofs.YtajfkcpifnpkeaaGreat
open Go.ChangeShapes Go.WideShapes Go.ChangeAt Go.RowKit Go.Joins
set_option linter.unusedVariables false
set_option linter.unusedSimpArgs false


set_option maxHeartbeats 400000 in
theorem szJournal_n (k s : Int) (o : Option Addr) (len c : Nat) (n : Int) (w : World) (hl : len ≤ maxLen) (h0 : 0 ≤ n) (h1 : n ≤ 1048576) :
  Calls Tryz.prog 44 #[jrn k (.slice o len c) s, .int .i64 n] w fun e w' => e = .returned (.int .i64 (if n - len < 0 then -1 else n - len)) ∧ Below w.heap.size w w' := by
 have hB : Below w.heap.size w w := Below.refl _ _
 have hs := fun W => szPoolCmdS_any o len c n W hl h0 h1
 by_cases h : n - len < 0
 ·rw [if_pos h] at hs
  rw [if_pos h]
  go_enter Tryz.func44, Tryz.ntmps44
  go_wp2_with (go_at_call 97; refine (hs _).mono ?_; rintro e w1 ⟨rfl, rfl⟩)
  go_ret
  exact ⟨rfl, by (repeat (first | with_reducible exact hB | with_reducible exact Below.refl _ _ | with_reducible refine Below.drew ?_ | with_reducible refine below_drewN ?_ _ | with_reducible refine Below.alloc ?_ ?_ _ | with_reducible refine Below.setCell ?_ ?_ _ | (focus (simp; done)) | (focus (simp; omega)) | omega))⟩
 ·rw [if_neg h] at hs
  rw [if_neg h]
  have h' : 0 ≤ n - (len : Int) := by omega
  go_enter Tryz.func44, Tryz.ntmps44
  go_wp2_with (go_at_call 97; refine (hs _).mono ?_; rintro e w1 ⟨rfl, rfl⟩)
  go_ret
  exact ⟨rfl, by (repeat (first | with_reducible exact hB | with_reducible exact Below.refl _ _ | with_reducible refine Below.drew ?_ | with_reducible refine below_drewN ?_ _ | with_reducible refine Below.alloc ?_ ?_ _ | with_reducible refine Below.setCell ?_ ?_ _ | (focus (simp; done)) | (focus (simp; omega)) | omega))⟩
/-- A balancer's lengths may be lengths. -/
def lenBm (m : Bm) : Prop := m.j.l.length ≤ maxLen ∧ lenPm m.p ∧ m.t.length ≤ maxLen

set_option maxRecDepth 100000 in
set_option maxHeartbeats 2000000 in
theorem szBal_sh (v : Value) (m : Bm) (w : World) (hR : RdBm w.heap.size w v m) (hl : lenBm m) :
  Calls Tryz.prog 11 #[v, .int .i64 1048576] w fun e w' => (∃ z : Int, e = .returned (.int .i64 z) ∧ ((z < 0 ∧ -1 ≤ z) ∨ (0 ≤ z ∧ z ≤ 1048576 ∧ fitB0 m))) ∧ Below w.heap.size w w' := by
 obtain ⟨o, c, ob, cb, oR, cR, ot, ct, rfl⟩ := hR.opn
 obtain ⟨vl, vb, vr, vt, e, a1, a2, a3⟩ := hR
 simp only [Value.agg.injEq, Array.mk.injEq, List.cons.injEq, and_true, true_and] at e
 obtain ⟨e1, e2, e3, e4⟩ := e
 subst e1 e2 e3 e4
 obtain ⟨l1, l2, l3⟩ := hl
 have HJ := hide (fun W => szJournal_n m.j.key m.j.safe o m.j.l.length c 1048576 W l1 (by decide) (by decide))
 have HP := hide (fun W (hb : Below w.heap.size w W) n h0 h1 => szPool_n (plv m.p.key (.slice ob m.p.l.length cb) (.slice oR m.p.ring.length cR)) m.p n W ((a2.kept hb (Nat.le_refl _)).le hb.size) l2 h0 h1)
 have HT := hide (fun W n h0 h1 => szTable_n ot m.t.length ct n W l3 h0 h1)
 have HFI := hide (show m.j.l.length ≤ 1048576 → fitPm m.p → m.t.length ≤ 1048576 → fitB0 m from fun x y z => ⟨x, y, z⟩)
 clear a1 a2 a3 l1 l2 l3
 generalize m.j.l.length = nj at *
 generalize m.p.l.length = np at *
 generalize m.p.ring.length = nr at *
 generalize m.t.length = nt at *
 generalize m.j.key = kj at *
 generalize m.j.safe = sj at *
 generalize m.p.key = kp at *
 obtain ⟨W0, hW0⟩ : ∃ W, (w.alloc (.cells #[.int .i64 kj, .slice o nj c, .int .i64 sj, .int .i64 kp, .slice ob np cb, .slice oR nr cR, .slice ot nt ct] 33)) = W := ⟨_, rfl⟩
 have hb_W0 : Below w.heap.size w W0 := by rw [← hW0]; exact ((Below.refl _ _).alloc (Nat.le_refl _) _)
 have HB := hide hb_W0
 clear hb_W0
 have zz : w.heap.size < W0.heap.size := by rw [← hW0]; simp
 have z0 : W0.cell? ⟨w.heap.size, 0, none⟩ = some (.int .i64 kj) := by rw [← hW0]; simp [go_sem]
 have z1 : W0.cell? ⟨w.heap.size, 1, none⟩ = some (.slice o nj c) := by rw [← hW0]; simp [go_sem]
 have z2 : W0.cell? ⟨w.heap.size, 2, none⟩ = some (.int .i64 sj) := by rw [← hW0]; simp [go_sem]
 have z3 : W0.cell? ⟨w.heap.size, 3, none⟩ = some (.int .i64 kp) := by rw [← hW0]; simp [go_sem]
 have z4 : W0.cell? ⟨w.heap.size, 4, none⟩ = some (.slice ob np cb) := by rw [← hW0]; simp [go_sem]
 have z5 : W0.cell? ⟨w.heap.size, 5, none⟩ = some (.slice oR nr cR) := by rw [← hW0]; simp [go_sem]
 have z6 : W0.cell? ⟨w.heap.size, 6, none⟩ = some (.slice ot nt ct) := by rw [← hW0]; simp [go_sem]
 go_enter Tryz.func11, Tryz.ntmps11
 go_wp2_with fail
 refine (HJ.out W0).mono ?_
 rintro e v1 ⟨rfl, hb⟩
 replace z0 := bC hb z0 zz
 replace z1 := bC hb z1 zz
 replace z2 := bC hb z2 zz
 replace z3 := bC hb z3 zz
 replace z4 := bC hb z4 zz
 replace z5 := bC hb z5 zz
 replace z6 := bC hb z6 zz
 replace zz := Nat.lt_of_lt_of_le zz hb.size
 replace HB := hide (HB.out.trans (hb.mono HB.out.size))
 clear hb
 by_cases hj : (1048576 : Int) - nj < 0
 ·rw [if_pos hj]
  go_wp2
  go_ret
  exact ⟨⟨_, rfl, .inl ⟨by decide, by decide⟩⟩, HB.out⟩
 rw [if_neg hj]
 have hj0 : (0 : Int) ≤ 1048576 - (nj : Int) := by omega
 have hj1 : (1048576 : Int) - (nj : Int) ≤ 1048576 := by omega
 have HPQ := hide (HP.out v1 HB.out _ hj0 hj1)
 clear HP
 obtain ⟨y, hy⟩ : ∃ y, (1048576 : Int) - (nj : Int) = y := ⟨_, rfl⟩
 rw [hy] at HPQ hj0 hj1 ⊢
 have HY := hide hy
 clear hy hj
 go_wp2_with fail
 refine (HPQ.out).mono ?_
 rintro e v2 ⟨⟨z, rfl, hz⟩, hb⟩
 replace z0 := bC hb z0 zz
 replace z1 := bC hb z1 zz
 replace z2 := bC hb z2 zz
 replace z3 := bC hb z3 zz
 replace z4 := bC hb z4 zz
 replace z5 := bC hb z5 zz
 replace z6 := bC hb z6 zz
 replace zz := Nat.lt_of_lt_of_le zz hb.size
 replace HB := hide (HB.out.trans (hb.mono HB.out.size))
 clear hb
 rcases hz with ⟨hz1, hz2⟩ | ⟨hz1, hz2, HF⟩
 ·go_wp2
  go_ret
  exact ⟨⟨_, rfl, .inl ⟨by decide, by decide⟩⟩, HB.out⟩
 have HF' := hide HF
 clear HF
 have HTQ := hide (HT.out v2 z hz1 (by omega))
 clear HT
 go_wp2_with fail
 refine (HTQ.out).mono ?_
 rintro e v3 ⟨rfl, hb⟩
 replace z0 := bC hb z0 zz
 replace z1 := bC hb z1 zz
 replace z2 := bC hb z2 zz
 replace z3 := bC hb z3 zz
 replace z4 := bC hb z4 zz
 replace z5 := bC hb z5 zz
 replace z6 := bC hb z6 zz
 replace zz := Nat.lt_of_lt_of_le zz hb.size
 replace HB := hide (HB.out.trans (hb.mono HB.out.size))
 clear hb
 by_cases ht : z - (nt : Int) < 0
 ·rw [if_pos ht]
  go_wp2
  go_ret
  exact ⟨⟨_, rfl, .inl ⟨by decide, by decide⟩⟩, HB.out⟩
 rw [if_neg ht]
 have ht0 : (0 : Int) ≤ z - (nt : Int) := by omega
 have HFF : Hid (fitB0 m) := HFI.out (by have := HY.out; omega) HF'.out (by omega)
 go_wp2
 go_ret
 exact ⟨⟨_, rfl, .inr ⟨ht0, by omega, HFF.out⟩⟩, HB.out⟩

end Go.Proofs.YtajfkcpifnpkeaaGreat

/- Balancers as an argument of the laws: how they are copied. -/
namespace Go.Proofs.YtajfkcpifnpkeaaGreat
open Go.ChangeShapes Go.WideShapes Go.ChangeAt Go.RowKit Go.Joins
set_option linter.unusedVariables false
set_option linter.unusedSimpArgs false


theorem inJm_wideB {a b a' b' : Nat} {w : World} {v : Value} {m : Jm} (h : InJm a b w v m) (h1 : a' ≤ a) (h2 : b ≤ b') : InJm a' b' w v m := by
 obtain ⟨vl, e, i1⟩ := h
 exact ⟨vl, e, InRow.mono i1 h1 h2⟩
set_option maxRecDepth 100000 in
set_option maxHeartbeats 4000000 in
theorem toBal_go (kj : Int) (o : Option Addr) (nj c : Nat) (sj kp : Int) (ob : Option Addr) (np cb : Nat) (oR : Option Addr) (nr cR : Nat) (ot : Option Addr) (nt ct : Nat) (m : Bm) (w : World)
  (hkj : m.j.key = kj) (hsj : m.j.safe = sj) (hkp : m.p.key = kp) (hnj : m.j.l.length = nj) (hnp : m.p.l.length = np) (hnr : m.p.ring.length = nr) (hnt : m.t.length = nt)
  (h1 : RdJm w.heap.size w (jrn kj (.slice o nj c) sj) m.j) (h2 : RdPm w.heap.size w (plv kp (.slice ob np cb) (.slice oR nr cR)) m.p) (h3 : RdT w.heap.size w (tab (.slice ot nt ct)) m.t) (hf : fitB0 m) :
  Calls Tryz.prog 13 #[balv kj (.slice o nj c) sj kp (.slice ob np cb) (.slice oR nr cR) (.slice ot nt ct)] w fun e w' => ∃ v', e = .returned v' ∧ InBm w.heap.size w'.heap.size w' v' m ∧ Below w.heap.size w w' := by
 have HJ := hide (fun W (hb : Below w.heap.size w W) => toJournal_sh (jrn kj (.slice o nj c) sj) m.j W ((h1.kept hb (Nat.le_refl _)).le hb.size) hf.1)
 have HP := hide (fun W (hb : Below w.heap.size w W) => toPool_sh (plv kp (.slice ob np cb) (.slice oR nr cR)) m.p W ((h2.kept hb (Nat.le_refl _)).le hb.size) hf.2.1)
 have HT := hide (fun W (hb : Below w.heap.size w W) => toTable_sh (tab (.slice ot nt ct)) m.t W ((h3.kept hb (Nat.le_refl _)).le hb.size) hf.2.2)
 have HK := hide (And.intro hkj (And.intro hsj (And.intro hkp (And.intro hnj (And.intro hnp (And.intro hnr hnt))))))
 clear h1 h2 h3 hf hkj hsj hkp hnj hnp hnr hnt
 obtain ⟨W0, hW0⟩ : ∃ W, (((w.alloc (.cells #[.int .i64 kj, .slice o nj c, .int .i64 sj, .int .i64 kp, .slice ob np cb, .slice oR nr cR, .slice ot nt ct] 33)).alloc (.cells #[.int .i64 0, .slice none 0 0, .int .i64 0, .int .i64 0, .slice none 0 0, .slice none 0 0, .slice none 0 0] 46)).alloc (.cells #[.int .i64 0, .slice none 0 0, .int .i64 0, .int .i64 0, .slice none 0 0, .slice none 0 0, .slice none 0 0] 46)) = W := ⟨_, rfl⟩
 have HB0 := hide (show Below w.heap.size w W0 by rw [← hW0]; exact ((((Below.refl _ _).alloc (Nat.le_refl _) _).alloc (by simp <;> omega) _).alloc (by simp <;> omega) _))
 have zx : w.heap.size + 1 + 1 < W0.heap.size := by rw [← hW0]; simp
 have a00 : W0.cell? ⟨w.heap.size, 0, none⟩ = some (.int .i64 kj) := by rw [← hW0]; simp [go_sem]
 have a01 : W0.cell? ⟨w.heap.size, 1, none⟩ = some (.slice o nj c) := by rw [← hW0]; simp [go_sem]
 have a02 : W0.cell? ⟨w.heap.size, 2, none⟩ = some (.int .i64 sj) := by rw [← hW0]; simp [go_sem]
 have a03 : W0.cell? ⟨w.heap.size, 3, none⟩ = some (.int .i64 kp) := by rw [← hW0]; simp [go_sem]
 have a04 : W0.cell? ⟨w.heap.size, 4, none⟩ = some (.slice ob np cb) := by rw [← hW0]; simp [go_sem]
 have a05 : W0.cell? ⟨w.heap.size, 5, none⟩ = some (.slice oR nr cR) := by rw [← hW0]; simp [go_sem]
 have a06 : W0.cell? ⟨w.heap.size, 6, none⟩ = some (.slice ot nt ct) := by rw [← hW0]; simp [go_sem]
 have HX0 := hide (show W0.heap[w.heap.size + 1 + 1]? = some (.cells #[.int .i64 0, .slice none 0 0, .int .i64 0, .int .i64 0, .slice none 0 0, .slice none 0 0, .slice none 0 0] 46 (0, 0)) by rw [← hW0]; exact box_new3 w _ _ _ _)
 have HR0 := hide (show W0.heap[w.heap.size + 1]? = some (.cells #[.int .i64 0, .slice none 0 0, .int .i64 0, .int .i64 0, .slice none 0 0, .slice none 0 0, .slice none 0 0] 46 (0, 0)) by rw [← hW0]; exact box_mid3 w _ _ _ _)
 have hsW : w.heap.size ≤ W0.heap.size := HB0.out.size
 go_enter Tryz.func13, Tryz.ntmps13
 go_wp2_with fail
 refine (HJ.out W0 HB0.out).mono ?_
 rintro e v1 ⟨u0v, rfl, inA, hb⟩
 obtain ⟨vl7, ev7, o7, c7, el7, _⟩ := inA.rd
 rw [HK.out.1, HK.out.2.1] at ev7
 rw [HK.out.2.2.2.1] at el7
 subst el7 ev7
 have hs0v : W0.heap.size ≤ v1.heap.size := hb.size
 have hx := (hb.block _ (show w.heap.size + 1 + 1 < W0.heap.size by omega)).trans HX0.out
 have hr := (hb.block _ (show w.heap.size + 1 < W0.heap.size by omega)).trans HR0.out
 have y0 := bC hb a00 (show w.heap.size < W0.heap.size by omega)
 have y1 := bC hb a01 (show w.heap.size < W0.heap.size by omega)
 have y2 := bC hb a02 (show w.heap.size < W0.heap.size by omega)
 have y3 := bC hb a03 (show w.heap.size < W0.heap.size by omega)
 have y4 := bC hb a04 (show w.heap.size < W0.heap.size by omega)
 have y5 := bC hb a05 (show w.heap.size < W0.heap.size by omega)
 have y6 := bC hb a06 (show w.heap.size < W0.heap.size by omega)
 have p0 := bx_cell hx 0 _ rfl
 have p1 := bx_cell hx 1 _ rfl
 have p2 := bx_cell hx 2 _ rfl
 have q0 := bx_frozen hx 0
 have q1 := bx_frozen hx 1
 have q2 := bx_frozen hx 2
 obtain ⟨W1, hW1⟩ : ∃ W, (((v1.setCell ⟨w.heap.size + 1 + 1, 0, none⟩ (.int .i64 kj)).setCell ⟨w.heap.size + 1 + 1, 1, none⟩ (.slice o7 nj c7)).setCell ⟨w.heap.size + 1 + 1, 2, none⟩ (.int .i64 sj)) = W := ⟨_, rfl⟩
 have HX1 := hide (show W1.heap[w.heap.size + 1 + 1]? = some (.cells #[.int .i64 kj, .slice o7 nj c7, .int .i64 sj, .int .i64 0, .slice none 0 0, .slice none 0 0, .slice none 0 0] 46 (0, 0)) by rw [← hW1]; exact (box_put (box_put (box_put hx 0 (.int .i64 kj)) 1 (.slice o7 nj c7)) 2 (.int .i64 sj)))
 have HR1 := hide (show W1.heap[w.heap.size + 1]? = some (.cells #[.int .i64 0, .slice none 0 0, .int .i64 0, .int .i64 0, .slice none 0 0, .slice none 0 0, .slice none 0 0] 46 (0, 0)) by rw [← hW1]; exact ((far_block (by omega) _ _).trans ((far_block (by omega) _ _).trans ((far_block (by omega) _ _).trans hr))))
 have hs1 : W1.heap.size = v1.heap.size := by rw [← hW1]; simp
 have HB1 := hide (show Below w.heap.size w W1 by rw [← hW1]; exact ((((HB0.out.trans (hb.mono HB0.out.size)).setCell (p := ⟨w.heap.size + 1 + 1, 0, none⟩) (show w.heap.size ≤ w.heap.size + 1 + 1 by omega) _).setCell (p := ⟨w.heap.size + 1 + 1, 1, none⟩) (show w.heap.size ≤ w.heap.size + 1 + 1 by omega) _).setCell (p := ⟨w.heap.size + 1 + 1, 2, none⟩) (show w.heap.size ≤ w.heap.size + 1 + 1 by omega) _))
 have sp : Stp (w.heap.size + 1 + 1) (w.heap.size + 1 + 1 + 1) v1 W1 := by rw [← hW1]; exact (((stp_set v1 (w.heap.size + 1 + 1) 0 (.int .i64 kj)).trans (stp_set (v1.setCell ⟨w.heap.size + 1 + 1, 0, none⟩ (.int .i64 kj)) (w.heap.size + 1 + 1) 1 (.slice o7 nj c7))).trans (stp_set ((v1.setCell ⟨w.heap.size + 1 + 1, 0, none⟩ (.int .i64 kj)).setCell ⟨w.heap.size + 1 + 1, 1, none⟩ (.slice o7 nj c7)) (w.heap.size + 1 + 1) 2 (.int .i64 sj)))
 have IN0 := hide (inA.step sp (.inl (by omega)))
 have a10 : W1.cell? ⟨w.heap.size, 0, none⟩ = some (.int .i64 kj) := by rw [← hW1]; exact ((cell_far (by omega)).trans ((cell_far (by omega)).trans ((cell_far (by omega)).trans y0)))
 have a11 : W1.cell? ⟨w.heap.size, 1, none⟩ = some (.slice o nj c) := by rw [← hW1]; exact ((cell_far (by omega)).trans ((cell_far (by omega)).trans ((cell_far (by omega)).trans y1)))
 have a12 : W1.cell? ⟨w.heap.size, 2, none⟩ = some (.int .i64 sj) := by rw [← hW1]; exact ((cell_far (by omega)).trans ((cell_far (by omega)).trans ((cell_far (by omega)).trans y2)))
 have a13 : W1.cell? ⟨w.heap.size, 3, none⟩ = some (.int .i64 kp) := by rw [← hW1]; exact ((cell_far (by omega)).trans ((cell_far (by omega)).trans ((cell_far (by omega)).trans y3)))
 have a14 : W1.cell? ⟨w.heap.size, 4, none⟩ = some (.slice ob np cb) := by rw [← hW1]; exact ((cell_far (by omega)).trans ((cell_far (by omega)).trans ((cell_far (by omega)).trans y4)))
 have a15 : W1.cell? ⟨w.heap.size, 5, none⟩ = some (.slice oR nr cR) := by rw [← hW1]; exact ((cell_far (by omega)).trans ((cell_far (by omega)).trans ((cell_far (by omega)).trans y5)))
 have a16 : W1.cell? ⟨w.heap.size, 6, none⟩ = some (.slice ot nt ct) := by rw [← hW1]; exact ((cell_far (by omega)).trans ((cell_far (by omega)).trans ((cell_far (by omega)).trans y6)))
 clear hx hr hb inA sp y0 a00 y1 a01 y2 a02 y3 a03 y4 a04 y5 a05 y6 a06 HB0 HX0 HR0
 go_wp2_with fail
 refine (HP.out W1 HB1.out).mono ?_
 rintro e v2 ⟨u1v, rfl, inA, hb⟩
 obtain ⟨o8, c8, oR8, cR8, ev8⟩ := inA.opn
 rw [HK.out.2.2.1, HK.out.2.2.2.2.1, HK.out.2.2.2.2.2.1] at ev8
 subst ev8
 have hs1v : W1.heap.size ≤ v2.heap.size := hb.size
 have hx := (hb.block _ (show w.heap.size + 1 + 1 < W1.heap.size by omega)).trans HX1.out
 have hr := (hb.block _ (show w.heap.size + 1 < W1.heap.size by omega)).trans HR1.out
 have y0 := bC hb a10 (show w.heap.size < W1.heap.size by omega)
 have y1 := bC hb a11 (show w.heap.size < W1.heap.size by omega)
 have y2 := bC hb a12 (show w.heap.size < W1.heap.size by omega)
 have y3 := bC hb a13 (show w.heap.size < W1.heap.size by omega)
 have y4 := bC hb a14 (show w.heap.size < W1.heap.size by omega)
 have y5 := bC hb a15 (show w.heap.size < W1.heap.size by omega)
 have y6 := bC hb a16 (show w.heap.size < W1.heap.size by omega)
 replace IN0 := hide (IN0.out.step (Stp.of (lo := 0) (hi := 0) hb) (.inl (Nat.zero_le _)))
 have p3 := bx_cell hx 3 _ rfl
 have p4 := bx_cell hx 4 _ rfl
 have p5 := bx_cell hx 5 _ rfl
 have q3 := bx_frozen hx 3
 have q4 := bx_frozen hx 4
 have q5 := bx_frozen hx 5
 obtain ⟨W2, hW2⟩ : ∃ W, (((v2.setCell ⟨w.heap.size + 1 + 1, 3, none⟩ (.int .i64 kp)).setCell ⟨w.heap.size + 1 + 1, 4, none⟩ (.slice o8 np c8)).setCell ⟨w.heap.size + 1 + 1, 5, none⟩ (.slice oR8 nr cR8)) = W := ⟨_, rfl⟩
 have HX2 := hide (show W2.heap[w.heap.size + 1 + 1]? = some (.cells #[.int .i64 kj, .slice o7 nj c7, .int .i64 sj, .int .i64 kp, .slice o8 np c8, .slice oR8 nr cR8, .slice none 0 0] 46 (0, 0)) by rw [← hW2]; exact (box_put (box_put (box_put hx 3 (.int .i64 kp)) 4 (.slice o8 np c8)) 5 (.slice oR8 nr cR8)))
 have HR2 := hide (show W2.heap[w.heap.size + 1]? = some (.cells #[.int .i64 0, .slice none 0 0, .int .i64 0, .int .i64 0, .slice none 0 0, .slice none 0 0, .slice none 0 0] 46 (0, 0)) by rw [← hW2]; exact ((far_block (by omega) _ _).trans ((far_block (by omega) _ _).trans ((far_block (by omega) _ _).trans hr))))
 have hs2 : W2.heap.size = v2.heap.size := by rw [← hW2]; simp
 have HB2 := hide (show Below w.heap.size w W2 by rw [← hW2]; exact ((((HB1.out.trans (hb.mono HB1.out.size)).setCell (p := ⟨w.heap.size + 1 + 1, 3, none⟩) (show w.heap.size ≤ w.heap.size + 1 + 1 by omega) _).setCell (p := ⟨w.heap.size + 1 + 1, 4, none⟩) (show w.heap.size ≤ w.heap.size + 1 + 1 by omega) _).setCell (p := ⟨w.heap.size + 1 + 1, 5, none⟩) (show w.heap.size ≤ w.heap.size + 1 + 1 by omega) _))
 have sp : Stp (w.heap.size + 1 + 1) (w.heap.size + 1 + 1 + 1) v2 W2 := by rw [← hW2]; exact (((stp_set v2 (w.heap.size + 1 + 1) 3 (.int .i64 kp)).trans (stp_set (v2.setCell ⟨w.heap.size + 1 + 1, 3, none⟩ (.int .i64 kp)) (w.heap.size + 1 + 1) 4 (.slice o8 np c8))).trans (stp_set ((v2.setCell ⟨w.heap.size + 1 + 1, 3, none⟩ (.int .i64 kp)).setCell ⟨w.heap.size + 1 + 1, 4, none⟩ (.slice o8 np c8)) (w.heap.size + 1 + 1) 5 (.slice oR8 nr cR8)))
 replace IN0 := hide (IN0.out.step sp (.inl (by omega)))
 have IN1 := hide (inA.step sp (.inl (by omega)))
 have a20 : W2.cell? ⟨w.heap.size, 0, none⟩ = some (.int .i64 kj) := by rw [← hW2]; exact ((cell_far (by omega)).trans ((cell_far (by omega)).trans ((cell_far (by omega)).trans y0)))
 have a21 : W2.cell? ⟨w.heap.size, 1, none⟩ = some (.slice o nj c) := by rw [← hW2]; exact ((cell_far (by omega)).trans ((cell_far (by omega)).trans ((cell_far (by omega)).trans y1)))
 have a22 : W2.cell? ⟨w.heap.size, 2, none⟩ = some (.int .i64 sj) := by rw [← hW2]; exact ((cell_far (by omega)).trans ((cell_far (by omega)).trans ((cell_far (by omega)).trans y2)))
 have a23 : W2.cell? ⟨w.heap.size, 3, none⟩ = some (.int .i64 kp) := by rw [← hW2]; exact ((cell_far (by omega)).trans ((cell_far (by omega)).trans ((cell_far (by omega)).trans y3)))
 have a24 : W2.cell? ⟨w.heap.size, 4, none⟩ = some (.slice ob np cb) := by rw [← hW2]; exact ((cell_far (by omega)).trans ((cell_far (by omega)).trans ((cell_far (by omega)).trans y4)))
 have a25 : W2.cell? ⟨w.heap.size, 5, none⟩ = some (.slice oR nr cR) := by rw [← hW2]; exact ((cell_far (by omega)).trans ((cell_far (by omega)).trans ((cell_far (by omega)).trans y5)))
 have a26 : W2.cell? ⟨w.heap.size, 6, none⟩ = some (.slice ot nt ct) := by rw [← hW2]; exact ((cell_far (by omega)).trans ((cell_far (by omega)).trans ((cell_far (by omega)).trans y6)))
 clear hx hr hb inA sp y0 a10 y1 a11 y2 a12 y3 a13 y4 a14 y5 a15 y6 a16 HB1 HX1 HR1
 go_wp2_with fail
 refine (HT.out W2 HB2.out).mono ?_
 rintro e v3 ⟨u2v, rfl, inA, hb⟩
 obtain ⟨vt9, ev9, o9, c9, el9, _⟩ := inA.rd
 rw [HK.out.2.2.2.2.2.2] at el9
 subst el9 ev9
 have hs2v : W2.heap.size ≤ v3.heap.size := hb.size
 have hx := (hb.block _ (show w.heap.size + 1 + 1 < W2.heap.size by omega)).trans HX2.out
 have hr := (hb.block _ (show w.heap.size + 1 < W2.heap.size by omega)).trans HR2.out
 have y0 := bC hb a20 (show w.heap.size < W2.heap.size by omega)
 have y1 := bC hb a21 (show w.heap.size < W2.heap.size by omega)
 have y2 := bC hb a22 (show w.heap.size < W2.heap.size by omega)
 have y3 := bC hb a23 (show w.heap.size < W2.heap.size by omega)
 have y4 := bC hb a24 (show w.heap.size < W2.heap.size by omega)
 have y5 := bC hb a25 (show w.heap.size < W2.heap.size by omega)
 have y6 := bC hb a26 (show w.heap.size < W2.heap.size by omega)
 replace IN0 := hide (IN0.out.step (Stp.of (lo := 0) (hi := 0) hb) (.inl (Nat.zero_le _)))
 replace IN1 := hide (IN1.out.step (Stp.of (lo := 0) (hi := 0) hb) (.inl (Nat.zero_le _)))
 have p6 := bx_cell hx 6 _ rfl
 have q6 := bx_frozen hx 6
 obtain ⟨W3, hW3⟩ : ∃ W, (v3.setCell ⟨w.heap.size + 1 + 1, 6, none⟩ (.slice o9 nt c9)) = W := ⟨_, rfl⟩
 have HX3 := hide (show W3.heap[w.heap.size + 1 + 1]? = some (.cells #[.int .i64 kj, .slice o7 nj c7, .int .i64 sj, .int .i64 kp, .slice o8 np c8, .slice oR8 nr cR8, .slice o9 nt c9] 46 (0, 0)) by rw [← hW3]; exact (box_put hx 6 (.slice o9 nt c9)))
 have HR3 := hide (show W3.heap[w.heap.size + 1]? = some (.cells #[.int .i64 0, .slice none 0 0, .int .i64 0, .int .i64 0, .slice none 0 0, .slice none 0 0, .slice none 0 0] 46 (0, 0)) by rw [← hW3]; exact ((far_block (by omega) _ _).trans hr))
 have hs3 : W3.heap.size = v3.heap.size := by rw [← hW3]; simp
 have HB3 := hide (show Below w.heap.size w W3 by rw [← hW3]; exact ((HB2.out.trans (hb.mono HB2.out.size)).setCell (p := ⟨w.heap.size + 1 + 1, 6, none⟩) (show w.heap.size ≤ w.heap.size + 1 + 1 by omega) _))
 have sp : Stp (w.heap.size + 1 + 1) (w.heap.size + 1 + 1 + 1) v3 W3 := by rw [← hW3]; exact (stp_set v3 (w.heap.size + 1 + 1) 6 (.slice o9 nt c9))
 replace IN0 := hide (IN0.out.step sp (.inl (by omega)))
 replace IN1 := hide (IN1.out.step sp (.inl (by omega)))
 have IN2 := hide (inA.step sp (.inl (by omega)))
 have a30 : W3.cell? ⟨w.heap.size, 0, none⟩ = some (.int .i64 kj) := by rw [← hW3]; exact ((cell_far (by omega)).trans y0)
 have a31 : W3.cell? ⟨w.heap.size, 1, none⟩ = some (.slice o nj c) := by rw [← hW3]; exact ((cell_far (by omega)).trans y1)
 have a32 : W3.cell? ⟨w.heap.size, 2, none⟩ = some (.int .i64 sj) := by rw [← hW3]; exact ((cell_far (by omega)).trans y2)
 have a33 : W3.cell? ⟨w.heap.size, 3, none⟩ = some (.int .i64 kp) := by rw [← hW3]; exact ((cell_far (by omega)).trans y3)
 have a34 : W3.cell? ⟨w.heap.size, 4, none⟩ = some (.slice ob np cb) := by rw [← hW3]; exact ((cell_far (by omega)).trans y4)
 have a35 : W3.cell? ⟨w.heap.size, 5, none⟩ = some (.slice oR nr cR) := by rw [← hW3]; exact ((cell_far (by omega)).trans y5)
 have a36 : W3.cell? ⟨w.heap.size, 6, none⟩ = some (.slice ot nt ct) := by rw [← hW3]; exact ((cell_far (by omega)).trans y6)
 clear hx hr hb inA sp y0 a20 y1 a21 y2 a22 y3 a23 y4 a24 y5 a25 y6 a26 HB2 HX2 HR2
 have x0 := bx_cell HX3.out 0 _ rfl
 have x1 := bx_cell HX3.out 1 _ rfl
 have x2 := bx_cell HX3.out 2 _ rfl
 have x3 := bx_cell HX3.out 3 _ rfl
 have x4 := bx_cell HX3.out 4 _ rfl
 have x5 := bx_cell HX3.out 5 _ rfl
 have x6 := bx_cell HX3.out 6 _ rfl
 have r0 := bx_cell HR3.out 0 _ rfl
 have r1 := bx_cell HR3.out 1 _ rfl
 have r2 := bx_cell HR3.out 2 _ rfl
 have r3 := bx_cell HR3.out 3 _ rfl
 have r4 := bx_cell HR3.out 4 _ rfl
 have r5 := bx_cell HR3.out 5 _ rfl
 have r6 := bx_cell HR3.out 6 _ rfl
 have fr0 := bx_frozen HR3.out 0
 have fr1 := bx_frozen HR3.out 1
 have fr2 := bx_frozen HR3.out 2
 have fr3 := bx_frozen HR3.out 3
 have fr4 := bx_frozen HR3.out 4
 have fr5 := bx_frozen HR3.out 5
 have fr6 := bx_frozen HR3.out 6
 have HFI : Hid (InBm w.heap.size (setB W3 (w.heap.size + 1) (.int .i64 kj) (.slice o7 nj c7) (.int .i64 sj) (.int .i64 kp) (.slice o8 np c8) (.slice oR8 nr cR8) (.slice o9 nt c9)).heap.size (setB W3 (w.heap.size + 1) (.int .i64 kj) (.slice o7 nj c7) (.int .i64 sj) (.int .i64 kp) (.slice o8 np c8) (.slice oR8 nr cR8) (.slice o9 nt c9)) (balv kj (.slice o7 nj c7) sj kp (.slice o8 np c8) (.slice oR8 nr cR8) (.slice o9 nt c9)) m) := by
  have s9 := stp_setB W3 (w.heap.size + 1) (.int .i64 kj) (.slice o7 nj c7) (.int .i64 sj) (.int .i64 kp) (.slice o8 np c8) (.slice oR8 nr cR8) (.slice o9 nt c9)
  obtain ⟨e1, e2, e3, _⟩ := HK.out
  refine ⟨.slice o7 nj c7, .slice o8 np c8, .slice oR8 nr cR8, .slice o9 nt c9, w.heap.size, v1.heap.size, v1.heap.size, v2.heap.size, v2.heap.size, W3.heap.size, by rw [e1, e2, e3], by rw [setB_size]; omega, ?_, ?_, ?_⟩
  ·rw [e1, e2]; exact inJm_wideB (IN0.out.step s9 (.inl (by omega))) (by omega) (by omega)
  ·rw [e3]; exact inPm_wide (IN1.out.step s9 (.inl (by omega))) (by omega) (by omega)
  ·exact (IN2.out.step s9 (.inl (by omega))).mono (by omega) (by omega)
 go_wp2
 refine bodyPost_ret (v := balv kj (.slice o7 nj c7) sj kp (.slice o8 np c8) (.slice oR8 nr cR8) (.slice o9 nt c9)) (by simp [results, Tryz.results13, go_sem, r0, r1, r2, r3, r4, r5, r6]) rfl ⟨_, rfl, HFI.out, setB_below HB3.out (Nat.le_succ _) _ _ _ _ _ _ _⟩

theorem toBal_sh (v : Value) (m : Bm) (w : World) (hR : RdBm w.heap.size w v m) (hf : fitB0 m) :
  Calls Tryz.prog 13 #[v] w fun e w' => ∃ v', e = .returned v' ∧ InBm w.heap.size w'.heap.size w' v' m ∧ Below w.heap.size w w' := by
 obtain ⟨o, c, ob, cb, oR, cR, ot, ct, rfl⟩ := hR.opn
 obtain ⟨vl, vb, vr, vt, e, a1, a2, a3⟩ := hR
 simp only [Value.agg.injEq, Array.mk.injEq, List.cons.injEq, and_true, true_and] at e
 obtain ⟨e1, e2, e3, e4⟩ := e
 subst e1 e2 e3 e4
 exact toBal_go _ o _ c _ _ ob _ cb oR _ cR ot _ ct m w rfl rfl rfl rfl rfl rfl rfl a1 a2 a3 hf

end Go.Proofs.YtajfkcpifnpkeaaGreat

/- A balancer's copy, opened. -/
namespace Go.Proofs.YtajfkcpifnpkeaaGreat
open Go.ChangeShapes Go.WideShapes Go.ChangeAt Go.RowKit Go.Joins
set_option linter.unusedVariables false
set_option linter.unusedSimpArgs false

theorem balIn_open {lo hi : Nat} {w : World} {v : Value} {m : Bm} (h : InBm lo hi w v m) (hh : hi ≤ w.heap.size) : ∃ (o : Option Addr) (c : Nat) (ob : Option Addr) (cb : Nat) (oR : Option Addr) (cR : Nat) (ot : Option Addr) (ct : Nat), v = balv m.j.key (.slice o m.j.l.length c) m.j.safe m.p.key (.slice ob m.p.l.length cb) (.slice oR m.p.ring.length cR) (.slice ot m.t.length ct) ∧ RdC w.heap.size w o m.j.l ∧ (o = none → c = 0) ∧ RdPm w.heap.size w (plv m.p.key (.slice ob m.p.l.length cb) (.slice oR m.p.ring.length cR)) m.p ∧ RdS w.heap.size w ot m.t := by
 obtain ⟨vl, vb, vr, vt, j0, j1, p0, p1, t0, t1, e, kk, hj, hp, ht⟩ := h
 have cj := hj.cap
 obtain ⟨vl', e1, o, c, e1', r1⟩ := hj.rd
 obtain ⟨ob, cb, oR, cR, e2⟩ := hp.opn
 obtain ⟨vt', e3, ot, ct, e3', r3⟩ := ht.rd
 simp only [Value.agg.injEq, Array.mk.injEq, List.cons.injEq, and_true, true_and] at e1 e2 e3
 obtain ⟨e21, e22⟩ := e2
 subst e1 e1' e3 e3' e21 e22
 exact ⟨o, c, ob, cb, oR, cR, ot, ct, e, r1.le (by omega), capJm.one cj, hp.rd.le (by omega), r3.le (by omega)⟩
end Go.Proofs.YtajfkcpifnpkeaaGreat

