/- Several texts in one: SNote, SNote2. -/
import Derived.Test.YtflakpmcgopdaaaGrSRep
import Derived.Test.YtflakpmcgopdaaaGrCut4
import Derived.Deep.RegionHeld3
import Derived.Deep.CutRange
/- Note, on both sides. -/
namespace Go.Proofs.Ytflakpmcgopdaaa
open Go.ChangeShapes Go.WideShapes Go.ChangeAt Go.RowKit Go.Joins
set_option linter.unusedVariables false
set_option linter.unusedSimpArgs false

def noteD (key : Int) (l : List Cd) (k i g : Int) : Bool := (doL (servedOf l l.length) k i g).isSome && !decide (100 ≤ l.length)
def noteB (m : Jm) (k i g : Int) : Bool := journalB m.key m.l m.safe && cmdOkB k i g
/-- What Note tells. -/
def noteM (m : Jm) (k i g : Int) : Jm := if noteB m k i g = true then (if noteD m.key m.l k i g = true then ⟨m.key, m.l ++ [(k, i, g)], (m.l.length : Int) + 1⟩ else m) else jm0
def noteF (m : Jm) (k i g : Int) : Bool := noteB m k i g && noteD m.key m.l k i g
theorem noteM_fit {m : Jm} (k i g : Int) (h : fitJm m) : (noteM m k i g).l.length ≤ 1048576 := by
  unfold noteM
  split
  · split
    · next hb hd =>
      unfold noteB at hb
      simp only [Bool.and_eq_true] at hb
      have := (journal_facts hb.1).2.1
      simp; omega
    · exact h
  · decide
theorem rd_oneC {w : World} {x y z : Int} {T : TypeId} : RdC (w.alloc (.cells #[.int .i64 x, .int .i64 y, .int .i64 z] T)).heap.size (w.alloc (.cells #[.int .i64 x, .int .i64 y, .int .i64 z] T)) (some ⟨w.heap.size, 0, none⟩) [(x, y, z)] :=
  .inr ⟨w.heap.size, 0, rfl, by simp, fun i hi j hj => by
    have e1 : i = 0 := by simpa using hi
    subst e1
    match j, hj with
    | 0, _ => simp [layC]
    | 1, _ => simp [layC]
    | 2, _ => simp [layC]⟩
theorem journal_run {key : Int} {cs : List Cd} {safe : Int} (h : journalB key cs safe = true) : (runTo cs cs.length).isSome = true := by
  unfold journalB at h
  simp only [Bool.and_eq_true] at h
  exact h.2
theorem served_facts {key : Int} {cs : List Cd} {safe : Int} (h : journalB key cs safe = true) : backsOkB (servedOf cs cs.length) = true ∧ (servedOf cs cs.length).length ≤ 100 := by
  obtain ⟨l, hl⟩ := runTo_back (journal_run h) (Nat.le_refl _)
  have h1 := runTo_ok cs.length l (Nat.le_refl _) hl
  have h2 := (journal_facts h).2.1
  unfold servedOf
  rw [hl]
  exact ⟨h1.1, by simp only [Option.getD_some]; omega⟩
theorem l4replay_any (key : Int) (o : Option Addr) (cap : Nat) (cs : List Cd) (w : World) (hR : RdC w.heap.size w o cs) (hk : keyB key = true) (hl : cs.length ≤ 100) (hrun : (runTo cs cs.length).isSome = true) :
    Calls Try.prog 113 #[.int .i64 key, .slice o cs.length cap] w fun e w' => ∃ o c oR cR hs, e = .returned (plv key (.slice o (servedOf cs cs.length).length c) (.slice oR hs.length cR)) ∧ ownK w' w.heap.size (.slice o (servedOf cs cs.length).length c) (servedOf cs cs.length) ∧ ownL layH 37 w' w.heap.size (.slice oR hs.length cR) hs ∧ PTabs w' w.heap.size key hs (ringR cs cs.length) ∧ hs.length ≤ 3 ∧ Below w.heap.size w w' := by
  rcases hR with hR | ⟨b, off, rfl, hbl, hcell⟩
  · subst hR
    exact l4replay_go key 0 0 cap [] w (fun h => absurd rfl h) (fun i hi => absurd hi (Nat.not_lt_zero _)) hk hl hrun o (fun h => absurd rfl h)
  · exact l4replay_go key b off cap cs w (fun _ => hbl) hcell hk hl hrun _ (fun _ => rfl)

set_option maxRecDepth 100000 in
set_option maxHeartbeats 4000000 in
theorem cloneJournal_any (key safe : Int) (o : Option Addr) (cap : Nat) (l : List Cd) (w : World) (hR : RdC w.heap.size w o l) (hn : o = none → cap = 0) (hl : l.length ≤ 1048576) :
    Calls Try.prog 94 #[jrn key (.slice o l.length cap) safe] w fun e w' => ∃ o2 c2, e = .returned (jrn key (.slice o2 l.length c2) safe) ∧ ownC w' w.heap.size (.slice o2 l.length c2) l ∧ Below w.heap.size w w' := by
  obtain ⟨W0, hW0⟩ : ∃ W, ((w.alloc (.cells #[.int .i64 key, .slice o l.length cap, .int .i64 safe] 47)).alloc (.cells #[.int .i64 0, .slice none 0 0, .int .i64 0] 47)) = W := ⟨_, rfl⟩
  have hb_W0 : Below w.heap.size w W0 := by rw [← hW0]; exact (((Below.refl _ _).alloc (Nat.le_refl _) _).alloc (by simp <;> omega) _)
  have HB := hide hb_W0
  clear hb_W0
  have zz : w.heap.size < W0.heap.size := by rw [← hW0]; simp <;> omega
  have z0 : W0.cell? ⟨w.heap.size, 0, none⟩ = some (.int .i64 key) := by rw [← hW0]; simp [go_sem]
  have z1 : W0.cell? ⟨w.heap.size, 1, none⟩ = some (.slice o l.length cap) := by rw [← hW0]; simp [go_sem]
  have z2 : W0.cell? ⟨w.heap.size, 2, none⟩ = some (.int .i64 safe) := by rw [← hW0]; simp [go_sem]
  have fz0 : W0.frozen? ⟨w.heap.size, 0, none⟩ = false := by rw [← hW0]; simp [go_sem]
  have fz1 : W0.frozen? ⟨w.heap.size, 1, none⟩ = false := by rw [← hW0]; simp [go_sem]
  have fz2 : W0.frozen? ⟨w.heap.size, 2, none⟩ = false := by rw [← hW0]; simp [go_sem]
  have zr : w.heap.size + 1 < W0.heap.size := by rw [← hW0]; simp
  have r0 : W0.cell? ⟨w.heap.size + 1, 0, none⟩ = some (.int .i64 0) := by rw [← hW0]; simp [go_sem]
  have r1 : W0.cell? ⟨w.heap.size + 1, 1, none⟩ = some (.slice none 0 0) := by rw [← hW0]; simp [go_sem]
  have r2 : W0.cell? ⟨w.heap.size + 1, 2, none⟩ = some (.int .i64 0) := by rw [← hW0]; simp [go_sem]
  have fr0 : W0.frozen? ⟨w.heap.size + 1, 0, none⟩ = false := by rw [← hW0]; simp [go_sem]
  have fr1 : W0.frozen? ⟨w.heap.size + 1, 1, none⟩ = false := by rw [← hW0]; simp [go_sem]
  have fr2 : W0.frozen? ⟨w.heap.size + 1, 2, none⟩ = false := by rw [← hW0]; simp [go_sem]
  have hzr := zr
  have HCL := hide (cloneN_any o cap l l.length rfl W0 ((hR.kept HB.out (Nat.le_refl _)).le HB.out.size) hn hl)
  clear hR
  go_enter Try.func94, Try.ntmps94
  go_wp2_with fail
  refine (HCL.out).mono ?_
  rintro e v1 ⟨o2, c2, rfl, ow2, hb⟩
  have HO := hide ow2
  have hs1 := hb.size
  clear ow2
  replace z0 := bC hb z0 zz
  replace z1 := bC hb z1 zz
  replace z2 := bC hb z2 zz
  replace fz0 := bF hb fz0 zz
  replace fz1 := bF hb fz1 zz
  replace fz2 := bF hb fz2 zz
  replace zz := Nat.lt_of_lt_of_le zz hb.size
  replace r0 := bC hb r0 zr
  replace r1 := bC hb r1 zr
  replace r2 := bC hb r2 zr
  replace fr0 := bF hb fr0 zr
  replace fr1 := bF hb fr1 zr
  replace fr2 := bF hb fr2 zr
  replace zr := Nat.lt_of_lt_of_le zr hb.size
  replace HB := hide (HB.out.trans (hb.mono HB.out.size))
  clear hb
  have hzz : w.heap.size < W0.heap.size := by omega
  go_wp2
  refine bodyPost_ret (v := jrn key (.slice o2 l.length c2) safe) (by simp [results, Try.results94, go_sem, r0, r1, r2]) rfl ⟨o2, c2, rfl, own_mono (own_low (own_low (own_low (own_low HO.out hzz 1 _) hzr 0 _) hzr 1 _) hzr 2 _) (by omega), setP_below (HB.out.setCell (p := ⟨w.heap.size, 1, none⟩) (Nat.le_refl _) _) (Nat.le_succ _) _ _ _⟩

set_option maxRecDepth 100000 in
set_option maxHeartbeats 16000000 in
theorem implNote_sh (v : Value) (m : Jm) (k i g : Int) (w : World) (hR : RdJm w.heap.size w v m) (hcp : capJm v) (hf : fitJm m) :
    Calls Try.prog 35 #[v, cmd k i g] w fun e w' => ∃ v', e = .returned (.tuple #[v', .bool (noteF m k i g)]) ∧ InJm w.heap.size w'.heap.size w' v' (noteM m k i g) ∧ Below w.heap.size w w' := by
  have hR0 := hR
  obtain ⟨vl, rfl, ⟨o, c, rfl, r⟩⟩ := hR0
  have hcap := hcp.one
  clear hcp
  obtain ⟨key, l, safe⟩ := m
  dsimp only at *
  have HNM := hide (show noteM ⟨key, l, safe⟩ k i g = if (journalB key l safe && cmdOkB k i g) = true then (if noteD key l k i g = true then ⟨key, l ++ [(k, i, g)], (l.length : Int) + 1⟩ else ⟨key, l, safe⟩) else jm0 from rfl)
  have HNF := hide (show noteF ⟨key, l, safe⟩ k i g = ((journalB key l safe && cmdOkB k i g) && noteD key l k i g) from rfl)
  have HND := hide (show noteD key l k i g = ((doL (servedOf l l.length) k i g).isSome && !decide (100 ≤ l.length)) from rfl)
  have HFA := hide (fun h : journalB key l safe = true => And.intro (journal_facts h) (And.intro (journal_run h) (served_facts h)))
  unfold fitJm at hf
  dsimp only at hf
  obtain ⟨W0, hW0⟩ : ∃ W, (((w.alloc (.cells #[.int .i64 key, .slice o l.length c, .int .i64 safe] 47)).alloc (.cells #[.int .i64 k, .int .i64 i, .int .i64 g] 28)).alloc (.cells #[.int .i64 0, .slice none 0 0, .int .i64 0] 47)) = W := ⟨_, rfl⟩
  have hb_W0 : Below w.heap.size w W0 := by rw [← hW0]; exact ((((Below.refl _ _).alloc (Nat.le_refl _) _).alloc (by simp <;> omega) _).alloc (by simp <;> omega) _)
  have HB := hide hb_W0
  clear hb_W0
  have zz : w.heap.size < W0.heap.size := by rw [← hW0]; simp <;> omega
  have z0 : W0.cell? ⟨w.heap.size, 0, none⟩ = some (.int .i64 key) := by rw [← hW0]; simp [go_sem]
  have z1 : W0.cell? ⟨w.heap.size, 1, none⟩ = some (.slice o l.length c) := by rw [← hW0]; simp [go_sem]
  have z2 : W0.cell? ⟨w.heap.size, 2, none⟩ = some (.int .i64 safe) := by rw [← hW0]; simp [go_sem]
  have zu : w.heap.size + 1 < W0.heap.size := by rw [← hW0]; simp <;> omega
  have u0 : W0.cell? ⟨w.heap.size + 1, 0, none⟩ = some (.int .i64 k) := by rw [← hW0]; simp [go_sem]
  have u1 : W0.cell? ⟨w.heap.size + 1, 1, none⟩ = some (.int .i64 i) := by rw [← hW0]; simp [go_sem]
  have u2 : W0.cell? ⟨w.heap.size + 1, 2, none⟩ = some (.int .i64 g) := by rw [← hW0]; simp [go_sem]
  have zr : w.heap.size + 1 + 1 < W0.heap.size := by rw [← hW0]; simp
  have r0 : W0.cell? ⟨w.heap.size + 1 + 1, 0, none⟩ = some (.int .i64 0) := by rw [← hW0]; simp [go_sem]
  have r1 : W0.cell? ⟨w.heap.size + 1 + 1, 1, none⟩ = some (.slice none 0 0) := by rw [← hW0]; simp [go_sem]
  have r2 : W0.cell? ⟨w.heap.size + 1 + 1, 2, none⟩ = some (.int .i64 0) := by rw [← hW0]; simp [go_sem]
  have fr0 : W0.frozen? ⟨w.heap.size + 1 + 1, 0, none⟩ = false := by rw [← hW0]; simp [go_sem]
  have fr1 : W0.frozen? ⟨w.heap.size + 1 + 1, 1, none⟩ = false := by rw [← hW0]; simp [go_sem]
  have fr2 : W0.frozen? ⟨w.heap.size + 1 + 1, 2, none⟩ = false := by rw [← hW0]; simp [go_sem]
  have hzr := zr
  have HTU := hide (turns_any key safe o c l W0 ((r.kept HB.out (Nat.le_refl _)).le HB.out.size) hf)
  have HDE := hide (fun W => deedOf_any k i g W)
  have HRL := hide r
  clear r hR
  cases hj : journalB key l safe with
  | false =>
    rw [hj] at HTU HNM HNF
    clear HFA hj
    generalize cmdOkB k i g = ck at *
    go_enter Try.func35, Try.ntmps35
    go_wp2_with fail
    refine (HTU.out).mono ?_
    rintro e v1 ⟨v9, rfl, _, hb⟩
    replace z0 := bC hb z0 zz
    replace z1 := bC hb z1 zz
    replace z2 := bC hb z2 zz
    replace zz := Nat.lt_of_lt_of_le zz hb.size
    replace u0 := bC hb u0 zu
    replace u1 := bC hb u1 zu
    replace u2 := bC hb u2 zu
    replace zu := Nat.lt_of_lt_of_le zu hb.size
    replace r0 := bC hb r0 zr
    replace r1 := bC hb r1 zr
    replace r2 := bC hb r2 zr
    replace fr0 := bF hb fr0 zr
    replace fr1 := bF hb fr1 zr
    replace fr2 := bF hb fr2 zr
    replace zr := Nat.lt_of_lt_of_le zr hb.size
    replace HB := hide (HB.out.trans (hb.mono HB.out.size))
    clear hb
    go_wp2_with fail
    refine (HDE.out v1).mono ?_
    rintro e v2 ⟨rfl, hb⟩
    replace z0 := bC hb z0 zz
    replace z1 := bC hb z1 zz
    replace z2 := bC hb z2 zz
    replace zz := Nat.lt_of_lt_of_le zz hb.size
    replace u0 := bC hb u0 zu
    replace u1 := bC hb u1 zu
    replace u2 := bC hb u2 zu
    replace zu := Nat.lt_of_lt_of_le zu hb.size
    replace r0 := bC hb r0 zr
    replace r1 := bC hb r1 zr
    replace r2 := bC hb r2 zr
    replace fr0 := bF hb fr0 zr
    replace fr1 := bF hb fr1 zr
    replace fr2 := bF hb fr2 zr
    replace zr := Nat.lt_of_lt_of_le zr hb.size
    replace HB := hide (HB.out.trans (hb.mono HB.out.size))
    clear hb
    generalize (if ck = true then deedV k i g else .nilIface) = dv
    go_wp2
    refine bodyPost_ret (v := .tuple #[jrn 0 (.slice none 0 0) 0, .bool false]) (by simp [results, Try.results35, go_sem, r0, r1, r2]) rfl ⟨jrn 0 (.slice none 0 0) 0, by rw [HNF.out]; simp, ?_, setP_below HB.out (by omega) _ _ _⟩
    rw [HNM.out, if_neg (by simp)]
    exact ⟨_, rfl, World.ownsRow_nil _ _ _ _, fun b e => by cases e⟩
  | true =>
    obtain ⟨⟨hk, hl, h0, h1⟩, hrun, hbo, hsl⟩ := HFA.out hj
    rw [hj] at HTU HNM HNF
    clear HFA hj
    cases hc : cmdOkB k i g with
    | false =>
      rw [hc] at HDE HNM HNF
      simp only [Bool.false_eq_true, if_false] at HDE
      go_enter Try.func35, Try.ntmps35
      go_wp2_with fail
      refine (HTU.out).mono ?_
      rintro e v1 ⟨v9, rfl, _, hb⟩
      replace z0 := bC hb z0 zz
      replace z1 := bC hb z1 zz
      replace z2 := bC hb z2 zz
      replace zz := Nat.lt_of_lt_of_le zz hb.size
      replace u0 := bC hb u0 zu
      replace u1 := bC hb u1 zu
      replace u2 := bC hb u2 zu
      replace zu := Nat.lt_of_lt_of_le zu hb.size
      replace r0 := bC hb r0 zr
      replace r1 := bC hb r1 zr
      replace r2 := bC hb r2 zr
      replace fr0 := bF hb fr0 zr
      replace fr1 := bF hb fr1 zr
      replace fr2 := bF hb fr2 zr
      replace zr := Nat.lt_of_lt_of_le zr hb.size
      replace HB := hide (HB.out.trans (hb.mono HB.out.size))
      clear hb
      go_wp2_with fail
      refine (HDE.out v1).mono ?_
      rintro e v2 ⟨rfl, hb⟩
      replace z0 := bC hb z0 zz
      replace z1 := bC hb z1 zz
      replace z2 := bC hb z2 zz
      replace zz := Nat.lt_of_lt_of_le zz hb.size
      replace u0 := bC hb u0 zu
      replace u1 := bC hb u1 zu
      replace u2 := bC hb u2 zu
      replace zu := Nat.lt_of_lt_of_le zu hb.size
      replace r0 := bC hb r0 zr
      replace r1 := bC hb r1 zr
      replace r2 := bC hb r2 zr
      replace fr0 := bF hb fr0 zr
      replace fr1 := bF hb fr1 zr
      replace fr2 := bF hb fr2 zr
      replace zr := Nat.lt_of_lt_of_le zr hb.size
      replace HB := hide (HB.out.trans (hb.mono HB.out.size))
      clear hb
      go_wp2
      refine bodyPost_ret (v := .tuple #[jrn 0 (.slice none 0 0) 0, .bool false]) (by simp [results, Try.results35, go_sem, r0, r1, r2]) rfl ⟨jrn 0 (.slice none 0 0) 0, by rw [HNF.out]; simp, ?_, setP_below HB.out (by omega) _ _ _⟩
      rw [HNM.out, if_neg (by simp)]
      exact ⟨_, rfl, World.ownsRow_nil _ _ _ _, fun b e => by cases e⟩
    | true =>
      have HBA := hide (fun o c W h1 h2 => backsAfter_any o c (servedOf l l.length) k i g W h1 h2 (by omega) hc)
      rw [hc] at HDE HNM HNF
      simp only [if_true] at HDE
      generalize deedV k i g = dv at *
      obtain ⟨sv, hsv⟩ : ∃ s, servedOf l l.length = s := ⟨_, rfl⟩
      rw [hsv] at HBA HND hbo hsl
      have HSV := hide hsv
      clear hc hsv
      go_enter Try.func35, Try.ntmps35
      go_wp2_with fail
      refine (HTU.out).mono ?_
      rintro e v1 ⟨v9, rfl, hown9, hb⟩
      obtain ⟨hs, ho9, hs9⟩ := hown9 (by simp)
      have HO9 := hide ho9
      have HS9 := hide hs9
      have hs1 := hb.size
      clear hown9 ho9 hs9
      replace z0 := bC hb z0 zz
      replace z1 := bC hb z1 zz
      replace z2 := bC hb z2 zz
      replace zz := Nat.lt_of_lt_of_le zz hb.size
      replace u0 := bC hb u0 zu
      replace u1 := bC hb u1 zu
      replace u2 := bC hb u2 zu
      replace zu := Nat.lt_of_lt_of_le zu hb.size
      replace r0 := bC hb r0 zr
      replace r1 := bC hb r1 zr
      replace r2 := bC hb r2 zr
      replace fr0 := bF hb fr0 zr
      replace fr1 := bF hb fr1 zr
      replace fr2 := bF hb fr2 zr
      replace zr := Nat.lt_of_lt_of_le zr hb.size
      replace HB := hide (HB.out.trans (hb.mono HB.out.size))
      clear hb
      have HLN := hide HS9.out.len
      obtain ⟨g9, c9, e9⟩ := own_someH HO9.out (by rw [HLN.out]; omega)
      subst e9
      go_wp2_with fail
      refine (HDE.out v1).mono ?_
      rintro e v2 ⟨rfl, hb⟩
      have hs2 := hb.size
      replace z0 := bC hb z0 zz
      replace z1 := bC hb z1 zz
      replace z2 := bC hb z2 zz
      replace zz := Nat.lt_of_lt_of_le zz hb.size
      replace u0 := bC hb u0 zu
      replace u1 := bC hb u1 zu
      replace u2 := bC hb u2 zu
      replace zu := Nat.lt_of_lt_of_le zu hb.size
      replace r0 := bC hb r0 zr
      replace r1 := bC hb r1 zr
      replace r2 := bC hb r2 zr
      replace fr0 := bF hb fr0 zr
      replace fr1 := bF hb fr1 zr
      replace fr2 := bF hb fr2 zr
      replace zr := Nat.lt_of_lt_of_le zr hb.size
      replace HS9 := hide (HS9.out.kept hb)
      replace HO9 := hide (own_kept HO9.out hb)
      replace HB := hide (HB.out.trans (hb.mono HB.out.size))
      clear hb
      have HCJ := hide (cloneJournal_any key safe o c l v2 ((HRL.out.kept HB.out (Nat.le_refl _)).le HB.out.size) hcap hf)
      go_wp2_with fail
      refine (HCJ.out).mono ?_
      rintro e v3 ⟨o2, c2, rfl, ow2, hb⟩
      have HOX := hide ow2
      have hs3 := hb.size
      clear ow2
      replace z0 := bC hb z0 zz
      replace z1 := bC hb z1 zz
      replace z2 := bC hb z2 zz
      replace zz := Nat.lt_of_lt_of_le zz hb.size
      replace u0 := bC hb u0 zu
      replace u1 := bC hb u1 zu
      replace u2 := bC hb u2 zu
      replace zu := Nat.lt_of_lt_of_le zu hb.size
      replace r0 := bC hb r0 zr
      replace r1 := bC hb r1 zr
      replace r2 := bC hb r2 zr
      replace fr0 := bF hb fr0 zr
      replace fr1 := bF hb fr1 zr
      replace fr2 := bF hb fr2 zr
      replace zr := Nat.lt_of_lt_of_le zr hb.size
      replace HS9 := hide (HS9.out.kept hb)
      replace HO9 := hide (own_kept HO9.out hb)
      replace HB := hide (HB.out.trans (hb.mono HB.out.size))
      clear hb
      have HLTX := hide (fun b (e : (Value.slice o2 l.length c2).ownBlock = some b) => (HOX.out.lt b e).2)
      obtain ⟨W4, hW4⟩ : ∃ W, (v3.alloc (.cells #[.int .i64 key, .slice o2 l.length c2, .int .i64 safe] 47)) = W := ⟨_, rfl⟩
      have hb_W4 : Below v3.heap.size v3 W4 := by rw [← hW4]; exact ((Below.refl _ _).alloc (Nat.le_refl _) _)
      replace z0 := bC hb_W4 z0 zz
      replace z1 := bC hb_W4 z1 zz
      replace z2 := bC hb_W4 z2 zz
      replace zz := Nat.lt_of_lt_of_le zz hb_W4.size
      replace u0 := bC hb_W4 u0 zu
      replace u1 := bC hb_W4 u1 zu
      replace u2 := bC hb_W4 u2 zu
      replace zu := Nat.lt_of_lt_of_le zu hb_W4.size
      replace r0 := bC hb_W4 r0 zr
      replace r1 := bC hb_W4 r1 zr
      replace r2 := bC hb_W4 r2 zr
      replace fr0 := bF hb_W4 fr0 zr
      replace fr1 := bF hb_W4 fr1 zr
      replace fr2 := bF hb_W4 fr2 zr
      replace zr := Nat.lt_of_lt_of_le zr hb_W4.size
      replace HS9 := hide (HS9.out.kept hb_W4)
      replace HO9 := hide (own_kept HO9.out hb_W4)
      replace HOX := hide (own_kept HOX.out hb_W4)
      replace HB := hide (HB.out.trans (hb_W4.mono HB.out.size))
      clear hb_W4
      have zx : v3.heap.size < W4.heap.size := by rw [← hW4]; simp
      have x0 : W4.cell? ⟨v3.heap.size, 0, none⟩ = some (.int .i64 key) := by rw [← hW4]; simp [go_sem]
      have x1 : W4.cell? ⟨v3.heap.size, 1, none⟩ = some (.slice o2 l.length c2) := by rw [← hW4]; simp [go_sem]
      have x2 : W4.cell? ⟨v3.heap.size, 2, none⟩ = some (.int .i64 safe) := by rw [← hW4]; simp [go_sem]
      have hx4 : W4.heap[v3.heap.size]? = some (.cells #[.int .i64 key, .slice o2 l.length c2, .int .i64 safe] 47 (0, 0)) := by rw [← hW4]; exact World.alloc_heap_new v3 _
      have hs4 : v3.heap.size < W4.heap.size := zx
      obtain ⟨o', c', e', hr'⟩ := ownL.open (L := layK) (HS9.out.row l.length (by omega))
      have hown := HS9.out.row l.length (by omega)
      rw [HSV.out] at e' hr' hown
      rw [e'] at hown
      have hcl := head_cell HO9.out l.length (by rw [HLN.out]; omega)
      rw [e'] at hcl
      have hnk : (l.length : Int) < (hs.length : Int) := by have := HLN.out; omega
      have HA2 := hide (HBA.out o' c' W4 hr' (own_capK hown))
      clear hr' hown e' HBA
      cases hdo : doL sv k i g with
      | none =>
        rw [hdo] at HA2 HND
        simp only [Option.isSome_none] at HA2
        have HNDl := hide (show noteD key l k i g = false by rw [HND.out]; rfl)
        clear hdo
        go_wp2_with fail
        refine (HA2.out).mono ?_
        rintro e v4 ⟨v5, rfl, _, hb⟩
        have hs5 := hb.size
        replace z0 := bC hb z0 zz
        replace z1 := bC hb z1 zz
        replace z2 := bC hb z2 zz
        replace zz := Nat.lt_of_lt_of_le zz hb.size
        replace u0 := bC hb u0 zu
        replace u1 := bC hb u1 zu
        replace u2 := bC hb u2 zu
        replace zu := Nat.lt_of_lt_of_le zu hb.size
        replace r0 := bC hb r0 zr
        replace r1 := bC hb r1 zr
        replace r2 := bC hb r2 zr
        replace fr0 := bF hb fr0 zr
        replace fr1 := bF hb fr1 zr
        replace fr2 := bF hb fr2 zr
        replace zr := Nat.lt_of_lt_of_le zr hb.size
        replace x0 := bC hb x0 zx
        replace x1 := bC hb x1 zx
        replace x2 := bC hb x2 zx
        replace zx := Nat.lt_of_lt_of_le zx hb.size
        replace HS9 := hide (HS9.out.kept hb)
        replace HO9 := hide (own_kept HO9.out hb)
        replace HOX := hide (own_kept HOX.out hb)
        replace HB := hide (HB.out.trans (hb.mono HB.out.size))
        clear hb
        have hrb : w.heap.size + 1 + 1 < v2.heap.size := by omega
        go_wp2
        refine bodyPost_ret (v := .tuple #[jrn key (.slice o2 l.length c2) safe, .bool false]) (by simp [results, Try.results35, go_sem, r0, r1, r2]) rfl ⟨jrn key (.slice o2 l.length c2) safe, by rw [HNF.out, HNDl.out]; simp, ?_, setP_below HB.out (by omega) _ _ _⟩
        rw [HNM.out, if_pos (by simp), if_neg (by rw [HNDl.out]; simp)]
        exact ⟨_, rfl, InRow.of (own_mono (own_low (own_low (own_low HOX.out hrb 0 _) hrb 1 _) hrb 2 _) (by omega))⟩
      | some mm =>
        rw [hdo] at HA2 HND
        simp only [Option.isSome_some] at HA2
        clear hdo
        by_cases h100 : l.length = 100
        · have HNDl := hide (show noteD key l k i g = false by rw [HND.out, h100]; rfl)
          have h100' : (l.length : Int) = 100 := by omega
          have h100d : ((l.length : Int) == 100) = true := beq_iff_eq.2 h100'
          clear h100 h100'
          go_wp2_with fail
          refine (HA2.out).mono ?_
          rintro e v4 ⟨v5, rfl, _, hb⟩
          have hs5 := hb.size
          replace z0 := bC hb z0 zz
          replace z1 := bC hb z1 zz
          replace z2 := bC hb z2 zz
          replace zz := Nat.lt_of_lt_of_le zz hb.size
          replace u0 := bC hb u0 zu
          replace u1 := bC hb u1 zu
          replace u2 := bC hb u2 zu
          replace zu := Nat.lt_of_lt_of_le zu hb.size
          replace r0 := bC hb r0 zr
          replace r1 := bC hb r1 zr
          replace r2 := bC hb r2 zr
          replace fr0 := bF hb fr0 zr
          replace fr1 := bF hb fr1 zr
          replace fr2 := bF hb fr2 zr
          replace zr := Nat.lt_of_lt_of_le zr hb.size
          replace x0 := bC hb x0 zx
          replace x1 := bC hb x1 zx
          replace x2 := bC hb x2 zx
          replace zx := Nat.lt_of_lt_of_le zx hb.size
          replace HS9 := hide (HS9.out.kept hb)
          replace HO9 := hide (own_kept HO9.out hb)
          replace HOX := hide (own_kept HOX.out hb)
          replace HB := hide (HB.out.trans (hb.mono HB.out.size))
          clear hb
          have hrb : w.heap.size + 1 + 1 < v2.heap.size := by omega
          go_wp2
          refine bodyPost_ret (v := .tuple #[jrn key (.slice o2 l.length c2) safe, .bool false]) (by simp [results, Try.results35, go_sem, r0, r1, r2]) rfl ⟨jrn key (.slice o2 l.length c2) safe, by rw [HNF.out, HNDl.out]; simp, ?_, setP_below HB.out (by omega) _ _ _⟩
          rw [HNM.out, if_pos (by simp), if_neg (by rw [HNDl.out]; simp)]
          exact ⟨_, rfl, InRow.of (own_mono (own_low (own_low (own_low HOX.out hrb 0 _) hrb 1 _) hrb 2 _) (by omega))⟩
        · have HNDl := hide (show noteD key l k i g = true by rw [HND.out, decide_eq_false (by omega)]; rfl)
          have h100d : ((l.length : Int) == 100) = false := beq_eq_false_iff_ne.2 (by omega)
          go_wp2_with fail
          refine (HA2.out).mono ?_
          rintro e v4 ⟨v5, rfl, _, hb⟩
          have hs5 := hb.size
          have hx5 := (hb.block _ (show _ < W4.heap.size from hs4)).trans hx4
          replace z0 := bC hb z0 zz
          replace z1 := bC hb z1 zz
          replace z2 := bC hb z2 zz
          replace zz := Nat.lt_of_lt_of_le zz hb.size
          replace u0 := bC hb u0 zu
          replace u1 := bC hb u1 zu
          replace u2 := bC hb u2 zu
          replace zu := Nat.lt_of_lt_of_le zu hb.size
          replace r0 := bC hb r0 zr
          replace r1 := bC hb r1 zr
          replace r2 := bC hb r2 zr
          replace fr0 := bF hb fr0 zr
          replace fr1 := bF hb fr1 zr
          replace fr2 := bF hb fr2 zr
          replace zr := Nat.lt_of_lt_of_le zr hb.size
          replace x0 := bC hb x0 zx
          replace x1 := bC hb x1 zx
          replace x2 := bC hb x2 zx
          replace zx := Nat.lt_of_lt_of_le zx hb.size
          replace HS9 := hide (HS9.out.kept hb)
          replace HO9 := hide (own_kept HO9.out hb)
          replace HOX := hide (own_kept HOX.out hb)
          replace HB := hide (HB.out.trans (hb.mono HB.out.size))
          clear hb
          have hrb : w.heap.size + 1 + 1 < v2.heap.size := by omega
          have hxb := hx5
          go_wp2_with (at_builtin; refine wpList_append_lay appC0 rfl (.tmp 53) (.tmp 55) rfl v2.heap.size _ l rfl (World.ownsRow.alloc HOX.out (.cells #[.int .i64 k, .int .i64 i, .int .i64 g] 28)) (some ⟨v4.heap.size, 0, none⟩) 1 (v4.alloc (.cells #[.int .i64 k, .int .i64 i, .int .i64 g] 28)).heap.size [(k, i, g)] 1 rfl rfl (fun h => by cases h) rd_oneC (by simp; omega) (by simp; omega) ?_)
          intro v6 w6 ho6 hg6 _
          obtain ⟨o6, c6, e6, _⟩ := ownL.open (L := layC) ho6
          rw [show (l ++ [(k, i, g)]).length = l.length + 1 by simp] at e6
          subst e6
          have hb6 : Below v2.heap.size v4 w6 := ((Below.refl v4.heap.size v4).alloc (Nat.le_refl _) (.cells #[.int .i64 k, .int .i64 i, .int .i64 g] 28)).mono (by omega) |>.grown hg6 (by simp; omega) (fun k h => (HOX.out.lt k h).1)
          have hx6 : w6.heap[v3.heap.size]? = some (.cells #[.int .i64 key, .slice o2 l.length c2, .int .i64 safe] 47 (0, 0)) := (hg6.block _ (by have := (Array.getElem?_eq_some_iff.1 hxb).1; simp; omega) (fun e => by have := HLTX.out _ e.symm; omega)).trans ((Below.heap_alloc _ _ _ (Array.getElem?_eq_some_iff.1 hxb).1).trans hxb)
          have HO6 : Hid (ownC w6 v2.heap.size (.slice o6 (l.length + 1) c6) (l ++ [(k, i, g)])) := ho6
          clear ho6 hg6
          replace r0 := bC hb6 r0 (show _ < _ by omega)
          replace fr0 := bF hb6 fr0 (show _ < _ by omega)
          replace r1 := bC hb6 r1 (show _ < _ by omega)
          replace fr1 := bF hb6 fr1 (show _ < _ by omega)
          replace r2 := bC hb6 r2 (show _ < _ by omega)
          replace fr2 := bF hb6 fr2 (show _ < _ by omega)
          have HB6 := hide (HB.out.trans (hb6.mono (by omega)))
          clear hb6 HB
          obtain ⟨W7, hW7⟩ : ∃ W, w6.setCell ⟨v3.heap.size, 1, none⟩ (.slice o6 (l.length + 1) c6) = W := ⟨_, rfl⟩
          have h7 : W7.heap[v3.heap.size]? = some (.cells #[.int .i64 key, .slice o6 (l.length + 1) c6, .int .i64 safe] 47 (0, 0)) := by rw [← hW7]; exact box_put hx6 1 _
          obtain ⟨W8, hW8⟩ : ∃ W, W7.setCell ⟨v3.heap.size, 2, none⟩ (.int .i64 ((l.length : Int) + 1)) = W := ⟨_, rfl⟩
          have h8 : W8.heap[v3.heap.size]? = some (.cells #[.int .i64 key, .slice o6 (l.length + 1) c6, .int .i64 ((l.length : Int) + 1)] 47 (0, 0)) := by rw [← hW8]; exact box_put h7 2 _
          have a60 : w6.cell? ⟨v3.heap.size, 0, none⟩ = some (.int .i64 key) := bx_cell hx6 0 _ rfl
          have g60 := bx_frozen hx6 0
          have a61 : w6.cell? ⟨v3.heap.size, 1, none⟩ = some (.slice o2 l.length c2) := bx_cell hx6 1 _ rfl
          have g61 := bx_frozen hx6 1
          have a62 : w6.cell? ⟨v3.heap.size, 2, none⟩ = some (.int .i64 safe) := bx_cell hx6 2 _ rfl
          have g62 := bx_frozen hx6 2
          have a70 : W7.cell? ⟨v3.heap.size, 0, none⟩ = some (.int .i64 key) := bx_cell h7 0 _ rfl
          have g70 := bx_frozen h7 0
          have a71 : W7.cell? ⟨v3.heap.size, 1, none⟩ = some (.slice o6 (l.length + 1) c6) := bx_cell h7 1 _ rfl
          have g71 := bx_frozen h7 1
          have a72 : W7.cell? ⟨v3.heap.size, 2, none⟩ = some (.int .i64 safe) := bx_cell h7 2 _ rfl
          have g72 := bx_frozen h7 2
          have a80 : W8.cell? ⟨v3.heap.size, 0, none⟩ = some (.int .i64 key) := bx_cell h8 0 _ rfl
          have a81 : W8.cell? ⟨v3.heap.size, 1, none⟩ = some (.slice o6 (l.length + 1) c6) := bx_cell h8 1 _ rfl
          have a82 : W8.cell? ⟨v3.heap.size, 2, none⟩ = some (.int .i64 ((l.length : Int) + 1)) := bx_cell h8 2 _ rfl
          have hneB : w.heap.size + 1 + 1 ≠ v3.heap.size := by omega
          have q80 : W8.cell? ⟨w.heap.size + 1 + 1, 0, none⟩ = some (.int .i64 0) := by rw [← hW8, ← hW7]; exact (cell_far hneB).trans ((cell_far hneB).trans r0)
          have p80 : W8.frozen? ⟨w.heap.size + 1 + 1, 0, none⟩ = false := by rw [← hW8, ← hW7]; exact (frozen_far hneB).trans ((frozen_far hneB).trans fr0)
          have q81 : W8.cell? ⟨w.heap.size + 1 + 1, 1, none⟩ = some (.slice none 0 0) := by rw [← hW8, ← hW7]; exact (cell_far hneB).trans ((cell_far hneB).trans r1)
          have p81 : W8.frozen? ⟨w.heap.size + 1 + 1, 1, none⟩ = false := by rw [← hW8, ← hW7]; exact (frozen_far hneB).trans ((frozen_far hneB).trans fr1)
          have q82 : W8.cell? ⟨w.heap.size + 1 + 1, 2, none⟩ = some (.int .i64 0) := by rw [← hW8, ← hW7]; exact (cell_far hneB).trans ((cell_far hneB).trans r2)
          have p82 : W8.frozen? ⟨w.heap.size + 1 + 1, 2, none⟩ = false := by rw [← hW8, ← hW7]; exact (frozen_far hneB).trans ((frozen_far hneB).trans fr2)
          have HO8 : Hid (ownC W8 v2.heap.size (.slice o6 (l.length + 1) c6) (l ++ [(k, i, g)])) := by rw [← hW8, ← hW7]; exact own_putJ (own_putJ HO6.out hx6 1 _) (box_put hx6 1 _) 2 _
          have HB8 : Hid (Below w.heap.size w W8) := by rw [← hW8, ← hW7]; exact (HB6.out.setCell (p := ⟨v3.heap.size, 1, none⟩) (show w.heap.size ≤ v3.heap.size by omega) _).setCell (p := ⟨v3.heap.size, 2, none⟩) (show w.heap.size ≤ v3.heap.size by omega) _
          clear r0 fr0 r1 fr1 r2 fr2
          go_wp2
          refine bodyPost_ret (v := .tuple #[jrn key (.slice o6 (l.length + 1) c6) ((l.length : Int) + 1), .bool true]) (by simp [results, Try.results35, go_sem, q80, q81, q82]) rfl ⟨jrn key (.slice o6 (l.length + 1) c6) ((l.length : Int) + 1), by rw [HNF.out, HNDl.out]; simp, ?_, setP_below HB8.out (by omega) _ _ _⟩
          rw [HNM.out, if_pos (by simp), if_pos HNDl.out]
          exact ⟨_, rfl, InRow.of (own_mono (own_low (own_low (own_low HO8.out hrb 0 _) hrb 1 _) hrb 2 _) (by omega))⟩

end Go.Proofs.Ytflakpmcgopdaaa

/- The model's Note. -/
namespace Go.Proofs.Ytflakpmcgopdaaa
open Go.ChangeShapes Go.WideShapes Go.ChangeAt Go.RowKit Go.Joins
set_option linter.unusedVariables false
set_option linter.unusedSimpArgs false


set_option maxRecDepth 100000 in
set_option maxHeartbeats 16000000 in
theorem specNote_sh (v : Value) (m : Jm) (k i g : Int) (w : World) (hR : RdJm w.heap.size w v m) (hcp : capJm v) (hf : fitJm m) :
    Calls Try.prog 57 #[v, cmd k i g] w fun e w' => ∃ v', e = .returned (.tuple #[v', .bool (noteF m k i g)]) ∧ InJm w.heap.size w'.heap.size w' v' (noteM m k i g) ∧ Below w.heap.size w w' := by
  have hR0 := hR
  obtain ⟨vl, rfl, ⟨o, c, rfl, r⟩⟩ := hR0
  have hcap := hcp.one
  clear hcp
  obtain ⟨key, l, safe⟩ := m
  dsimp only at *
  have HNM := hide (show noteM ⟨key, l, safe⟩ k i g = if (journalB key l safe && cmdOkB k i g) = true then (if noteD key l k i g = true then ⟨key, l ++ [(k, i, g)], (l.length : Int) + 1⟩ else ⟨key, l, safe⟩) else jm0 from rfl)
  have HNF := hide (show noteF ⟨key, l, safe⟩ k i g = ((journalB key l safe && cmdOkB k i g) && noteD key l k i g) from rfl)
  have HND := hide (show noteD key l k i g = ((doL (servedOf l l.length) k i g).isSome && !decide (100 ≤ l.length)) from rfl)
  have HFA := hide (fun h : journalB key l safe = true => And.intro (journal_facts h) (And.intro (journal_run h) (served_facts h)))
  unfold fitJm at hf
  dsimp only at hf
  obtain ⟨W0, hW0⟩ : ∃ W, (((w.alloc (.cells #[.int .i64 key, .slice o l.length c, .int .i64 safe] 47)).alloc (.cells #[.int .i64 k, .int .i64 i, .int .i64 g] 28)).alloc (.cells #[.int .i64 0, .slice none 0 0, .int .i64 0] 47)) = W := ⟨_, rfl⟩
  have hb_W0 : Below w.heap.size w W0 := by rw [← hW0]; exact ((((Below.refl _ _).alloc (Nat.le_refl _) _).alloc (by simp <;> omega) _).alloc (by simp <;> omega) _)
  have HB := hide hb_W0
  clear hb_W0
  have zz : w.heap.size < W0.heap.size := by rw [← hW0]; simp <;> omega
  have z0 : W0.cell? ⟨w.heap.size, 0, none⟩ = some (.int .i64 key) := by rw [← hW0]; simp [go_sem]
  have z1 : W0.cell? ⟨w.heap.size, 1, none⟩ = some (.slice o l.length c) := by rw [← hW0]; simp [go_sem]
  have z2 : W0.cell? ⟨w.heap.size, 2, none⟩ = some (.int .i64 safe) := by rw [← hW0]; simp [go_sem]
  have zu : w.heap.size + 1 < W0.heap.size := by rw [← hW0]; simp <;> omega
  have u0 : W0.cell? ⟨w.heap.size + 1, 0, none⟩ = some (.int .i64 k) := by rw [← hW0]; simp [go_sem]
  have u1 : W0.cell? ⟨w.heap.size + 1, 1, none⟩ = some (.int .i64 i) := by rw [← hW0]; simp [go_sem]
  have u2 : W0.cell? ⟨w.heap.size + 1, 2, none⟩ = some (.int .i64 g) := by rw [← hW0]; simp [go_sem]
  have zr : w.heap.size + 1 + 1 < W0.heap.size := by rw [← hW0]; simp
  have r0 : W0.cell? ⟨w.heap.size + 1 + 1, 0, none⟩ = some (.int .i64 0) := by rw [← hW0]; simp [go_sem]
  have r1 : W0.cell? ⟨w.heap.size + 1 + 1, 1, none⟩ = some (.slice none 0 0) := by rw [← hW0]; simp [go_sem]
  have r2 : W0.cell? ⟨w.heap.size + 1 + 1, 2, none⟩ = some (.int .i64 0) := by rw [← hW0]; simp [go_sem]
  have fr0 : W0.frozen? ⟨w.heap.size + 1 + 1, 0, none⟩ = false := by rw [← hW0]; simp [go_sem]
  have fr1 : W0.frozen? ⟨w.heap.size + 1 + 1, 1, none⟩ = false := by rw [← hW0]; simp [go_sem]
  have fr2 : W0.frozen? ⟨w.heap.size + 1 + 1, 2, none⟩ = false := by rw [← hW0]; simp [go_sem]
  have hzr := zr
  have HJO := hide (specJournalOk_any key safe o c l W0 ((r.kept HB.out (Nat.le_refl _)).le HB.out.size) hf)
  have HPC := hide (fun W => specPoolCmdOk_any k i g W)
  have HRL := hide r
  clear r hR
  cases hj : journalB key l safe with
  | false =>
    rw [hj] at HJO HNM HNF
    clear HFA hj HPC
    go_enter Try.func57, Try.ntmps57
    go_wp2_with fail
    refine (HJO.out).mono ?_
    rintro e v1 ⟨rfl, hb⟩
    replace z0 := bC hb z0 zz
    replace z1 := bC hb z1 zz
    replace z2 := bC hb z2 zz
    replace zz := Nat.lt_of_lt_of_le zz hb.size
    replace u0 := bC hb u0 zu
    replace u1 := bC hb u1 zu
    replace u2 := bC hb u2 zu
    replace zu := Nat.lt_of_lt_of_le zu hb.size
    replace r0 := bC hb r0 zr
    replace r1 := bC hb r1 zr
    replace r2 := bC hb r2 zr
    replace fr0 := bF hb fr0 zr
    replace fr1 := bF hb fr1 zr
    replace fr2 := bF hb fr2 zr
    replace zr := Nat.lt_of_lt_of_le zr hb.size
    replace HB := hide (HB.out.trans (hb.mono HB.out.size))
    clear hb
    go_wp2
    refine bodyPost_ret (v := .tuple #[jrn 0 (.slice none 0 0) 0, .bool false]) (by simp [results, Try.results57, go_sem, r0, r1, r2]) rfl ⟨jrn 0 (.slice none 0 0) 0, by rw [HNF.out]; simp, ?_, setP_below HB.out (by omega) _ _ _⟩
    rw [HNM.out, if_neg (by simp)]
    exact ⟨_, rfl, World.ownsRow_nil _ _ _ _, fun b e => by cases e⟩
  | true =>
    obtain ⟨⟨hk, hl, h0, h1⟩, hrun, hbo, hsl⟩ := HFA.out hj
    rw [hj] at HJO HNM HNF
    clear HFA hj
    cases hc : cmdOkB k i g with
    | false =>
      rw [hc] at HPC HNM HNF
      go_enter Try.func57, Try.ntmps57
      go_wp2_with fail
      refine (HJO.out).mono ?_
      rintro e v1 ⟨rfl, hb⟩
      replace z0 := bC hb z0 zz
      replace z1 := bC hb z1 zz
      replace z2 := bC hb z2 zz
      replace zz := Nat.lt_of_lt_of_le zz hb.size
      replace u0 := bC hb u0 zu
      replace u1 := bC hb u1 zu
      replace u2 := bC hb u2 zu
      replace zu := Nat.lt_of_lt_of_le zu hb.size
      replace r0 := bC hb r0 zr
      replace r1 := bC hb r1 zr
      replace r2 := bC hb r2 zr
      replace fr0 := bF hb fr0 zr
      replace fr1 := bF hb fr1 zr
      replace fr2 := bF hb fr2 zr
      replace zr := Nat.lt_of_lt_of_le zr hb.size
      replace HB := hide (HB.out.trans (hb.mono HB.out.size))
      clear hb
      go_wp2_with fail
      refine (HPC.out v1).mono ?_
      rintro e v2 ⟨rfl, hb⟩
      replace z0 := bC hb z0 zz
      replace z1 := bC hb z1 zz
      replace z2 := bC hb z2 zz
      replace zz := Nat.lt_of_lt_of_le zz hb.size
      replace u0 := bC hb u0 zu
      replace u1 := bC hb u1 zu
      replace u2 := bC hb u2 zu
      replace zu := Nat.lt_of_lt_of_le zu hb.size
      replace r0 := bC hb r0 zr
      replace r1 := bC hb r1 zr
      replace r2 := bC hb r2 zr
      replace fr0 := bF hb fr0 zr
      replace fr1 := bF hb fr1 zr
      replace fr2 := bF hb fr2 zr
      replace zr := Nat.lt_of_lt_of_le zr hb.size
      replace HB := hide (HB.out.trans (hb.mono HB.out.size))
      clear hb
      go_wp2
      refine bodyPost_ret (v := .tuple #[jrn 0 (.slice none 0 0) 0, .bool false]) (by simp [results, Try.results57, go_sem, r0, r1, r2]) rfl ⟨jrn 0 (.slice none 0 0) 0, by rw [HNF.out]; simp, ?_, setP_below HB.out (by omega) _ _ _⟩
      rw [HNM.out, if_neg (by simp)]
      exact ⟨_, rfl, World.ownsRow_nil _ _ _ _, fun b e => by cases e⟩
    | true =>
      rw [hc] at HPC HNM HNF
      go_enter Try.func57, Try.ntmps57
      go_wp2_with fail
      refine (HJO.out).mono ?_
      rintro e v1 ⟨rfl, hb⟩
      have hs1 := hb.size
      replace z0 := bC hb z0 zz
      replace z1 := bC hb z1 zz
      replace z2 := bC hb z2 zz
      replace zz := Nat.lt_of_lt_of_le zz hb.size
      replace u0 := bC hb u0 zu
      replace u1 := bC hb u1 zu
      replace u2 := bC hb u2 zu
      replace zu := Nat.lt_of_lt_of_le zu hb.size
      replace r0 := bC hb r0 zr
      replace r1 := bC hb r1 zr
      replace r2 := bC hb r2 zr
      replace fr0 := bF hb fr0 zr
      replace fr1 := bF hb fr1 zr
      replace fr2 := bF hb fr2 zr
      replace zr := Nat.lt_of_lt_of_le zr hb.size
      replace HB := hide (HB.out.trans (hb.mono HB.out.size))
      clear hb
      go_wp2_with fail
      refine (HPC.out v1).mono ?_
      rintro e v2 ⟨rfl, hb⟩
      have hs2 := hb.size
      replace z0 := bC hb z0 zz
      replace z1 := bC hb z1 zz
      replace z2 := bC hb z2 zz
      replace zz := Nat.lt_of_lt_of_le zz hb.size
      replace u0 := bC hb u0 zu
      replace u1 := bC hb u1 zu
      replace u2 := bC hb u2 zu
      replace zu := Nat.lt_of_lt_of_le zu hb.size
      replace r0 := bC hb r0 zr
      replace r1 := bC hb r1 zr
      replace r2 := bC hb r2 zr
      replace fr0 := bF hb fr0 zr
      replace fr1 := bF hb fr1 zr
      replace fr2 := bF hb fr2 zr
      replace zr := Nat.lt_of_lt_of_le zr hb.size
      replace HB := hide (HB.out.trans (hb.mono HB.out.size))
      clear hb
      have HRP := hide (fun W (hb : Below w.heap.size w W) => l4replay_any key o c l W ((HRL.out.kept hb (Nat.le_refl _)).le hb.size) hk hl hrun)
      generalize hsv : servedOf l l.length = sv at *
      cases hdo : doL sv k i g with
      | none =>
        rw [hdo] at HND
        have HNDl := hide (show noteD key l k i g = false by rw [HND.out]; rfl)
        go_upto_region 3 with fail
        go_cut [6, 7] from 18 to 27 (fun s6 s7 wx => s7 = .bool false ∧ Hid (Below v2.heap.size v2 wx))
        case first =>
          go_region_held3 (fun w' => w'.cell? ⟨w.heap.size, 0, none⟩ = some (.int .i64 key) ∧ w'.cell? ⟨w.heap.size, 1, none⟩ = some (.slice o l.length c) ∧ w'.cell? ⟨w.heap.size + 1, 0, none⟩ = some (.int .i64 k) ∧ w'.cell? ⟨w.heap.size + 1, 1, none⟩ = some (.int .i64 i) ∧ w'.cell? ⟨w.heap.size + 1, 2, none⟩ = some (.int .i64 g)) (first | with_reducible exact ⟨k1_0, k1_1, k1_2, k1_3, k1_4⟩ | with_reducible exact ⟨k0_0, k0_1, k0_2, k0_3, k0_4⟩ | with_reducible exact ⟨z0, z1, u0, u1, u2⟩ | with_reducible exact ⟨sa_0, sa_1, sa_2, sa_3, sa_4⟩ | with_reducible exact ⟨sb_0, sb_1, sb_2, sb_3, sb_4⟩ | go_keep) (first | (go_at_call 113; have hc_ := HRP.out v2.drew (HB.out.trans ((show Below v2.heap.size v2 v2.drew from (Below.drew (Below.refl _ _))).mono HB.out.size)); with_reducible refine hc_.mono ?_; clear hc_; rintro e x0 ⟨oB, cB, oR, cR, hs, rfl, owB, owR, _, hs3, hb⟩; have hp0 : Below v2.heap.size v2 x0 := Below.trans (show Below v2.heap.size v2 v2.drew from (Below.drew (Below.refl _ _))) (hb.mono (by simp)); have sp0 := hp0.size; have rdB := ownL.rds (L := layK) owB; have rdR := ownL.rds (L := layH) owR; have hcr := capH owR; have k0_0 := bC hp0 z0 zz; have k0_1 := bC hp0 z1 zz; have k0_2 := bC hp0 u0 zu; have k0_3 := bC hp0 u1 zu; have k0_4 := bC hp0 u2 zu; clear hb owB owR) | (go_at_call 113; have hc_ := HRP.out (v2.alloc (.cells #[.int .i64 0, .slice none 0 0, .slice none 0 0] 26)).drew (HB.out.trans ((show Below v2.heap.size v2 (v2.alloc (.cells #[.int .i64 0, .slice none 0 0, .slice none 0 0] 26)).drew from (Below.drew ((Below.refl _ _).alloc (Nat.le_refl _) _))).mono HB.out.size)); with_reducible refine hc_.mono ?_; clear hc_; rintro e x0 ⟨oB, cB, oR, cR, hs, rfl, owB, owR, _, hs3, hb⟩; have hp0 : Below v2.heap.size v2 x0 := Below.trans (show Below v2.heap.size v2 (v2.alloc (.cells #[.int .i64 0, .slice none 0 0, .slice none 0 0] 26)).drew from (Below.drew ((Below.refl _ _).alloc (Nat.le_refl _) _))) (hb.mono (by simp)); have sp0 := hp0.size; have rdB := ownL.rds (L := layK) owB; have rdR := ownL.rds (L := layH) owR; have hcr := capH owR; have k0_0 := bC hp0 z0 zz; have k0_1 := bC hp0 z1 zz; have k0_2 := bC hp0 u0 zu; have k0_3 := bC hp0 u1 zu; have k0_4 := bC hp0 u2 zu; have hZa := box_newA hb; have hzla := (Array.getElem?_eq_some_iff.1 hZa).1; clear hb owB owR) | (go_at_call 88; have hc_ := l4do_no key oB cB sv oR hs.length cR k i g x0 hbo hdo hsl ((rdB.kept (show Below x0.heap.size x0 x0 from (Below.refl x0.heap.size x0)) (Nat.le_refl _)).le (show x0.heap.size ≤ x0.heap.size by (try simp))); with_reducible refine hc_.mono ?_; clear hc_; rintro e x1 ⟨rfl, hb⟩; have hq : Below x0.heap.size x0 x1 := Below.trans (show Below x0.heap.size x0 x0 from (Below.refl x0.heap.size x0)) (hb.mono (by (try simp))); have hp1 : Below v2.heap.size v2 x1 := hp0.trans (hq.mono sp0); have sp1 := hp1.size; have k1_0 := bC hp1 z0 zz; have k1_1 := bC hp1 z1 zz; have k1_2 := bC hp1 u0 zu; have k1_3 := bC hp1 u1 zu; have k1_4 := bC hp1 u2 zu; (try have hZc := (hq.block _ hzla).trans hZa); (try have hzc_0 := bx_cell hZc 0 _ rfl); (try have hzf_0 := bx_frozen hZc 0); (try have hzc_1 := bx_cell hZc 1 _ rfl); (try have hzf_1 := bx_frozen hZc 1); (try have hzc_2 := bx_cell hZc 2 _ rfl); (try have hzf_2 := bx_frozen hZc 2); have sa_0 : (((x1.setCell ⟨v2.heap.size, 0, none⟩ (.int .i64 key)).setCell ⟨v2.heap.size, 1, none⟩ (.slice oB sv.length cB)).setCell ⟨v2.heap.size, 2, none⟩ (.slice oR hs.length cR)).cell? ⟨w.heap.size, 0, none⟩ = some (.int .i64 key) := setP_cell k1_0 (Nat.lt_of_lt_of_le zz (by (try simp) <;> omega)); have sa_1 : (((x1.setCell ⟨v2.heap.size, 0, none⟩ (.int .i64 key)).setCell ⟨v2.heap.size, 1, none⟩ (.slice oB sv.length cB)).setCell ⟨v2.heap.size, 2, none⟩ (.slice oR hs.length cR)).cell? ⟨w.heap.size, 1, none⟩ = some (.slice o l.length c) := setP_cell k1_1 (Nat.lt_of_lt_of_le zz (by (try simp) <;> omega)); have sa_2 : (((x1.setCell ⟨v2.heap.size, 0, none⟩ (.int .i64 key)).setCell ⟨v2.heap.size, 1, none⟩ (.slice oB sv.length cB)).setCell ⟨v2.heap.size, 2, none⟩ (.slice oR hs.length cR)).cell? ⟨w.heap.size + 1, 0, none⟩ = some (.int .i64 k) := setP_cell k1_2 (Nat.lt_of_lt_of_le zu (by (try simp) <;> omega)); have sa_3 : (((x1.setCell ⟨v2.heap.size, 0, none⟩ (.int .i64 key)).setCell ⟨v2.heap.size, 1, none⟩ (.slice oB sv.length cB)).setCell ⟨v2.heap.size, 2, none⟩ (.slice oR hs.length cR)).cell? ⟨w.heap.size + 1, 1, none⟩ = some (.int .i64 i) := setP_cell k1_3 (Nat.lt_of_lt_of_le zu (by (try simp) <;> omega)); have sa_4 : (((x1.setCell ⟨v2.heap.size, 0, none⟩ (.int .i64 key)).setCell ⟨v2.heap.size, 1, none⟩ (.slice oB sv.length cB)).setCell ⟨v2.heap.size, 2, none⟩ (.slice oR hs.length cR)).cell? ⟨w.heap.size + 1, 2, none⟩ = some (.int .i64 g) := setP_cell k1_4 (Nat.lt_of_lt_of_le zu (by (try simp) <;> omega)); clear hb hq) | (go_at_call 88; have hc_ := l4do_no key oB cB sv oR hs.length cR k i g (x0.alloc (.cells #[.int .i64 0, .slice none 0 0, .slice none 0 0] 26)) hbo hdo hsl ((rdB.kept (show Below x0.heap.size x0 (x0.alloc (.cells #[.int .i64 0, .slice none 0 0, .slice none 0 0] 26)) from ((Below.refl x0.heap.size x0).alloc (Nat.le_refl _) _)) (Nat.le_refl _)).le (show x0.heap.size ≤ (x0.alloc (.cells #[.int .i64 0, .slice none 0 0, .slice none 0 0] 26)).heap.size by (try simp))); with_reducible refine hc_.mono ?_; clear hc_; rintro e x1 ⟨rfl, hb⟩; have hq : Below x0.heap.size x0 x1 := Below.trans (show Below x0.heap.size x0 (x0.alloc (.cells #[.int .i64 0, .slice none 0 0, .slice none 0 0] 26)) from ((Below.refl x0.heap.size x0).alloc (Nat.le_refl _) _)) (hb.mono (by (try simp))); have hp1 : Below v2.heap.size v2 x1 := hp0.trans (hq.mono sp0); have sp1 := hp1.size; have k1_0 := bC hp1 z0 zz; have k1_1 := bC hp1 z1 zz; have k1_2 := bC hp1 u0 zu; have k1_3 := bC hp1 u1 zu; have k1_4 := bC hp1 u2 zu; have hZc := (hb.block x0.heap.size (by simp)).trans (World.alloc_heap_new x0 (.cells #[.int .i64 0, .slice none 0 0, .slice none 0 0] 26)); (try have hzc_0 := bx_cell hZc 0 _ rfl); (try have hzf_0 := bx_frozen hZc 0); (try have hzc_1 := bx_cell hZc 1 _ rfl); (try have hzf_1 := bx_frozen hZc 1); (try have hzc_2 := bx_cell hZc 2 _ rfl); (try have hzf_2 := bx_frozen hZc 2); have sb_0 : (((x1.setCell ⟨x0.heap.size, 0, none⟩ (.int .i64 key)).setCell ⟨x0.heap.size, 1, none⟩ (.slice oB sv.length cB)).setCell ⟨x0.heap.size, 2, none⟩ (.slice oR hs.length cR)).cell? ⟨w.heap.size, 0, none⟩ = some (.int .i64 key) := setP_cell k1_0 (Nat.lt_of_lt_of_le zz (by (try simp) <;> omega)); have sb_1 : (((x1.setCell ⟨x0.heap.size, 0, none⟩ (.int .i64 key)).setCell ⟨x0.heap.size, 1, none⟩ (.slice oB sv.length cB)).setCell ⟨x0.heap.size, 2, none⟩ (.slice oR hs.length cR)).cell? ⟨w.heap.size, 1, none⟩ = some (.slice o l.length c) := setP_cell k1_1 (Nat.lt_of_lt_of_le zz (by (try simp) <;> omega)); have sb_2 : (((x1.setCell ⟨x0.heap.size, 0, none⟩ (.int .i64 key)).setCell ⟨x0.heap.size, 1, none⟩ (.slice oB sv.length cB)).setCell ⟨x0.heap.size, 2, none⟩ (.slice oR hs.length cR)).cell? ⟨w.heap.size + 1, 0, none⟩ = some (.int .i64 k) := setP_cell k1_2 (Nat.lt_of_lt_of_le zu (by (try simp) <;> omega)); have sb_3 : (((x1.setCell ⟨x0.heap.size, 0, none⟩ (.int .i64 key)).setCell ⟨x0.heap.size, 1, none⟩ (.slice oB sv.length cB)).setCell ⟨x0.heap.size, 2, none⟩ (.slice oR hs.length cR)).cell? ⟨w.heap.size + 1, 1, none⟩ = some (.int .i64 i) := setP_cell k1_3 (Nat.lt_of_lt_of_le zu (by (try simp) <;> omega)); have sb_4 : (((x1.setCell ⟨x0.heap.size, 0, none⟩ (.int .i64 key)).setCell ⟨x0.heap.size, 1, none⟩ (.slice oB sv.length cB)).setCell ⟨x0.heap.size, 2, none⟩ (.slice oR hs.length cR)).cell? ⟨w.heap.size + 1, 2, none⟩ = some (.int .i64 g) := setP_cell k1_4 (Nat.lt_of_lt_of_le zu (by (try simp) <;> omega)); clear hb hq))
          all_goals (go_wp2_with fail; go_meet)
          all_goals first
            | with_reducible exact ⟨rfl, hide (setP_below hp1 (Nat.le_refl _) _ _ _)⟩
            | with_reducible exact ⟨rfl, hide (setP_below hp1 sp0 _ _ _)⟩
            | with_reducible exact ⟨rfl, hide (hp1.alloc hp1.size _)⟩
        case rest =>
        obtain ⟨rfl, Hbl⟩ := hcut
        have hb := Hbl.out
        have hwc := hb.size
        replace z0 := bC hb z0 zz
        replace z1 := bC hb z1 zz
        replace z2 := bC hb z2 zz
        replace zz := Nat.lt_of_lt_of_le zz hb.size
        replace u0 := bC hb u0 zu
        replace u1 := bC hb u1 zu
        replace u2 := bC hb u2 zu
        replace zu := Nat.lt_of_lt_of_le zu hb.size
        replace r0 := bC hb r0 zr
        replace r1 := bC hb r1 zr
        replace r2 := bC hb r2 zr
        replace fr0 := bF hb fr0 zr
        replace fr1 := bF hb fr1 zr
        replace fr2 := bF hb fr2 zr
        replace zr := Nat.lt_of_lt_of_le zr hb.size
        replace HB := hide (HB.out.trans (hb.mono HB.out.size))
        clear hb
        have HCJ := hide (l4ownJ_any key safe o c l l.length rfl wc ((HRL.out.kept HB.out (Nat.le_refl _)).le HB.out.size) hcap hf)
        go_wp2_with fail
        refine (HCJ.out).mono ?_
        rintro e v7 ⟨o2, c2, rfl, ow2, hb⟩
        have HOX := hide ow2
        have hs3 := hb.size
        clear ow2
        replace z0 := bC hb z0 zz
        replace z1 := bC hb z1 zz
        replace z2 := bC hb z2 zz
        replace zz := Nat.lt_of_lt_of_le zz hb.size
        replace u0 := bC hb u0 zu
        replace u1 := bC hb u1 zu
        replace u2 := bC hb u2 zu
        replace zu := Nat.lt_of_lt_of_le zu hb.size
        replace r0 := bC hb r0 zr
        replace r1 := bC hb r1 zr
        replace r2 := bC hb r2 zr
        replace fr0 := bF hb fr0 zr
        replace fr1 := bF hb fr1 zr
        replace fr2 := bF hb fr2 zr
        replace zr := Nat.lt_of_lt_of_le zr hb.size
        replace HB := hide (HB.out.trans (hb.mono HB.out.size))
        clear hb
        have hrb : w.heap.size + 1 + 1 < wc.heap.size := by omega
        go_wp2
        refine bodyPost_ret (v := .tuple #[jrn key (.slice o2 l.length c2) safe, .bool false]) (by simp [results, Try.results57, go_sem, r0, r1, r2]) rfl ⟨jrn key (.slice o2 l.length c2) safe, by rw [HNF.out, HNDl.out]; simp, ?_, setP_below HB.out (by omega) _ _ _⟩
        rw [HNM.out, if_pos (by simp), if_neg (by rw [HNDl.out]; simp)]
        exact ⟨_, rfl, InRow.of (own_mono (own_low (own_low (own_low HOX.out hrb 0 _) hrb 1 _) hrb 2 _) (by omega))⟩
      | some mm =>
        rw [hdo] at HND
        go_upto_region 3 with fail
        go_cut [6, 7] from 18 to 27 (fun s6 s7 wx => s7 = .bool true ∧ Hid (Below v2.heap.size v2 wx))
        case first =>
          go_region_held3 (fun w' => w'.cell? ⟨w.heap.size, 0, none⟩ = some (.int .i64 key) ∧ w'.cell? ⟨w.heap.size, 1, none⟩ = some (.slice o l.length c) ∧ w'.cell? ⟨w.heap.size + 1, 0, none⟩ = some (.int .i64 k) ∧ w'.cell? ⟨w.heap.size + 1, 1, none⟩ = some (.int .i64 i) ∧ w'.cell? ⟨w.heap.size + 1, 2, none⟩ = some (.int .i64 g)) (first | with_reducible exact ⟨k1_0, k1_1, k1_2, k1_3, k1_4⟩ | with_reducible exact ⟨k0_0, k0_1, k0_2, k0_3, k0_4⟩ | with_reducible exact ⟨z0, z1, u0, u1, u2⟩ | with_reducible exact ⟨sa_0, sa_1, sa_2, sa_3, sa_4⟩ | with_reducible exact ⟨sb_0, sb_1, sb_2, sb_3, sb_4⟩ | go_keep) (first | (go_at_call 113; have hc_ := HRP.out v2.drew (HB.out.trans ((show Below v2.heap.size v2 v2.drew from (Below.drew (Below.refl _ _))).mono HB.out.size)); with_reducible refine hc_.mono ?_; clear hc_; rintro e x0 ⟨oB, cB, oR, cR, hs, rfl, owB, owR, _, hs3, hb⟩; have hp0 : Below v2.heap.size v2 x0 := Below.trans (show Below v2.heap.size v2 v2.drew from (Below.drew (Below.refl _ _))) (hb.mono (by simp)); have sp0 := hp0.size; have rdB := ownL.rds (L := layK) owB; have rdR := ownL.rds (L := layH) owR; have hcr := capH owR; have k0_0 := bC hp0 z0 zz; have k0_1 := bC hp0 z1 zz; have k0_2 := bC hp0 u0 zu; have k0_3 := bC hp0 u1 zu; have k0_4 := bC hp0 u2 zu; clear hb owB owR) | (go_at_call 113; have hc_ := HRP.out (v2.alloc (.cells #[.int .i64 0, .slice none 0 0, .slice none 0 0] 26)).drew (HB.out.trans ((show Below v2.heap.size v2 (v2.alloc (.cells #[.int .i64 0, .slice none 0 0, .slice none 0 0] 26)).drew from (Below.drew ((Below.refl _ _).alloc (Nat.le_refl _) _))).mono HB.out.size)); with_reducible refine hc_.mono ?_; clear hc_; rintro e x0 ⟨oB, cB, oR, cR, hs, rfl, owB, owR, _, hs3, hb⟩; have hp0 : Below v2.heap.size v2 x0 := Below.trans (show Below v2.heap.size v2 (v2.alloc (.cells #[.int .i64 0, .slice none 0 0, .slice none 0 0] 26)).drew from (Below.drew ((Below.refl _ _).alloc (Nat.le_refl _) _))) (hb.mono (by simp)); have sp0 := hp0.size; have rdB := ownL.rds (L := layK) owB; have rdR := ownL.rds (L := layH) owR; have hcr := capH owR; have k0_0 := bC hp0 z0 zz; have k0_1 := bC hp0 z1 zz; have k0_2 := bC hp0 u0 zu; have k0_3 := bC hp0 u1 zu; have k0_4 := bC hp0 u2 zu; have hZa := box_newA hb; have hzla := (Array.getElem?_eq_some_iff.1 hZa).1; clear hb owB owR) | (go_at_call 88; have hc_ := l4do_yes key oB cB sv oR cR hs k i g mm x0 hk hbo hc hdo hsl ((rdB.kept (show Below x0.heap.size x0 x0 from (Below.refl x0.heap.size x0)) (Nat.le_refl _)).le (show x0.heap.size ≤ x0.heap.size by (try simp))) ((rdR.kept (show Below x0.heap.size x0 x0 from (Below.refl x0.heap.size x0)) (Nat.le_refl _)).le (show x0.heap.size ≤ x0.heap.size by (try simp))) hcr hs3; with_reducible refine hc_.mono ?_; clear hc_; rintro e x1 ⟨o2, d2, oR2, n2, dR2, o3, d3, hs8, rfl, hn2, _, _, _, _, hb⟩; have hq : Below x0.heap.size x0 x1 := Below.trans (show Below x0.heap.size x0 x0 from (Below.refl x0.heap.size x0)) (hb.mono (by (try simp))); have hp1 : Below v2.heap.size v2 x1 := hp0.trans (hq.mono sp0); have sp1 := hp1.size; clear hn2; have k1_0 := bC hp1 z0 zz; have k1_1 := bC hp1 z1 zz; have k1_2 := bC hp1 u0 zu; have k1_3 := bC hp1 u1 zu; have k1_4 := bC hp1 u2 zu; (try have hZc := (hq.block _ hzla).trans hZa); (try have hzc_0 := bx_cell hZc 0 _ rfl); (try have hzf_0 := bx_frozen hZc 0); (try have hzc_1 := bx_cell hZc 1 _ rfl); (try have hzf_1 := bx_frozen hZc 1); (try have hzc_2 := bx_cell hZc 2 _ rfl); (try have hzf_2 := bx_frozen hZc 2); have sa_0 : (((x1.setCell ⟨v2.heap.size, 0, none⟩ (.int .i64 key)).setCell ⟨v2.heap.size, 1, none⟩ (.slice o2 mm.length d2)).setCell ⟨v2.heap.size, 2, none⟩ (.slice oR2 n2 dR2)).cell? ⟨w.heap.size, 0, none⟩ = some (.int .i64 key) := setP_cell k1_0 (Nat.lt_of_lt_of_le zz (by (try simp) <;> omega)); have sa_1 : (((x1.setCell ⟨v2.heap.size, 0, none⟩ (.int .i64 key)).setCell ⟨v2.heap.size, 1, none⟩ (.slice o2 mm.length d2)).setCell ⟨v2.heap.size, 2, none⟩ (.slice oR2 n2 dR2)).cell? ⟨w.heap.size, 1, none⟩ = some (.slice o l.length c) := setP_cell k1_1 (Nat.lt_of_lt_of_le zz (by (try simp) <;> omega)); have sa_2 : (((x1.setCell ⟨v2.heap.size, 0, none⟩ (.int .i64 key)).setCell ⟨v2.heap.size, 1, none⟩ (.slice o2 mm.length d2)).setCell ⟨v2.heap.size, 2, none⟩ (.slice oR2 n2 dR2)).cell? ⟨w.heap.size + 1, 0, none⟩ = some (.int .i64 k) := setP_cell k1_2 (Nat.lt_of_lt_of_le zu (by (try simp) <;> omega)); have sa_3 : (((x1.setCell ⟨v2.heap.size, 0, none⟩ (.int .i64 key)).setCell ⟨v2.heap.size, 1, none⟩ (.slice o2 mm.length d2)).setCell ⟨v2.heap.size, 2, none⟩ (.slice oR2 n2 dR2)).cell? ⟨w.heap.size + 1, 1, none⟩ = some (.int .i64 i) := setP_cell k1_3 (Nat.lt_of_lt_of_le zu (by (try simp) <;> omega)); have sa_4 : (((x1.setCell ⟨v2.heap.size, 0, none⟩ (.int .i64 key)).setCell ⟨v2.heap.size, 1, none⟩ (.slice o2 mm.length d2)).setCell ⟨v2.heap.size, 2, none⟩ (.slice oR2 n2 dR2)).cell? ⟨w.heap.size + 1, 2, none⟩ = some (.int .i64 g) := setP_cell k1_4 (Nat.lt_of_lt_of_le zu (by (try simp) <;> omega)); clear hb hq) | (go_at_call 88; have hc_ := l4do_yes key oB cB sv oR cR hs k i g mm (x0.alloc (.cells #[.int .i64 0, .slice none 0 0, .slice none 0 0] 26)) hk hbo hc hdo hsl ((rdB.kept (show Below x0.heap.size x0 (x0.alloc (.cells #[.int .i64 0, .slice none 0 0, .slice none 0 0] 26)) from ((Below.refl x0.heap.size x0).alloc (Nat.le_refl _) _)) (Nat.le_refl _)).le (show x0.heap.size ≤ (x0.alloc (.cells #[.int .i64 0, .slice none 0 0, .slice none 0 0] 26)).heap.size by (try simp))) ((rdR.kept (show Below x0.heap.size x0 (x0.alloc (.cells #[.int .i64 0, .slice none 0 0, .slice none 0 0] 26)) from ((Below.refl x0.heap.size x0).alloc (Nat.le_refl _) _)) (Nat.le_refl _)).le (show x0.heap.size ≤ (x0.alloc (.cells #[.int .i64 0, .slice none 0 0, .slice none 0 0] 26)).heap.size by (try simp))) hcr hs3; with_reducible refine hc_.mono ?_; clear hc_; rintro e x1 ⟨o2, d2, oR2, n2, dR2, o3, d3, hs8, rfl, hn2, _, _, _, _, hb⟩; have hq : Below x0.heap.size x0 x1 := Below.trans (show Below x0.heap.size x0 (x0.alloc (.cells #[.int .i64 0, .slice none 0 0, .slice none 0 0] 26)) from ((Below.refl x0.heap.size x0).alloc (Nat.le_refl _) _)) (hb.mono (by (try simp))); have hp1 : Below v2.heap.size v2 x1 := hp0.trans (hq.mono sp0); have sp1 := hp1.size; clear hn2; have k1_0 := bC hp1 z0 zz; have k1_1 := bC hp1 z1 zz; have k1_2 := bC hp1 u0 zu; have k1_3 := bC hp1 u1 zu; have k1_4 := bC hp1 u2 zu; have hZc := (hb.block x0.heap.size (by simp)).trans (World.alloc_heap_new x0 (.cells #[.int .i64 0, .slice none 0 0, .slice none 0 0] 26)); (try have hzc_0 := bx_cell hZc 0 _ rfl); (try have hzf_0 := bx_frozen hZc 0); (try have hzc_1 := bx_cell hZc 1 _ rfl); (try have hzf_1 := bx_frozen hZc 1); (try have hzc_2 := bx_cell hZc 2 _ rfl); (try have hzf_2 := bx_frozen hZc 2); have sb_0 : (((x1.setCell ⟨x0.heap.size, 0, none⟩ (.int .i64 key)).setCell ⟨x0.heap.size, 1, none⟩ (.slice o2 mm.length d2)).setCell ⟨x0.heap.size, 2, none⟩ (.slice oR2 n2 dR2)).cell? ⟨w.heap.size, 0, none⟩ = some (.int .i64 key) := setP_cell k1_0 (Nat.lt_of_lt_of_le zz (by (try simp) <;> omega)); have sb_1 : (((x1.setCell ⟨x0.heap.size, 0, none⟩ (.int .i64 key)).setCell ⟨x0.heap.size, 1, none⟩ (.slice o2 mm.length d2)).setCell ⟨x0.heap.size, 2, none⟩ (.slice oR2 n2 dR2)).cell? ⟨w.heap.size, 1, none⟩ = some (.slice o l.length c) := setP_cell k1_1 (Nat.lt_of_lt_of_le zz (by (try simp) <;> omega)); have sb_2 : (((x1.setCell ⟨x0.heap.size, 0, none⟩ (.int .i64 key)).setCell ⟨x0.heap.size, 1, none⟩ (.slice o2 mm.length d2)).setCell ⟨x0.heap.size, 2, none⟩ (.slice oR2 n2 dR2)).cell? ⟨w.heap.size + 1, 0, none⟩ = some (.int .i64 k) := setP_cell k1_2 (Nat.lt_of_lt_of_le zu (by (try simp) <;> omega)); have sb_3 : (((x1.setCell ⟨x0.heap.size, 0, none⟩ (.int .i64 key)).setCell ⟨x0.heap.size, 1, none⟩ (.slice o2 mm.length d2)).setCell ⟨x0.heap.size, 2, none⟩ (.slice oR2 n2 dR2)).cell? ⟨w.heap.size + 1, 1, none⟩ = some (.int .i64 i) := setP_cell k1_3 (Nat.lt_of_lt_of_le zu (by (try simp) <;> omega)); have sb_4 : (((x1.setCell ⟨x0.heap.size, 0, none⟩ (.int .i64 key)).setCell ⟨x0.heap.size, 1, none⟩ (.slice o2 mm.length d2)).setCell ⟨x0.heap.size, 2, none⟩ (.slice oR2 n2 dR2)).cell? ⟨w.heap.size + 1, 2, none⟩ = some (.int .i64 g) := setP_cell k1_4 (Nat.lt_of_lt_of_le zu (by (try simp) <;> omega)); clear hb hq))
          all_goals (go_wp2_with fail; go_meet)
          all_goals first
            | with_reducible exact ⟨rfl, hide (setP_below hp1 (Nat.le_refl _) _ _ _)⟩
            | with_reducible exact ⟨rfl, hide (setP_below hp1 sp0 _ _ _)⟩
            | with_reducible exact ⟨rfl, hide (hp1.alloc hp1.size _)⟩
        case rest =>
        obtain ⟨rfl, Hbl⟩ := hcut
        have hb := Hbl.out
        have hwc := hb.size
        replace z0 := bC hb z0 zz
        replace z1 := bC hb z1 zz
        replace z2 := bC hb z2 zz
        replace zz := Nat.lt_of_lt_of_le zz hb.size
        replace u0 := bC hb u0 zu
        replace u1 := bC hb u1 zu
        replace u2 := bC hb u2 zu
        replace zu := Nat.lt_of_lt_of_le zu hb.size
        replace r0 := bC hb r0 zr
        replace r1 := bC hb r1 zr
        replace r2 := bC hb r2 zr
        replace fr0 := bF hb fr0 zr
        replace fr1 := bF hb fr1 zr
        replace fr2 := bF hb fr2 zr
        replace zr := Nat.lt_of_lt_of_le zr hb.size
        replace HB := hide (HB.out.trans (hb.mono HB.out.size))
        clear hb
        have HCJ := hide (l4ownJ_any key safe o c l l.length rfl wc ((HRL.out.kept HB.out (Nat.le_refl _)).le HB.out.size) hcap hf)
        by_cases h100 : l.length = 100
        · have HNDl := hide (show noteD key l k i g = false by rw [HND.out, h100]; rfl)
          have h100' : (100 : Int) ≤ (l.length : Int) := by omega
          have h100d : decide ((100 : Int) ≤ (l.length : Int)) = true := decide_eq_true h100'
          clear h100
          go_wp2_with fail
          refine (HCJ.out).mono ?_
          rintro e v7 ⟨o2, c2, rfl, ow2, hb⟩
          have HOX := hide ow2
          have hs3 := hb.size
          clear ow2
          replace z0 := bC hb z0 zz
          replace z1 := bC hb z1 zz
          replace z2 := bC hb z2 zz
          replace zz := Nat.lt_of_lt_of_le zz hb.size
          replace u0 := bC hb u0 zu
          replace u1 := bC hb u1 zu
          replace u2 := bC hb u2 zu
          replace zu := Nat.lt_of_lt_of_le zu hb.size
          replace r0 := bC hb r0 zr
          replace r1 := bC hb r1 zr
          replace r2 := bC hb r2 zr
          replace fr0 := bF hb fr0 zr
          replace fr1 := bF hb fr1 zr
          replace fr2 := bF hb fr2 zr
          replace zr := Nat.lt_of_lt_of_le zr hb.size
          replace HB := hide (HB.out.trans (hb.mono HB.out.size))
          clear hb
          have hrb : w.heap.size + 1 + 1 < wc.heap.size := by omega
          go_wp2
          refine bodyPost_ret (v := .tuple #[jrn key (.slice o2 l.length c2) safe, .bool false]) (by simp [results, Try.results57, go_sem, r0, r1, r2]) rfl ⟨jrn key (.slice o2 l.length c2) safe, by rw [HNF.out, HNDl.out]; simp, ?_, setP_below HB.out (by omega) _ _ _⟩
          rw [HNM.out, if_pos (by simp), if_neg (by rw [HNDl.out]; simp)]
          exact ⟨_, rfl, InRow.of (own_mono (own_low (own_low (own_low HOX.out hrb 0 _) hrb 1 _) hrb 2 _) (by omega))⟩
        · have HNDl := hide (show noteD key l k i g = true by rw [HND.out, decide_eq_false (by omega)]; rfl)
          have h100' : ¬ ((100 : Int) ≤ (l.length : Int)) := by omega
          have h100d : decide ((100 : Int) ≤ (l.length : Int)) = false := decide_eq_false h100'
          go_wp2_with fail
          refine (HCJ.out).mono ?_
          rintro e v7 ⟨o2, c2, rfl, ow2, hb⟩
          have HOX := hide ow2
          have hs3 := hb.size
          clear ow2
          have HLTX := hide (fun b (e : (Value.slice o2 l.length c2).ownBlock = some b) => (HOX.out.lt b e).2)
          replace z0 := bC hb z0 zz
          replace z1 := bC hb z1 zz
          replace z2 := bC hb z2 zz
          replace zz := Nat.lt_of_lt_of_le zz hb.size
          replace u0 := bC hb u0 zu
          replace u1 := bC hb u1 zu
          replace u2 := bC hb u2 zu
          replace zu := Nat.lt_of_lt_of_le zu hb.size
          replace r0 := bC hb r0 zr
          replace r1 := bC hb r1 zr
          replace r2 := bC hb r2 zr
          replace fr0 := bF hb fr0 zr
          replace fr1 := bF hb fr1 zr
          replace fr2 := bF hb fr2 zr
          replace zr := Nat.lt_of_lt_of_le zr hb.size
          replace HB := hide (HB.out.trans (hb.mono HB.out.size))
          clear hb
          obtain ⟨W4, hW4⟩ : ∃ W, (v7.alloc (.cells #[.int .i64 key, .slice o2 l.length c2, .int .i64 safe] 47)) = W := ⟨_, rfl⟩
          have hb_W4 : Below v7.heap.size v7 W4 := by rw [← hW4]; exact ((Below.refl _ _).alloc (Nat.le_refl _) _)
          replace z0 := bC hb_W4 z0 zz
          replace z1 := bC hb_W4 z1 zz
          replace z2 := bC hb_W4 z2 zz
          replace zz := Nat.lt_of_lt_of_le zz hb_W4.size
          replace u0 := bC hb_W4 u0 zu
          replace u1 := bC hb_W4 u1 zu
          replace u2 := bC hb_W4 u2 zu
          replace zu := Nat.lt_of_lt_of_le zu hb_W4.size
          replace r0 := bC hb_W4 r0 zr
          replace r1 := bC hb_W4 r1 zr
          replace r2 := bC hb_W4 r2 zr
          replace fr0 := bF hb_W4 fr0 zr
          replace fr1 := bF hb_W4 fr1 zr
          replace fr2 := bF hb_W4 fr2 zr
          replace zr := Nat.lt_of_lt_of_le zr hb_W4.size
          replace HOX := hide (own_kept HOX.out hb_W4)
          replace HB := hide (HB.out.trans (hb_W4.mono HB.out.size))
          clear hb_W4
          have zx : v7.heap.size < W4.heap.size := by rw [← hW4]; simp
          have x0 : W4.cell? ⟨v7.heap.size, 0, none⟩ = some (.int .i64 key) := by rw [← hW4]; simp [go_sem]
          have x1 : W4.cell? ⟨v7.heap.size, 1, none⟩ = some (.slice o2 l.length c2) := by rw [← hW4]; simp [go_sem]
          have x2 : W4.cell? ⟨v7.heap.size, 2, none⟩ = some (.int .i64 safe) := by rw [← hW4]; simp [go_sem]
          have hx4 : W4.heap[v7.heap.size]? = some (.cells #[.int .i64 key, .slice o2 l.length c2, .int .i64 safe] 47 (0, 0)) := by rw [← hW4]; exact World.alloc_heap_new v7 _
          have hs4 : v7.heap.size < W4.heap.size := zx
          have hrb : w.heap.size + 1 + 1 < wc.heap.size := by omega
          have hxb := hx4
          go_wp2_with (at_builtin; refine wpList_append_lay appC0 rfl (.tmp 41) (.tmp 43) rfl wc.heap.size _ l rfl (World.ownsRow.alloc HOX.out (.cells #[.int .i64 k, .int .i64 i, .int .i64 g] 28)) (some ⟨W4.heap.size, 0, none⟩) 1 (W4.alloc (.cells #[.int .i64 k, .int .i64 i, .int .i64 g] 28)).heap.size [(k, i, g)] 1 rfl rfl (fun h => by cases h) rd_oneC (by simp; omega) (by simp; omega) ?_)
          intro v6 w6 ho6 hg6 _
          obtain ⟨o6, c6, e6, _⟩ := ownL.open (L := layC) ho6
          rw [show (l ++ [(k, i, g)]).length = l.length + 1 by simp] at e6
          subst e6
          have hb6 : Below wc.heap.size W4 w6 := ((Below.refl W4.heap.size W4).alloc (Nat.le_refl _) (.cells #[.int .i64 k, .int .i64 i, .int .i64 g] 28)).mono (by omega) |>.grown hg6 (by simp; omega) (fun k h => (HOX.out.lt k h).1)
          have hx6 : w6.heap[v7.heap.size]? = some (.cells #[.int .i64 key, .slice o2 l.length c2, .int .i64 safe] 47 (0, 0)) := (hg6.block _ (by have := (Array.getElem?_eq_some_iff.1 hxb).1; simp; omega) (fun e => by have := HLTX.out _ e.symm; omega)).trans ((Below.heap_alloc _ _ _ (Array.getElem?_eq_some_iff.1 hxb).1).trans hxb)
          have HO6 : Hid (ownC w6 wc.heap.size (.slice o6 (l.length + 1) c6) (l ++ [(k, i, g)])) := ho6
          clear ho6 hg6
          replace r0 := bC hb6 r0 (show _ < _ by omega)
          replace fr0 := bF hb6 fr0 (show _ < _ by omega)
          replace r1 := bC hb6 r1 (show _ < _ by omega)
          replace fr1 := bF hb6 fr1 (show _ < _ by omega)
          replace r2 := bC hb6 r2 (show _ < _ by omega)
          replace fr2 := bF hb6 fr2 (show _ < _ by omega)
          have HB6 := hide (HB.out.trans (hb6.mono (by omega)))
          clear hb6 HB
          obtain ⟨W7, hW7⟩ : ∃ W, w6.setCell ⟨v7.heap.size, 1, none⟩ (.slice o6 (l.length + 1) c6) = W := ⟨_, rfl⟩
          have h7 : W7.heap[v7.heap.size]? = some (.cells #[.int .i64 key, .slice o6 (l.length + 1) c6, .int .i64 safe] 47 (0, 0)) := by rw [← hW7]; exact box_put hx6 1 _
          obtain ⟨W8, hW8⟩ : ∃ W, W7.setCell ⟨v7.heap.size, 2, none⟩ (.int .i64 ((l.length : Int) + 1)) = W := ⟨_, rfl⟩
          have h8 : W8.heap[v7.heap.size]? = some (.cells #[.int .i64 key, .slice o6 (l.length + 1) c6, .int .i64 ((l.length : Int) + 1)] 47 (0, 0)) := by rw [← hW8]; exact box_put h7 2 _
          have a60 : w6.cell? ⟨v7.heap.size, 0, none⟩ = some (.int .i64 key) := bx_cell hx6 0 _ rfl
          have g60 := bx_frozen hx6 0
          have a61 : w6.cell? ⟨v7.heap.size, 1, none⟩ = some (.slice o2 l.length c2) := bx_cell hx6 1 _ rfl
          have g61 := bx_frozen hx6 1
          have a62 : w6.cell? ⟨v7.heap.size, 2, none⟩ = some (.int .i64 safe) := bx_cell hx6 2 _ rfl
          have g62 := bx_frozen hx6 2
          have a70 : W7.cell? ⟨v7.heap.size, 0, none⟩ = some (.int .i64 key) := bx_cell h7 0 _ rfl
          have g70 := bx_frozen h7 0
          have a71 : W7.cell? ⟨v7.heap.size, 1, none⟩ = some (.slice o6 (l.length + 1) c6) := bx_cell h7 1 _ rfl
          have g71 := bx_frozen h7 1
          have a72 : W7.cell? ⟨v7.heap.size, 2, none⟩ = some (.int .i64 safe) := bx_cell h7 2 _ rfl
          have g72 := bx_frozen h7 2
          have a80 : W8.cell? ⟨v7.heap.size, 0, none⟩ = some (.int .i64 key) := bx_cell h8 0 _ rfl
          have a81 : W8.cell? ⟨v7.heap.size, 1, none⟩ = some (.slice o6 (l.length + 1) c6) := bx_cell h8 1 _ rfl
          have a82 : W8.cell? ⟨v7.heap.size, 2, none⟩ = some (.int .i64 ((l.length : Int) + 1)) := bx_cell h8 2 _ rfl
          have hneB : w.heap.size + 1 + 1 ≠ v7.heap.size := by omega
          have q80 : W8.cell? ⟨w.heap.size + 1 + 1, 0, none⟩ = some (.int .i64 0) := by rw [← hW8, ← hW7]; exact (cell_far hneB).trans ((cell_far hneB).trans r0)
          have p80 : W8.frozen? ⟨w.heap.size + 1 + 1, 0, none⟩ = false := by rw [← hW8, ← hW7]; exact (frozen_far hneB).trans ((frozen_far hneB).trans fr0)
          have q81 : W8.cell? ⟨w.heap.size + 1 + 1, 1, none⟩ = some (.slice none 0 0) := by rw [← hW8, ← hW7]; exact (cell_far hneB).trans ((cell_far hneB).trans r1)
          have p81 : W8.frozen? ⟨w.heap.size + 1 + 1, 1, none⟩ = false := by rw [← hW8, ← hW7]; exact (frozen_far hneB).trans ((frozen_far hneB).trans fr1)
          have q82 : W8.cell? ⟨w.heap.size + 1 + 1, 2, none⟩ = some (.int .i64 0) := by rw [← hW8, ← hW7]; exact (cell_far hneB).trans ((cell_far hneB).trans r2)
          have p82 : W8.frozen? ⟨w.heap.size + 1 + 1, 2, none⟩ = false := by rw [← hW8, ← hW7]; exact (frozen_far hneB).trans ((frozen_far hneB).trans fr2)
          have HO8 : Hid (ownC W8 wc.heap.size (.slice o6 (l.length + 1) c6) (l ++ [(k, i, g)])) := by rw [← hW8, ← hW7]; exact own_putJ (own_putJ HO6.out hx6 1 _) (box_put hx6 1 _) 2 _
          have HB8 : Hid (Below w.heap.size w W8) := by rw [← hW8, ← hW7]; exact (HB6.out.setCell (p := ⟨v7.heap.size, 1, none⟩) (show w.heap.size ≤ v7.heap.size by omega) _).setCell (p := ⟨v7.heap.size, 2, none⟩) (show w.heap.size ≤ v7.heap.size by omega) _
          clear r0 fr0 r1 fr1 r2 fr2
          go_wp2
          refine bodyPost_ret (v := .tuple #[jrn key (.slice o6 (l.length + 1) c6) ((l.length : Int) + 1), .bool true]) (by simp [results, Try.results57, go_sem, q80, q81, q82]) rfl ⟨jrn key (.slice o6 (l.length + 1) c6) ((l.length : Int) + 1), by rw [HNF.out, HNDl.out]; simp, ?_, setP_below HB8.out (by omega) _ _ _⟩
          rw [HNM.out, if_pos (by simp), if_pos HNDl.out]
          exact ⟨_, rfl, InRow.of (own_mono (own_low (own_low (own_low HO8.out hrb 0 _) hrb 1 _) hrb 2 _) (by omega))⟩

end Go.Proofs.Ytflakpmcgopdaaa

