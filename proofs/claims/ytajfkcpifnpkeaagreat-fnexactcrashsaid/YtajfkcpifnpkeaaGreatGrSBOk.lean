/- Several texts in one: SNote, SRepl, SRepl2, SBFrom2, SBOk. -/
import Derived.Test.YtajfkcpifnpkeaaGreatGrSJCut
import Derived.Deep.RegionHeld3
import Derived.Deep.CutRange
import Derived.Test.YtajfkcpifnpkeaaGreatGrInts
import Derived.Test.YtajfkcpifnpkeaaGreatGrShBal
/- Note, on both sides. -/
namespace Go.Proofs.YtajfkcpifnpkeaaGreat
open Go.ChangeShapes Go.WideShapes Go.ChangeAt Go.RowKit Go.Joins
set_option linter.unusedVariables false
set_option linter.unusedSimpArgs false

def noteD (key : Int) (l : List Cd) (k i g : Int) : Bool := (doL (servedOf l l.length) k i g).isSome && !decide (100 ≤ l.length)
def noteB (m : Jm) (k i g : Int) : Bool := journalB m.key m.l m.safe && cmdOkB k i g
/-- What Note tells. -/
def noteM (m : Jm) (k i g : Int) : Jm := if noteB m k i g = true then (if noteD m.key m.l k i g = true then ⟨m.key, m.l ++ [(k, i, g)], (m.l.length : Int) + 1⟩ else m) else jm0
def noteF (m : Jm) (k i g : Int) : Bool := noteB m k i g && noteD m.key m.l k i g
theorem noteM_fit {m : Jm} (k i g : Int) (h : fitJm m) : (noteM m k i g).l.length ≤ 1048576 := by
  unfold noteM
  split
  · split
    · next hb hd =>
      unfold noteB at hb
      simp only [Bool.and_eq_true] at hb
      have := (journal_facts hb.1).2.1
      simp; omega
    · exact h
  · decide
theorem rd_oneC {w : World} {x y z : Int} {T : TypeId} : RdC (w.alloc (.cells #[.int .i64 x, .int .i64 y, .int .i64 z] T)).heap.size (w.alloc (.cells #[.int .i64 x, .int .i64 y, .int .i64 z] T)) (some ⟨w.heap.size, 0, none⟩) [(x, y, z)] :=
  .inr ⟨w.heap.size, 0, rfl, by simp, fun i hi j hj => by
    have e1 : i = 0 := by simpa using hi
    subst e1
    match j, hj with
    | 0, _ => simp [layC]
    | 1, _ => simp [layC]
    | 2, _ => simp [layC]⟩
theorem journal_run {key : Int} {cs : List Cd} {safe : Int} (h : journalB key cs safe = true) : (runTo cs cs.length).isSome = true := by
  unfold journalB at h
  simp only [Bool.and_eq_true] at h
  exact h.2
theorem served_facts {key : Int} {cs : List Cd} {safe : Int} (h : journalB key cs safe = true) : backsOkB (servedOf cs cs.length) = true ∧ (servedOf cs cs.length).length ≤ 100 := by
  obtain ⟨l, hl⟩ := runTo_back (journal_run h) (Nat.le_refl _)
  have h1 := runTo_ok cs.length l (Nat.le_refl _) hl
  have h2 := (journal_facts h).2.1
  unfold servedOf
  rw [hl]
  exact ⟨h1.1, by simp only [Option.getD_some]; omega⟩
theorem l4replay_any (key : Int) (o : Option Addr) (cap : Nat) (cs : List Cd) (w : World) (hR : RdC w.heap.size w o cs) (hk : keyB key = true) (hl : cs.length ≤ 100) (hrun : (runTo cs cs.length).isSome = true) :
    Calls Tryz.prog 50 #[.int .i64 key, .slice o cs.length cap] w fun e w' => ∃ o c oR cR hs, e = .returned (plv key (.slice o (servedOf cs cs.length).length c) (.slice oR hs.length cR)) ∧ ownK w' w.heap.size (.slice o (servedOf cs cs.length).length c) (servedOf cs cs.length) ∧ ownL layH 152 w' w.heap.size (.slice oR hs.length cR) hs ∧ PTabs w' w.heap.size key hs (ringR cs cs.length) ∧ hs.length ≤ 3 ∧ Below w.heap.size w w' := by
  rcases hR with hR | ⟨b, off, rfl, hbl, hcell⟩
  · subst hR
    exact l4replay_go key 0 0 cap [] w (fun h => absurd rfl h) (fun i hi => absurd hi (Nat.not_lt_zero _)) hk hl hrun o (fun h => absurd rfl h)
  · exact l4replay_go key b off cap cs w (fun _ => hbl) hcell hk hl hrun _ (fun _ => rfl)

set_option maxRecDepth 100000 in
set_option maxHeartbeats 4000000 in
theorem cloneJournal_any (key safe : Int) (o : Option Addr) (cap : Nat) (l : List Cd) (w : World) (hR : RdC w.heap.size w o l) (hn : o = none → cap = 0) (hl : l.length ≤ 1048576) :
    Calls Tryz.prog 113 #[jrn key (.slice o l.length cap) safe] w fun e w' => ∃ o2 c2, e = .returned (jrn key (.slice o2 l.length c2) safe) ∧ ownC w' w.heap.size (.slice o2 l.length c2) l ∧ Below w.heap.size w w' := by
  obtain ⟨W0, hW0⟩ : ∃ W, ((w.alloc (.cells #[.int .i64 key, .slice o l.length cap, .int .i64 safe] 38)).alloc (.cells #[.int .i64 0, .slice none 0 0, .int .i64 0] 38)) = W := ⟨_, rfl⟩
  have hb_W0 : Below w.heap.size w W0 := by rw [← hW0]; exact (((Below.refl _ _).alloc (Nat.le_refl _) _).alloc (by simp <;> omega) _)
  have HB := hide hb_W0
  clear hb_W0
  have zz : w.heap.size < W0.heap.size := by rw [← hW0]; simp <;> omega
  have z0 : W0.cell? ⟨w.heap.size, 0, none⟩ = some (.int .i64 key) := by rw [← hW0]; simp [go_sem]
  have z1 : W0.cell? ⟨w.heap.size, 1, none⟩ = some (.slice o l.length cap) := by rw [← hW0]; simp [go_sem]
  have z2 : W0.cell? ⟨w.heap.size, 2, none⟩ = some (.int .i64 safe) := by rw [← hW0]; simp [go_sem]
  have fz0 : W0.frozen? ⟨w.heap.size, 0, none⟩ = false := by rw [← hW0]; simp [go_sem]
  have fz1 : W0.frozen? ⟨w.heap.size, 1, none⟩ = false := by rw [← hW0]; simp [go_sem]
  have fz2 : W0.frozen? ⟨w.heap.size, 2, none⟩ = false := by rw [← hW0]; simp [go_sem]
  have zr : w.heap.size + 1 < W0.heap.size := by rw [← hW0]; simp
  have r0 : W0.cell? ⟨w.heap.size + 1, 0, none⟩ = some (.int .i64 0) := by rw [← hW0]; simp [go_sem]
  have r1 : W0.cell? ⟨w.heap.size + 1, 1, none⟩ = some (.slice none 0 0) := by rw [← hW0]; simp [go_sem]
  have r2 : W0.cell? ⟨w.heap.size + 1, 2, none⟩ = some (.int .i64 0) := by rw [← hW0]; simp [go_sem]
  have fr0 : W0.frozen? ⟨w.heap.size + 1, 0, none⟩ = false := by rw [← hW0]; simp [go_sem]
  have fr1 : W0.frozen? ⟨w.heap.size + 1, 1, none⟩ = false := by rw [← hW0]; simp [go_sem]
  have fr2 : W0.frozen? ⟨w.heap.size + 1, 2, none⟩ = false := by rw [← hW0]; simp [go_sem]
  have hzr := zr
  have HCL := hide (cloneN_any o cap l l.length rfl W0 ((hR.kept HB.out (Nat.le_refl _)).le HB.out.size) hn hl)
  clear hR
  go_enter Tryz.func113, Tryz.ntmps113
  go_wp2_with fail
  refine (HCL.out).mono ?_
  rintro e v1 ⟨o2, c2, rfl, ow2, hb⟩
  have HO := hide ow2
  have hs1 := hb.size
  clear ow2
  replace z0 := bC hb z0 zz
  replace z1 := bC hb z1 zz
  replace z2 := bC hb z2 zz
  replace fz0 := bF hb fz0 zz
  replace fz1 := bF hb fz1 zz
  replace fz2 := bF hb fz2 zz
  replace zz := Nat.lt_of_lt_of_le zz hb.size
  replace r0 := bC hb r0 zr
  replace r1 := bC hb r1 zr
  replace r2 := bC hb r2 zr
  replace fr0 := bF hb fr0 zr
  replace fr1 := bF hb fr1 zr
  replace fr2 := bF hb fr2 zr
  replace zr := Nat.lt_of_lt_of_le zr hb.size
  replace HB := hide (HB.out.trans (hb.mono HB.out.size))
  clear hb
  have hzz : w.heap.size < W0.heap.size := by omega
  go_wp2
  refine bodyPost_ret (v := jrn key (.slice o2 l.length c2) safe) (by simp [results, Tryz.results113, go_sem, r0, r1, r2]) rfl ⟨o2, c2, rfl, own_mono (own_low (own_low (own_low (own_low HO.out hzz 1 _) hzr 0 _) hzr 1 _) hzr 2 _) (by omega), setP_below (HB.out.setCell (p := ⟨w.heap.size, 1, none⟩) (Nat.le_refl _) _) (Nat.le_succ _) _ _ _⟩

set_option maxRecDepth 100000 in
set_option maxHeartbeats 16000000 in
theorem implNote_sh (v : Value) (m : Jm) (k i g : Int) (w : World) (hR : RdJm w.heap.size w v m) (hcp : capJm v) (hf : fitJm m) :
    Calls Tryz.prog 123 #[v, cmd k i g] w fun e w' => ∃ v', e = .returned (.tuple #[v', .bool (noteF m k i g)]) ∧ InJm w.heap.size w'.heap.size w' v' (noteM m k i g) ∧ Below w.heap.size w w' := by
  have hR0 := hR
  obtain ⟨vl, rfl, ⟨o, c, rfl, r⟩⟩ := hR0
  have hcap := hcp.one
  clear hcp
  obtain ⟨key, l, safe⟩ := m
  dsimp only at *
  have HNM := hide (show noteM ⟨key, l, safe⟩ k i g = if (journalB key l safe && cmdOkB k i g) = true then (if noteD key l k i g = true then ⟨key, l ++ [(k, i, g)], (l.length : Int) + 1⟩ else ⟨key, l, safe⟩) else jm0 from rfl)
  have HNF := hide (show noteF ⟨key, l, safe⟩ k i g = ((journalB key l safe && cmdOkB k i g) && noteD key l k i g) from rfl)
  have HND := hide (show noteD key l k i g = ((doL (servedOf l l.length) k i g).isSome && !decide (100 ≤ l.length)) from rfl)
  have HFA := hide (fun h : journalB key l safe = true => And.intro (journal_facts h) (And.intro (journal_run h) (served_facts h)))
  unfold fitJm at hf
  dsimp only at hf
  obtain ⟨W0, hW0⟩ : ∃ W, (((w.alloc (.cells #[.int .i64 key, .slice o l.length c, .int .i64 safe] 38)).alloc (.cells #[.int .i64 k, .int .i64 i, .int .i64 g] 54)).alloc (.cells #[.int .i64 0, .slice none 0 0, .int .i64 0] 38)) = W := ⟨_, rfl⟩
  have hb_W0 : Below w.heap.size w W0 := by rw [← hW0]; exact ((((Below.refl _ _).alloc (Nat.le_refl _) _).alloc (by simp <;> omega) _).alloc (by simp <;> omega) _)
  have HB := hide hb_W0
  clear hb_W0
  have zz : w.heap.size < W0.heap.size := by rw [← hW0]; simp <;> omega
  have z0 : W0.cell? ⟨w.heap.size, 0, none⟩ = some (.int .i64 key) := by rw [← hW0]; simp [go_sem]
  have z1 : W0.cell? ⟨w.heap.size, 1, none⟩ = some (.slice o l.length c) := by rw [← hW0]; simp [go_sem]
  have z2 : W0.cell? ⟨w.heap.size, 2, none⟩ = some (.int .i64 safe) := by rw [← hW0]; simp [go_sem]
  have zu : w.heap.size + 1 < W0.heap.size := by rw [← hW0]; simp <;> omega
  have u0 : W0.cell? ⟨w.heap.size + 1, 0, none⟩ = some (.int .i64 k) := by rw [← hW0]; simp [go_sem]
  have u1 : W0.cell? ⟨w.heap.size + 1, 1, none⟩ = some (.int .i64 i) := by rw [← hW0]; simp [go_sem]
  have u2 : W0.cell? ⟨w.heap.size + 1, 2, none⟩ = some (.int .i64 g) := by rw [← hW0]; simp [go_sem]
  have zr : w.heap.size + 1 + 1 < W0.heap.size := by rw [← hW0]; simp
  have r0 : W0.cell? ⟨w.heap.size + 1 + 1, 0, none⟩ = some (.int .i64 0) := by rw [← hW0]; simp [go_sem]
  have r1 : W0.cell? ⟨w.heap.size + 1 + 1, 1, none⟩ = some (.slice none 0 0) := by rw [← hW0]; simp [go_sem]
  have r2 : W0.cell? ⟨w.heap.size + 1 + 1, 2, none⟩ = some (.int .i64 0) := by rw [← hW0]; simp [go_sem]
  have fr0 : W0.frozen? ⟨w.heap.size + 1 + 1, 0, none⟩ = false := by rw [← hW0]; simp [go_sem]
  have fr1 : W0.frozen? ⟨w.heap.size + 1 + 1, 1, none⟩ = false := by rw [← hW0]; simp [go_sem]
  have fr2 : W0.frozen? ⟨w.heap.size + 1 + 1, 2, none⟩ = false := by rw [← hW0]; simp [go_sem]
  have hzr := zr
  have HTU := hide (turns_any key safe o c l W0 ((r.kept HB.out (Nat.le_refl _)).le HB.out.size) hf)
  have HDE := hide (fun W => deedOf_any k i g W)
  have HRL := hide r
  clear r hR
  cases hj : journalB key l safe with
  | false =>
    rw [hj] at HTU HNM HNF
    clear HFA hj
    generalize cmdOkB k i g = ck at *
    go_enter Tryz.func123, Tryz.ntmps123
    go_wp2_with fail
    refine (HTU.out).mono ?_
    rintro e v1 ⟨v9, rfl, _, hb⟩
    replace z0 := bC hb z0 zz
    replace z1 := bC hb z1 zz
    replace z2 := bC hb z2 zz
    replace zz := Nat.lt_of_lt_of_le zz hb.size
    replace u0 := bC hb u0 zu
    replace u1 := bC hb u1 zu
    replace u2 := bC hb u2 zu
    replace zu := Nat.lt_of_lt_of_le zu hb.size
    replace r0 := bC hb r0 zr
    replace r1 := bC hb r1 zr
    replace r2 := bC hb r2 zr
    replace fr0 := bF hb fr0 zr
    replace fr1 := bF hb fr1 zr
    replace fr2 := bF hb fr2 zr
    replace zr := Nat.lt_of_lt_of_le zr hb.size
    replace HB := hide (HB.out.trans (hb.mono HB.out.size))
    clear hb
    go_wp2_with fail
    refine (HDE.out v1).mono ?_
    rintro e v2 ⟨rfl, hb⟩
    replace z0 := bC hb z0 zz
    replace z1 := bC hb z1 zz
    replace z2 := bC hb z2 zz
    replace zz := Nat.lt_of_lt_of_le zz hb.size
    replace u0 := bC hb u0 zu
    replace u1 := bC hb u1 zu
    replace u2 := bC hb u2 zu
    replace zu := Nat.lt_of_lt_of_le zu hb.size
    replace r0 := bC hb r0 zr
    replace r1 := bC hb r1 zr
    replace r2 := bC hb r2 zr
    replace fr0 := bF hb fr0 zr
    replace fr1 := bF hb fr1 zr
    replace fr2 := bF hb fr2 zr
    replace zr := Nat.lt_of_lt_of_le zr hb.size
    replace HB := hide (HB.out.trans (hb.mono HB.out.size))
    clear hb
    generalize (if ck = true then deedV k i g else .nilIface) = dv
    go_wp2
    refine bodyPost_ret (v := .tuple #[jrn 0 (.slice none 0 0) 0, .bool false]) (by simp [results, Tryz.results123, go_sem, r0, r1, r2]) rfl ⟨jrn 0 (.slice none 0 0) 0, by rw [HNF.out]; simp, ?_, setP_below HB.out (by omega) _ _ _⟩
    rw [HNM.out, if_neg (by simp)]
    exact ⟨_, rfl, World.ownsRow_nil _ _ _ _, fun b e => by cases e⟩
  | true =>
    obtain ⟨⟨hk, hl, h0, h1⟩, hrun, hbo, hsl⟩ := HFA.out hj
    rw [hj] at HTU HNM HNF
    clear HFA hj
    cases hc : cmdOkB k i g with
    | false =>
      rw [hc] at HDE HNM HNF
      simp only [Bool.false_eq_true, if_false] at HDE
      go_enter Tryz.func123, Tryz.ntmps123
      go_wp2_with fail
      refine (HTU.out).mono ?_
      rintro e v1 ⟨v9, rfl, _, hb⟩
      replace z0 := bC hb z0 zz
      replace z1 := bC hb z1 zz
      replace z2 := bC hb z2 zz
      replace zz := Nat.lt_of_lt_of_le zz hb.size
      replace u0 := bC hb u0 zu
      replace u1 := bC hb u1 zu
      replace u2 := bC hb u2 zu
      replace zu := Nat.lt_of_lt_of_le zu hb.size
      replace r0 := bC hb r0 zr
      replace r1 := bC hb r1 zr
      replace r2 := bC hb r2 zr
      replace fr0 := bF hb fr0 zr
      replace fr1 := bF hb fr1 zr
      replace fr2 := bF hb fr2 zr
      replace zr := Nat.lt_of_lt_of_le zr hb.size
      replace HB := hide (HB.out.trans (hb.mono HB.out.size))
      clear hb
      go_wp2_with fail
      refine (HDE.out v1).mono ?_
      rintro e v2 ⟨rfl, hb⟩
      replace z0 := bC hb z0 zz
      replace z1 := bC hb z1 zz
      replace z2 := bC hb z2 zz
      replace zz := Nat.lt_of_lt_of_le zz hb.size
      replace u0 := bC hb u0 zu
      replace u1 := bC hb u1 zu
      replace u2 := bC hb u2 zu
      replace zu := Nat.lt_of_lt_of_le zu hb.size
      replace r0 := bC hb r0 zr
      replace r1 := bC hb r1 zr
      replace r2 := bC hb r2 zr
      replace fr0 := bF hb fr0 zr
      replace fr1 := bF hb fr1 zr
      replace fr2 := bF hb fr2 zr
      replace zr := Nat.lt_of_lt_of_le zr hb.size
      replace HB := hide (HB.out.trans (hb.mono HB.out.size))
      clear hb
      go_wp2
      refine bodyPost_ret (v := .tuple #[jrn 0 (.slice none 0 0) 0, .bool false]) (by simp [results, Tryz.results123, go_sem, r0, r1, r2]) rfl ⟨jrn 0 (.slice none 0 0) 0, by rw [HNF.out]; simp, ?_, setP_below HB.out (by omega) _ _ _⟩
      rw [HNM.out, if_neg (by simp)]
      exact ⟨_, rfl, World.ownsRow_nil _ _ _ _, fun b e => by cases e⟩
    | true =>
      have HBA := hide (fun o c W h1 h2 => backsAfter_any o c (servedOf l l.length) k i g W h1 h2 (by omega) hc)
      rw [hc] at HDE HNM HNF
      simp only [if_true] at HDE
      generalize deedV k i g = dv at *
      obtain ⟨sv, hsv⟩ : ∃ s, servedOf l l.length = s := ⟨_, rfl⟩
      rw [hsv] at HBA HND hbo hsl
      have HSV := hide hsv
      clear hc hsv
      go_enter Tryz.func123, Tryz.ntmps123
      go_wp2_with fail
      refine (HTU.out).mono ?_
      rintro e v1 ⟨v9, rfl, hown9, hb⟩
      obtain ⟨hs, ho9, hs9⟩ := hown9 (by simp)
      have HO9 := hide ho9
      have HS9 := hide hs9
      have hs1 := hb.size
      clear hown9 ho9 hs9
      replace z0 := bC hb z0 zz
      replace z1 := bC hb z1 zz
      replace z2 := bC hb z2 zz
      replace zz := Nat.lt_of_lt_of_le zz hb.size
      replace u0 := bC hb u0 zu
      replace u1 := bC hb u1 zu
      replace u2 := bC hb u2 zu
      replace zu := Nat.lt_of_lt_of_le zu hb.size
      replace r0 := bC hb r0 zr
      replace r1 := bC hb r1 zr
      replace r2 := bC hb r2 zr
      replace fr0 := bF hb fr0 zr
      replace fr1 := bF hb fr1 zr
      replace fr2 := bF hb fr2 zr
      replace zr := Nat.lt_of_lt_of_le zr hb.size
      replace HB := hide (HB.out.trans (hb.mono HB.out.size))
      clear hb
      have HLN := hide HS9.out.len
      obtain ⟨g9, c9, e9⟩ := own_someH HO9.out (by rw [HLN.out]; omega)
      subst e9
      go_wp2_with fail
      refine (HDE.out v1).mono ?_
      rintro e v2 ⟨rfl, hb⟩
      have hs2 := hb.size
      replace z0 := bC hb z0 zz
      replace z1 := bC hb z1 zz
      replace z2 := bC hb z2 zz
      replace zz := Nat.lt_of_lt_of_le zz hb.size
      replace u0 := bC hb u0 zu
      replace u1 := bC hb u1 zu
      replace u2 := bC hb u2 zu
      replace zu := Nat.lt_of_lt_of_le zu hb.size
      replace r0 := bC hb r0 zr
      replace r1 := bC hb r1 zr
      replace r2 := bC hb r2 zr
      replace fr0 := bF hb fr0 zr
      replace fr1 := bF hb fr1 zr
      replace fr2 := bF hb fr2 zr
      replace zr := Nat.lt_of_lt_of_le zr hb.size
      replace HS9 := hide (HS9.out.kept hb)
      replace HO9 := hide (own_kept HO9.out hb)
      replace HB := hide (HB.out.trans (hb.mono HB.out.size))
      clear hb
      have HCJ := hide (cloneJournal_any key safe o c l v2 ((HRL.out.kept HB.out (Nat.le_refl _)).le HB.out.size) hcap hf)
      go_wp2_with fail
      refine (HCJ.out).mono ?_
      rintro e v3 ⟨o2, c2, rfl, ow2, hb⟩
      have HOX := hide ow2
      have hs3 := hb.size
      clear ow2
      replace z0 := bC hb z0 zz
      replace z1 := bC hb z1 zz
      replace z2 := bC hb z2 zz
      replace zz := Nat.lt_of_lt_of_le zz hb.size
      replace u0 := bC hb u0 zu
      replace u1 := bC hb u1 zu
      replace u2 := bC hb u2 zu
      replace zu := Nat.lt_of_lt_of_le zu hb.size
      replace r0 := bC hb r0 zr
      replace r1 := bC hb r1 zr
      replace r2 := bC hb r2 zr
      replace fr0 := bF hb fr0 zr
      replace fr1 := bF hb fr1 zr
      replace fr2 := bF hb fr2 zr
      replace zr := Nat.lt_of_lt_of_le zr hb.size
      replace HS9 := hide (HS9.out.kept hb)
      replace HO9 := hide (own_kept HO9.out hb)
      replace HB := hide (HB.out.trans (hb.mono HB.out.size))
      clear hb
      have HLTX := hide (fun b (e : (Value.slice o2 l.length c2).ownBlock = some b) => (HOX.out.lt b e).2)
      obtain ⟨W4, hW4⟩ : ∃ W, (v3.alloc (.cells #[.int .i64 key, .slice o2 l.length c2, .int .i64 safe] 38)) = W := ⟨_, rfl⟩
      have hb_W4 : Below v3.heap.size v3 W4 := by rw [← hW4]; exact ((Below.refl _ _).alloc (Nat.le_refl _) _)
      replace z0 := bC hb_W4 z0 zz
      replace z1 := bC hb_W4 z1 zz
      replace z2 := bC hb_W4 z2 zz
      replace zz := Nat.lt_of_lt_of_le zz hb_W4.size
      replace u0 := bC hb_W4 u0 zu
      replace u1 := bC hb_W4 u1 zu
      replace u2 := bC hb_W4 u2 zu
      replace zu := Nat.lt_of_lt_of_le zu hb_W4.size
      replace r0 := bC hb_W4 r0 zr
      replace r1 := bC hb_W4 r1 zr
      replace r2 := bC hb_W4 r2 zr
      replace fr0 := bF hb_W4 fr0 zr
      replace fr1 := bF hb_W4 fr1 zr
      replace fr2 := bF hb_W4 fr2 zr
      replace zr := Nat.lt_of_lt_of_le zr hb_W4.size
      replace HS9 := hide (HS9.out.kept hb_W4)
      replace HO9 := hide (own_kept HO9.out hb_W4)
      replace HOX := hide (own_kept HOX.out hb_W4)
      replace HB := hide (HB.out.trans (hb_W4.mono HB.out.size))
      clear hb_W4
      have zx : v3.heap.size < W4.heap.size := by rw [← hW4]; simp
      have x0 : W4.cell? ⟨v3.heap.size, 0, none⟩ = some (.int .i64 key) := by rw [← hW4]; simp [go_sem]
      have x1 : W4.cell? ⟨v3.heap.size, 1, none⟩ = some (.slice o2 l.length c2) := by rw [← hW4]; simp [go_sem]
      have x2 : W4.cell? ⟨v3.heap.size, 2, none⟩ = some (.int .i64 safe) := by rw [← hW4]; simp [go_sem]
      have hx4 : W4.heap[v3.heap.size]? = some (.cells #[.int .i64 key, .slice o2 l.length c2, .int .i64 safe] 38 (0, 0)) := by rw [← hW4]; exact World.alloc_heap_new v3 _
      have hs4 : v3.heap.size < W4.heap.size := zx
      obtain ⟨o', c', e', hr'⟩ := ownL.open (L := layK) (HS9.out.row l.length (by omega))
      have hown := HS9.out.row l.length (by omega)
      rw [HSV.out] at e' hr' hown
      rw [e'] at hown
      have hcl := head_cell HO9.out l.length (by rw [HLN.out]; omega)
      rw [e'] at hcl
      have hnk : (l.length : Int) < (hs.length : Int) := by have := HLN.out; omega
      have HA2 := hide (HBA.out o' c' W4 hr' (own_capK hown))
      clear hr' hown e' HBA
      cases hdo : doL sv k i g with
      | none =>
        rw [hdo] at HA2 HND
        simp only [Option.isSome_none] at HA2
        have HNDl := hide (show noteD key l k i g = false by rw [HND.out]; rfl)
        clear hdo
        go_wp2_with fail
        refine (HA2.out).mono ?_
        rintro e v4 ⟨v5, rfl, _, hb⟩
        have hs5 := hb.size
        replace z0 := bC hb z0 zz
        replace z1 := bC hb z1 zz
        replace z2 := bC hb z2 zz
        replace zz := Nat.lt_of_lt_of_le zz hb.size
        replace u0 := bC hb u0 zu
        replace u1 := bC hb u1 zu
        replace u2 := bC hb u2 zu
        replace zu := Nat.lt_of_lt_of_le zu hb.size
        replace r0 := bC hb r0 zr
        replace r1 := bC hb r1 zr
        replace r2 := bC hb r2 zr
        replace fr0 := bF hb fr0 zr
        replace fr1 := bF hb fr1 zr
        replace fr2 := bF hb fr2 zr
        replace zr := Nat.lt_of_lt_of_le zr hb.size
        replace x0 := bC hb x0 zx
        replace x1 := bC hb x1 zx
        replace x2 := bC hb x2 zx
        replace zx := Nat.lt_of_lt_of_le zx hb.size
        replace HS9 := hide (HS9.out.kept hb)
        replace HO9 := hide (own_kept HO9.out hb)
        replace HOX := hide (own_kept HOX.out hb)
        replace HB := hide (HB.out.trans (hb.mono HB.out.size))
        clear hb
        have hrb : w.heap.size + 1 + 1 < v2.heap.size := by omega
        go_wp2
        refine bodyPost_ret (v := .tuple #[jrn key (.slice o2 l.length c2) safe, .bool false]) (by simp [results, Tryz.results123, go_sem, r0, r1, r2]) rfl ⟨jrn key (.slice o2 l.length c2) safe, by rw [HNF.out, HNDl.out]; simp, ?_, setP_below HB.out (by omega) _ _ _⟩
        rw [HNM.out, if_pos (by simp), if_neg (by rw [HNDl.out]; simp)]
        exact ⟨_, rfl, InRow.of (own_mono (own_low (own_low (own_low HOX.out hrb 0 _) hrb 1 _) hrb 2 _) (by omega))⟩
      | some mm =>
        rw [hdo] at HA2 HND
        simp only [Option.isSome_some] at HA2
        clear hdo
        by_cases h100 : l.length = 100
        · have HNDl := hide (show noteD key l k i g = false by rw [HND.out, h100]; rfl)
          have h100' : (l.length : Int) = 100 := by omega
          have h100d : ((l.length : Int) == 100) = true := beq_iff_eq.2 h100'
          clear h100 h100'
          go_wp2_with fail
          refine (HA2.out).mono ?_
          rintro e v4 ⟨v5, rfl, _, hb⟩
          have hs5 := hb.size
          replace z0 := bC hb z0 zz
          replace z1 := bC hb z1 zz
          replace z2 := bC hb z2 zz
          replace zz := Nat.lt_of_lt_of_le zz hb.size
          replace u0 := bC hb u0 zu
          replace u1 := bC hb u1 zu
          replace u2 := bC hb u2 zu
          replace zu := Nat.lt_of_lt_of_le zu hb.size
          replace r0 := bC hb r0 zr
          replace r1 := bC hb r1 zr
          replace r2 := bC hb r2 zr
          replace fr0 := bF hb fr0 zr
          replace fr1 := bF hb fr1 zr
          replace fr2 := bF hb fr2 zr
          replace zr := Nat.lt_of_lt_of_le zr hb.size
          replace x0 := bC hb x0 zx
          replace x1 := bC hb x1 zx
          replace x2 := bC hb x2 zx
          replace zx := Nat.lt_of_lt_of_le zx hb.size
          replace HS9 := hide (HS9.out.kept hb)
          replace HO9 := hide (own_kept HO9.out hb)
          replace HOX := hide (own_kept HOX.out hb)
          replace HB := hide (HB.out.trans (hb.mono HB.out.size))
          clear hb
          have hrb : w.heap.size + 1 + 1 < v2.heap.size := by omega
          go_wp2
          refine bodyPost_ret (v := .tuple #[jrn key (.slice o2 l.length c2) safe, .bool false]) (by simp [results, Tryz.results123, go_sem, r0, r1, r2]) rfl ⟨jrn key (.slice o2 l.length c2) safe, by rw [HNF.out, HNDl.out]; simp, ?_, setP_below HB.out (by omega) _ _ _⟩
          rw [HNM.out, if_pos (by simp), if_neg (by rw [HNDl.out]; simp)]
          exact ⟨_, rfl, InRow.of (own_mono (own_low (own_low (own_low HOX.out hrb 0 _) hrb 1 _) hrb 2 _) (by omega))⟩
        · have HNDl := hide (show noteD key l k i g = true by rw [HND.out, decide_eq_false (by omega)]; rfl)
          have h100d : ((l.length : Int) == 100) = false := beq_eq_false_iff_ne.2 (by omega)
          go_wp2_with fail
          refine (HA2.out).mono ?_
          rintro e v4 ⟨v5, rfl, _, hb⟩
          have hs5 := hb.size
          have hx5 := (hb.block _ (show _ < W4.heap.size from hs4)).trans hx4
          replace z0 := bC hb z0 zz
          replace z1 := bC hb z1 zz
          replace z2 := bC hb z2 zz
          replace zz := Nat.lt_of_lt_of_le zz hb.size
          replace u0 := bC hb u0 zu
          replace u1 := bC hb u1 zu
          replace u2 := bC hb u2 zu
          replace zu := Nat.lt_of_lt_of_le zu hb.size
          replace r0 := bC hb r0 zr
          replace r1 := bC hb r1 zr
          replace r2 := bC hb r2 zr
          replace fr0 := bF hb fr0 zr
          replace fr1 := bF hb fr1 zr
          replace fr2 := bF hb fr2 zr
          replace zr := Nat.lt_of_lt_of_le zr hb.size
          replace x0 := bC hb x0 zx
          replace x1 := bC hb x1 zx
          replace x2 := bC hb x2 zx
          replace zx := Nat.lt_of_lt_of_le zx hb.size
          replace HS9 := hide (HS9.out.kept hb)
          replace HO9 := hide (own_kept HO9.out hb)
          replace HOX := hide (own_kept HOX.out hb)
          replace HB := hide (HB.out.trans (hb.mono HB.out.size))
          clear hb
          have hrb : w.heap.size + 1 + 1 < v2.heap.size := by omega
          have hxb := hx5
          go_wp2_with (at_builtin; refine wpList_append_lay appC0 rfl (.tmp 53) (.tmp 55) rfl v2.heap.size _ l rfl (World.ownsRow.alloc HOX.out (.cells #[.int .i64 k, .int .i64 i, .int .i64 g] 54)) (some ⟨v4.heap.size, 0, none⟩) 1 (v4.alloc (.cells #[.int .i64 k, .int .i64 i, .int .i64 g] 54)).heap.size [(k, i, g)] 1 rfl rfl (fun h => by cases h) rd_oneC (by simp; omega) (by simp; omega) ?_)
          intro v6 w6 ho6 hg6 _
          obtain ⟨o6, c6, e6, _⟩ := ownL.open (L := layC) ho6
          rw [show (l ++ [(k, i, g)]).length = l.length + 1 by simp] at e6
          subst e6
          have hb6 : Below v2.heap.size v4 w6 := ((Below.refl v4.heap.size v4).alloc (Nat.le_refl _) (.cells #[.int .i64 k, .int .i64 i, .int .i64 g] 54)).mono (by omega) |>.grown hg6 (by simp; omega) (fun k h => (HOX.out.lt k h).1)
          have hx6 : w6.heap[v3.heap.size]? = some (.cells #[.int .i64 key, .slice o2 l.length c2, .int .i64 safe] 38 (0, 0)) := (hg6.block _ (by have := (Array.getElem?_eq_some_iff.1 hxb).1; simp; omega) (fun e => by have := HLTX.out _ e.symm; omega)).trans ((Below.heap_alloc _ _ _ (Array.getElem?_eq_some_iff.1 hxb).1).trans hxb)
          have HO6 : Hid (ownC w6 v2.heap.size (.slice o6 (l.length + 1) c6) (l ++ [(k, i, g)])) := ho6
          clear ho6 hg6
          replace r0 := bC hb6 r0 (show _ < _ by omega)
          replace fr0 := bF hb6 fr0 (show _ < _ by omega)
          replace r1 := bC hb6 r1 (show _ < _ by omega)
          replace fr1 := bF hb6 fr1 (show _ < _ by omega)
          replace r2 := bC hb6 r2 (show _ < _ by omega)
          replace fr2 := bF hb6 fr2 (show _ < _ by omega)
          have HB6 := hide (HB.out.trans (hb6.mono (by omega)))
          clear hb6 HB
          obtain ⟨W7, hW7⟩ : ∃ W, w6.setCell ⟨v3.heap.size, 1, none⟩ (.slice o6 (l.length + 1) c6) = W := ⟨_, rfl⟩
          have h7 : W7.heap[v3.heap.size]? = some (.cells #[.int .i64 key, .slice o6 (l.length + 1) c6, .int .i64 safe] 38 (0, 0)) := by rw [← hW7]; exact box_put hx6 1 _
          obtain ⟨W8, hW8⟩ : ∃ W, W7.setCell ⟨v3.heap.size, 2, none⟩ (.int .i64 ((l.length : Int) + 1)) = W := ⟨_, rfl⟩
          have h8 : W8.heap[v3.heap.size]? = some (.cells #[.int .i64 key, .slice o6 (l.length + 1) c6, .int .i64 ((l.length : Int) + 1)] 38 (0, 0)) := by rw [← hW8]; exact box_put h7 2 _
          have a60 : w6.cell? ⟨v3.heap.size, 0, none⟩ = some (.int .i64 key) := bx_cell hx6 0 _ rfl
          have g60 := bx_frozen hx6 0
          have a61 : w6.cell? ⟨v3.heap.size, 1, none⟩ = some (.slice o2 l.length c2) := bx_cell hx6 1 _ rfl
          have g61 := bx_frozen hx6 1
          have a62 : w6.cell? ⟨v3.heap.size, 2, none⟩ = some (.int .i64 safe) := bx_cell hx6 2 _ rfl
          have g62 := bx_frozen hx6 2
          have a70 : W7.cell? ⟨v3.heap.size, 0, none⟩ = some (.int .i64 key) := bx_cell h7 0 _ rfl
          have g70 := bx_frozen h7 0
          have a71 : W7.cell? ⟨v3.heap.size, 1, none⟩ = some (.slice o6 (l.length + 1) c6) := bx_cell h7 1 _ rfl
          have g71 := bx_frozen h7 1
          have a72 : W7.cell? ⟨v3.heap.size, 2, none⟩ = some (.int .i64 safe) := bx_cell h7 2 _ rfl
          have g72 := bx_frozen h7 2
          have a80 : W8.cell? ⟨v3.heap.size, 0, none⟩ = some (.int .i64 key) := bx_cell h8 0 _ rfl
          have a81 : W8.cell? ⟨v3.heap.size, 1, none⟩ = some (.slice o6 (l.length + 1) c6) := bx_cell h8 1 _ rfl
          have a82 : W8.cell? ⟨v3.heap.size, 2, none⟩ = some (.int .i64 ((l.length : Int) + 1)) := bx_cell h8 2 _ rfl
          have hneB : w.heap.size + 1 + 1 ≠ v3.heap.size := by omega
          have q80 : W8.cell? ⟨w.heap.size + 1 + 1, 0, none⟩ = some (.int .i64 0) := by rw [← hW8, ← hW7]; exact (cell_far hneB).trans ((cell_far hneB).trans r0)
          have p80 : W8.frozen? ⟨w.heap.size + 1 + 1, 0, none⟩ = false := by rw [← hW8, ← hW7]; exact (frozen_far hneB).trans ((frozen_far hneB).trans fr0)
          have q81 : W8.cell? ⟨w.heap.size + 1 + 1, 1, none⟩ = some (.slice none 0 0) := by rw [← hW8, ← hW7]; exact (cell_far hneB).trans ((cell_far hneB).trans r1)
          have p81 : W8.frozen? ⟨w.heap.size + 1 + 1, 1, none⟩ = false := by rw [← hW8, ← hW7]; exact (frozen_far hneB).trans ((frozen_far hneB).trans fr1)
          have q82 : W8.cell? ⟨w.heap.size + 1 + 1, 2, none⟩ = some (.int .i64 0) := by rw [← hW8, ← hW7]; exact (cell_far hneB).trans ((cell_far hneB).trans r2)
          have p82 : W8.frozen? ⟨w.heap.size + 1 + 1, 2, none⟩ = false := by rw [← hW8, ← hW7]; exact (frozen_far hneB).trans ((frozen_far hneB).trans fr2)
          have HO8 : Hid (ownC W8 v2.heap.size (.slice o6 (l.length + 1) c6) (l ++ [(k, i, g)])) := by rw [← hW8, ← hW7]; exact own_putJ (own_putJ HO6.out hx6 1 _) (box_put hx6 1 _) 2 _
          have HB8 : Hid (Below w.heap.size w W8) := by rw [← hW8, ← hW7]; exact (HB6.out.setCell (p := ⟨v3.heap.size, 1, none⟩) (show w.heap.size ≤ v3.heap.size by omega) _).setCell (p := ⟨v3.heap.size, 2, none⟩) (show w.heap.size ≤ v3.heap.size by omega) _
          clear r0 fr0 r1 fr1 r2 fr2
          go_wp2
          refine bodyPost_ret (v := .tuple #[jrn key (.slice o6 (l.length + 1) c6) ((l.length : Int) + 1), .bool true]) (by simp [results, Tryz.results123, go_sem, q80, q81, q82]) rfl ⟨jrn key (.slice o6 (l.length + 1) c6) ((l.length : Int) + 1), by rw [HNF.out, HNDl.out]; simp, ?_, setP_below HB8.out (by omega) _ _ _⟩
          rw [HNM.out, if_pos (by simp), if_pos HNDl.out]
          exact ⟨_, rfl, InRow.of (own_mono (own_low (own_low (own_low HO8.out hrb 0 _) hrb 1 _) hrb 2 _) (by omega))⟩

end Go.Proofs.YtajfkcpifnpkeaaGreat

/- Replay, on both sides. -/
namespace Go.Proofs.YtajfkcpifnpkeaaGreat
open Go.ChangeShapes Go.WideShapes Go.ChangeAt Go.RowKit Go.Joins
set_option linter.unusedVariables false
set_option linter.unusedSimpArgs false

def replayM (m : Jm) : Pm := if journalB m.key m.l m.safe = true then ⟨m.key, servedOf m.l m.l.length, ringT m.key (ringR m.l m.l.length)⟩ else pm0
theorem ringR_len (cs : List Cd) : ∀ n, (ringR cs n).length ≤ 3
  | 0 => by simp [ringR]
  | n + 1 => by rw [ringR, List.length_take]; omega
theorem replay_fit (m : Jm) : fitPm (replayM m) := by
  unfold replayM
  split
  · next h => exact ringT_fit m.key _ _ (by have := (served_facts h).2; omega) (ringR_len _ _)
  · exact ⟨by simp [pm0], by simp [pm0], by simp [pm0, szR, sumN], fun i hi => absurd hi (Nat.not_lt_zero _), fun i hi => absurd hi (Nat.not_lt_zero _)⟩
theorem ptabs_g {w : World} {base : Nat} {key : Int} {hs : List Hd} {R : List (List Bk)} (h : PTabs w base key hs R) : GTabs w base hs (ringT key R) := by
  refine ⟨by rw [h.1]; simp [ringT], fun i hi => ?_⟩
  have hi' : i < R.length := by simpa [ringT] using hi
  obtain ⟨o3, c3, hs8, e, h1, h2⟩ := h.2 i hi'
  rw [ringT_get _ _ _ hi']
  exact ⟨o3, c3, hs8, by rw [newT_len]; exact e, by rw [newT_len]; exact h1, tab_new h2⟩
/-- Those who served from the a-th time on, the latest first. -/
def lastS (cs : List Cd) (a : Nat) : Nat → List (List Bk)
  | 0 => []
  | j + 1 => servedOf cs (a + j) :: lastS cs a j
theorem lastS_len (cs : List Cd) (a : Nat) : ∀ j, (lastS cs a j).length = j
  | 0 => rfl
  | j + 1 => by simp [lastS, lastS_len cs a j]
theorem lastS_step (cs : List Cd) (a j : Nat) (key : Int) (hj : j ≤ 2) : newF key (servedOf cs (a + j)) :: ((lastS cs a j).map (newF key)).take 2 = (lastS cs a (j + 1)).map (newF key) := by
  rw [List.take_of_length_le (by rw [List.length_map, lastS_len]; exact hj)]
  rfl
theorem served_zero (cs : List Cd) : servedOf cs 0 = [] := rfl
theorem ringR_three (cs : List Cd) : ∀ n, ringR cs (n + 2) = [servedOf cs (n + 2), servedOf cs (n + 1), servedOf cs n]
  | 0 => rfl
  | n + 1 => by rw [ringR, ringR_three cs n]; rfl
theorem ringR_last (cs : List Cd) (n : Nat) : ringR cs n = lastS cs (n + 1 - 3) (n + 1 - (n + 1 - 3)) := by
  match n with
  | 0 => rfl
  | 1 => rfl
  | n + 2 =>
    rw [ringR_three, show n + 2 + 1 - 3 = n by omega, show n + 2 + 1 - n = 3 by omega]
    simp [lastS]
theorem lastS_ok {cs : List Cd} {a : Nat} (h : ∀ q, q < cs.length + 1 → backsOkB (servedOf cs q) = true) : ∀ j, a + j ≤ cs.length + 1 → ∀ l ∈ lastS cs a j, backsOkB l = true
  | 0, _ => fun l hl => by simp [lastS] at hl
  | j + 1, hj => fun l hl => by
    rcases List.mem_cons.1 hl with rfl | hl
    · exact h _ (by omega)
    · exact lastS_ok h j (by omega) l hl
theorem last_tabs {key : Int} {L : List (List Bk)} (h : ∀ l ∈ L, backsOkB l = true) : (L.map (newF key)).map ptLL = ringT key L := by
  rw [List.map_map]
  exact List.map_congr_left (fun l hl => ptLL_new key (h l hl))
theorem served_each {key safe : Int} {cs : List Cd} (h : journalB key cs safe = true) : ∀ q, q < cs.length + 1 → backsOkB (servedOf cs q) = true ∧ (servedOf cs q).length ≤ 100 := fun q hq => by
  obtain ⟨l, hl⟩ := runTo_back (journal_run h) (show q ≤ cs.length by omega)
  have h1 := runTo_ok q l (by omega) hl
  have h2 := (journal_facts h).2.1
  unfold servedOf
  rw [hl]
  exact ⟨h1.1, by simp only [Option.getD_some]; omega⟩

end Go.Proofs.YtajfkcpifnpkeaaGreat

/- The program's Replay. -/
namespace Go.Proofs.YtajfkcpifnpkeaaGreat
open Go.ChangeShapes Go.WideShapes Go.ChangeAt Go.RowKit Go.Joins
set_option linter.unusedVariables false
set_option linter.unusedSimpArgs false

theorem hv_slice (hs : List Hd) (i : Nat) : ∃ o n c, hv hs i = .slice o n c := ⟨_, _, _, rfl⟩
/-- The backs of the pool that is turned: none at first. -/
def bvS (hs : List Hd) (a : Nat) : Nat → Value
  | 0 => .slice none 0 0
  | j + 1 => hv hs (a + j)
theorem bvS_last (hs : List Hd) (a : Nat) : ∀ (j n : Nat), 1 ≤ j → a + (j - 1) = n → bvS hs a j = hv hs n
  | 0, n, h, _ => absurd h (by omega)
  | j + 1, n, _, h => by
    rw [← h]
    rfl
theorem own_roomT {α : Type} {L : Lay α} {T : TypeId} {w : World} {base : Nat} {o : Option Addr} {n c : Nat} {fs : List α} (h : ownL L T w base (.slice o n c) fs) : fs.length ≤ c ∧ (o = none → c = 0) := by
  rcases h.2 with ⟨e, h0⟩ | ⟨g, cap, cur, e, _, _, h1, _⟩
  · injection e with e1 e2 e3
    exact ⟨by omega, fun _ => e3⟩
  · injection e with e1 e2 e3
    exact ⟨by omega, fun h => by rw [h] at e1; cases e1⟩

set_option maxRecDepth 100000 in
set_option maxHeartbeats 8000000 in
theorem implReplay_sh (v : Value) (m : Jm) (w : World) (hR : RdJm w.heap.size w v m) (hcp : capJm v) (hf : fitJm m) :
    Calls Tryz.prog 110 #[v] w fun e w' => ∃ v', e = .returned (.tuple #[v', .bool (journalB m.key m.l m.safe)]) ∧ InPm w.heap.size w'.heap.size w' v' (replayM m) ∧ Below w.heap.size w w' := by
  have hR0 := hR
  obtain ⟨vl, rfl, ⟨o, c, rfl, r⟩⟩ := hR0
  clear hcp hR
  obtain ⟨key, l, safe⟩ := m
  dsimp only at *
  have HPM := hide (show replayM ⟨key, l, safe⟩ = if journalB key l safe = true then ⟨key, servedOf l l.length, ringT key (ringR l l.length)⟩ else pm0 from rfl)
  have HFA := hide (fun h : journalB key l safe = true => And.intro (journal_facts h) (And.intro (journal_run h) (And.intro (served_each h) (replay_fit ⟨key, l, safe⟩))))
  unfold fitJm at hf
  dsimp only at hf
  obtain ⟨W0, hW0⟩ : ∃ W, ((w.alloc (.cells #[.int .i64 key, .slice o l.length c, .int .i64 safe] 38)).alloc (.cells #[.int .i64 0, .slice none 0 0, .slice none 0 0] 41)) = W := ⟨_, rfl⟩
  have hb_W0 : Below w.heap.size w W0 := by rw [← hW0]; exact (((Below.refl _ _).alloc (Nat.le_refl _) _).alloc (by simp <;> omega) _)
  have HB := hide hb_W0
  clear hb_W0
  have zz : w.heap.size < W0.heap.size := by rw [← hW0]; simp <;> omega
  have z0 : W0.cell? ⟨w.heap.size, 0, none⟩ = some (.int .i64 key) := by rw [← hW0]; simp [go_sem]
  have z1 : W0.cell? ⟨w.heap.size, 1, none⟩ = some (.slice o l.length c) := by rw [← hW0]; simp [go_sem]
  have z2 : W0.cell? ⟨w.heap.size, 2, none⟩ = some (.int .i64 safe) := by rw [← hW0]; simp [go_sem]
  have zr : w.heap.size + 1 < W0.heap.size := by rw [← hW0]; simp
  have r0 : W0.cell? ⟨w.heap.size + 1, 0, none⟩ = some (.int .i64 0) := by rw [← hW0]; simp [go_sem]
  have r1 : W0.cell? ⟨w.heap.size + 1, 1, none⟩ = some (.slice none 0 0) := by rw [← hW0]; simp [go_sem]
  have r2 : W0.cell? ⟨w.heap.size + 1, 2, none⟩ = some (.slice none 0 0) := by rw [← hW0]; simp [go_sem]
  have fr0 : W0.frozen? ⟨w.heap.size + 1, 0, none⟩ = false := by rw [← hW0]; simp [go_sem]
  have fr1 : W0.frozen? ⟨w.heap.size + 1, 1, none⟩ = false := by rw [← hW0]; simp [go_sem]
  have fr2 : W0.frozen? ⟨w.heap.size + 1, 2, none⟩ = false := by rw [← hW0]; simp [go_sem]
  have HR0 := hide (show W0.heap[w.heap.size + 1]? = some (.cells #[.int .i64 0, .slice none 0 0, .slice none 0 0] 41 (0, 0)) by rw [← hW0]; exact box_new2 w _ _ _)
  have hzr := zr
  have HTU := hide (turns_any key safe o c l W0 ((r.kept HB.out (Nat.le_refl _)).le HB.out.size) hf)
  clear r
  cases hj : journalB key l safe with
  | false =>
    rw [hj] at HTU HPM
    clear HFA hj
    go_enter Tryz.func110, Tryz.ntmps110
    go_wp2_with fail
    refine (HTU.out).mono ?_
    rintro e v1 ⟨v9, rfl, _, hb⟩
    replace z0 := bC hb z0 zz
    replace z1 := bC hb z1 zz
    replace z2 := bC hb z2 zz
    replace zz := Nat.lt_of_lt_of_le zz hb.size
    replace r0 := bC hb r0 zr
    replace r1 := bC hb r1 zr
    replace r2 := bC hb r2 zr
    replace fr0 := bF hb fr0 zr
    replace fr1 := bF hb fr1 zr
    replace fr2 := bF hb fr2 zr
    replace zr := Nat.lt_of_lt_of_le zr hb.size
    replace HB := hide (HB.out.trans (hb.mono HB.out.size))
    clear hb
    go_wp2
    refine bodyPost_ret (v := .tuple #[plv 0 (.slice none 0 0) (.slice none 0 0), .bool false]) (by simp [results, Tryz.results110, go_sem, r0, r1, r2]) rfl ⟨_, rfl, ?_, setQ_below HB.out (Nat.le_succ _) _ _ _⟩
    rw [HPM.out, if_neg (by simp)]
    exact pm0_in _ _ _ (setQ_below HB.out (Nat.le_succ _) _ _ _).size
  | true =>
    obtain ⟨⟨hk, hl, h0, h1⟩, hrun, hse, hfi⟩ := HFA.out hj
    have HSE := hide hse
    have HK := hide hk
    rw [hj] at HTU HPM
    clear HFA hj hse hk hfi hrun
    go_enter Tryz.func110, Tryz.ntmps110
    go_wp2_with fail
    refine (HTU.out).mono ?_
    rintro e v1 ⟨v9, rfl, hown9, hb⟩
    obtain ⟨hs, ho9, hs9⟩ := hown9 (by simp)
    have HO9 := hide ho9
    have HS9 := hide hs9
    have hs1 := hb.size
    have HBLK := hide ((hb.block _ hzr).trans HR0.out)
    clear hown9 ho9 hs9
    replace z0 := bC hb z0 zz
    replace z1 := bC hb z1 zz
    replace z2 := bC hb z2 zz
    replace zz := Nat.lt_of_lt_of_le zz hb.size
    replace r0 := bC hb r0 zr
    replace r1 := bC hb r1 zr
    replace r2 := bC hb r2 zr
    replace fr0 := bF hb fr0 zr
    replace fr1 := bF hb fr1 zr
    replace fr2 := bF hb fr2 zr
    replace zr := Nat.lt_of_lt_of_le zr hb.size
    replace HB := hide (HB.out.trans (hb.mono HB.out.size))
    clear hb
    have HLN := hide HS9.out.len
    obtain ⟨g9, c9, e9⟩ := own_someH HO9.out (by rw [HLN.out]; omega)
    subst e9
    have hc9 : hs.length ≤ c9 := (own_roomT HO9.out).1
    have hgl : g9 < v1.heap.size := (HO9.out.lt g9 rfl).2
    have hgb : W0.heap.size ≤ g9 := (HO9.out.lt g9 rfl).1
    obtain ⟨N, hN⟩ : ∃ N, hs.length = N := ⟨_, rfl⟩
    have HN := hide (show N = l.length + 1 by rw [← hN]; exact HLN.out)
    have HNS := hide hN
    rw [hN] at hc9 ⊢
    have hN1 : 1 ≤ N := by have := HN.out; omega
    clear hN
    obtain ⟨a, ha⟩ : ∃ a, N - 3 = a := ⟨_, rfl⟩
    have haN : a < N := by omega
    have haN' : (a : Int) < (N : Int) := by omega
    have hac : ¬ (c9 = a) := by omega
    have hac' : (a : Int) ≤ (c9 : Int) := by omega
    have haN2 : (a : Int) ≤ (N : Int) := by omega
    have hmx : max (0 : Int) ((N : Int) - 3) = (a : Int) := by omega
    have HA := hide ha
    have hN101 : N ≤ 101 := by have := HN.out; omega
    clear ha
    go_wp2
    obtain ⟨W1, hW1⟩ : ∃ W, v1.alloc (.cells #[.int .i64 key, .slice none 0 0, .slice none 0 0] 213) = W := ⟨_, rfl⟩
    rw [hW1]
    have hx1 : W1.heap[v1.heap.size]? = some (.cells #[.int .i64 key, .slice none 0 0, .slice none 0 0] 213 (0, 0)) := by rw [← hW1]; exact World.alloc_heap_new v1 _
    have hb1 : Below v1.heap.size v1 W1 := by rw [← hW1]; exact (Below.refl _ _).alloc (Nat.le_refl _) _
    have HX1 := hide hx1
    have hs2 : v1.heap.size < W1.heap.size := (Array.getElem?_eq_some_iff.1 HX1.out).1
    have HB1 := hide hb1
    clear hx1 hb1 hW1 z0 z1 z2 r0 r1 r2 fr0 fr1 fr2
    obtain ⟨M, hM⟩ : ∃ M, N - a = M := ⟨_, rfl⟩
    rw [hM]
    have HM := hide hM
    have hM3 : M ≤ 3 := by have := HA.out; omega
    have hM1 : 1 ≤ M := by omega
    have haM : a + M = N := by omega
    clear hM hmx
    go_loopw [27] (fun iv wr => ∃ (j : Nat) (oR : Option Addr) (cR : Nat) (ob : Option Addr) (nb cb : Nat), j ≤ M ∧ iv = .int .i64 (j : Int) ∧ Hid (wr.heap[v1.heap.size]? = some (.cells #[.int .i64 key, .slice ob nb cb, .slice oR j cR] 213 (0, 0))) ∧ Hid (bvS hs a j = .slice ob nb cb) ∧ Hid (ownL layT 240 wr W1.heap.size (.slice oR j cR) ((lastS l a j).map (newF key))) ∧ Hid (Stp v1.heap.size (v1.heap.size + 1) W1 wr) ∧ W1.heap.size ≤ wr.heap.size)
      (fun iv _ => M - (intOf iv).toNat)
    case atStart => exact ⟨0, none, 0, none, 0, 0, Nat.zero_le _, rfl, HX1.out, rfl, World.ownsRow_nil _ _ _ _, Stp.refl _, Nat.le_refl _⟩
    case round =>
      obtain ⟨j, oR, cR, ob, nb, cb, hj, rfl, HBX, HBV, HOW, HST, hsr⟩ := hrel
      have HBV1 := hide (HB1.out.trans (HST.out.below (Nat.le_refl _) (Nat.le_of_lt hs2)))
      have p0 : wr.cell? ⟨v1.heap.size, 0, none⟩ = some (.int .i64 key) := bx_cell HBX.out 0 _ rfl
      have p1 : wr.cell? ⟨v1.heap.size, 1, none⟩ = some (.slice ob nb cb) := bx_cell HBX.out 1 _ rfl
      have p2 : wr.cell? ⟨v1.heap.size, 2, none⟩ = some (.slice oR j cR) := bx_cell HBX.out 2 _ rfl
      have hroom := own_roomT HOW.out
      rw [List.length_map, lastS_len] at hroom
      by_cases hlt : j < M
      · skip
        have hlt' : (j : Int) < (M : Int) := by omega
        have haj : a + j < l.length + 1 := by have := HN.out; omega
        have hrow := HS9.out.row (a + j) haj
        obtain ⟨oK, cK, eK, rK⟩ := ownL.open (L := layK) hrow
        have hcap := own_capK (eK ▸ hrow)
        have hcl := bC HBV1.out (head_cell HO9.out (a + j) (by rw [HLN.out]; exact haj)) hgl
        rw [eK] at hcl
        have HEK := hide eK
        have hsv := HSE.out (a + j) haj
        have hw := with_any key ob nb cb oR cR oK cK (servedOf l (a + j)) wr ((lastS l a j).map (newF key)) (by rw [List.length_map, lastS_len]; omega) (ownL.rds (L := layT) HOW.out) (by rw [List.length_map, lastS_len]; exact hroom.1) hroom.2 ((rK.kept HBV1.out (Nat.le_refl _)).le (Nat.le_trans (Nat.le_of_lt hs2) hsr)) (by omega) HK.out hsv.1
        rw [lastS_step l a j key (by omega)] at hw
        simp only [List.length_map, lastS_len] at hw
        have HW := hide hw
        clear hw hsv rK hrow eK
        obtain ⟨nk, hnk⟩ : ∃ n, (servedOf l (a + j)).length = n := ⟨_, rfl⟩
        rw [hnk] at hcl HW HEK
        clear hnk
        go_wp2_with fail
        refine HW.out.mono ?_
        rintro e v2 ⟨o2, c2, rfl, ow2, hb2⟩
        have hsz2 := hb2.size
        have hx2 := (hb2.block _ (show v1.heap.size < wr.heap.size by omega)).trans HBX.out
        have a0 : v2.cell? ⟨v1.heap.size, 0, none⟩ = some (.int .i64 key) := bx_cell hx2 0 _ rfl
        have f0 := bx_frozen hx2 0
        have a1 : v2.cell? ⟨v1.heap.size, 1, none⟩ = some (.slice ob nb cb) := bx_cell hx2 1 _ rfl
        have f1 := bx_frozen hx2 1
        have a2 : v2.cell? ⟨v1.heap.size, 2, none⟩ = some (.slice oR j cR) := bx_cell hx2 2 _ rfl
        have f2 := bx_frozen hx2 2
        have HX9 : Hid ((setP v2 v1.heap.size (.int .i64 key) (.slice oK nk cK) (.slice o2 (j + 1) c2)).heap[v1.heap.size]? = some (.cells #[.int .i64 key, .slice oK nk cK, .slice o2 (j + 1) c2] 213 (0, 0))) := box_put (box_put (box_put hx2 0 _) 1 _) 2 _
        have HO9' := hide (own_low (own_low (own_low (own_mono ow2 hsr) hs2 0 (.int .i64 key)) hs2 1 (.slice oK nk cK)) hs2 2 (.slice o2 (j + 1) c2))
        have HS9' := hide ((HST.out.trans (Stp.of hb2)).trans (stp_setQ v2 v1.heap.size (.int .i64 key) (.slice oK nk cK) (.slice o2 (j + 1) c2)))
        have hs9 : W1.heap.size ≤ v2.heap.size := by omega
        clear ow2 hb2 hx2 p0 p1 p2
        go_wp2
        go_roundw
        case rel => exact ⟨j + 1, o2, c2, oK, nk, cK, by omega, by go_num, HX9.out, HEK.out, HO9'.out, HS9'.out, by simpa using hs9⟩
        case measure => simp [intOf]; omega
      · skip
        have e : j = M := by omega
        subst e
        have hln : a + (j - 1) = l.length := by have := HN.out; omega
        have hrow := HS9.out.row l.length (by omega)
        obtain ⟨oK, cK, eK, rK⟩ := ownL.open (L := layK) hrow
        have hcap := own_capK (eK ▸ hrow)
        have hbv := bvS_last hs a j l.length hM1 hln
        rw [HBV.out, eK] at hbv
        injection hbv with e1 e2 e3
        subst e1 e2 e3
        have hsv := HSE.out l.length (by omega)
        have hp := plain_any key ob cb (servedOf l l.length) oR cR ((lastS l a j).map (newF key)) wr ((rK.kept HBV1.out (Nat.le_refl _)).le (Nat.le_trans (Nat.le_of_lt hs2) hsr)) hcap (by omega) (ownL.rds (L := layT) HOW.out) (by rw [List.length_map, lastS_len]; omega)
        rw [last_tabs (lastS_ok (fun q hq => (HSE.out q hq).1) j (by have := HN.out; omega))] at hp
        simp only [List.length_map, lastS_len] at hp
        have hring : lastS l a j = ringR l l.length := by rw [ringR_last, ← HN.out, HA.out, HM.out]
        rw [hring] at hp
        have HP := hide hp
        clear hp hring hrow eK rK hsv
        obtain ⟨sv, hsv⟩ : ∃ s, servedOf l l.length = s := ⟨_, rfl⟩
        rw [hsv] at HP HPM p1
        obtain ⟨rg, hrg⟩ : ∃ s, ringT key (ringR l l.length) = s := ⟨_, rfl⟩
        rw [hrg] at HP HPM
        clear hsv hrg
        go_wp2_with fail
        refine HP.out.mono ?_
        rintro e v3 ⟨v9, rfl, hin, hb3⟩
        have HIN := hide hin
        have hs4 := hb3.size
        clear hin
        obtain ⟨o9, c9', oR9, cR9, e9⟩ : ∃ (o9 : Option Addr) (c9 : Nat) (oR9 : Option Addr) (cR9 : Nat), v9 = plv key (.slice o9 sv.length c9) (.slice oR9 rg.length cR9) := HIN.out.opn
        subst e9
        have hrb := (hb3.block _ (show w.heap.size + 1 < wr.heap.size by omega)).trans ((HBV1.out.block _ (show w.heap.size + 1 < v1.heap.size by omega)).trans HBLK.out)
        have r0 : v3.cell? ⟨w.heap.size + 1, 0, none⟩ = some (.int .i64 0) := bx_cell hrb 0 _ rfl
        have fr0 := bx_frozen hrb 0
        have r1 : v3.cell? ⟨w.heap.size + 1, 1, none⟩ = some (.slice none 0 0) := bx_cell hrb 1 _ rfl
        have fr1 := bx_frozen hrb 1
        have r2 : v3.cell? ⟨w.heap.size + 1, 2, none⟩ = some (.slice none 0 0) := bx_cell hrb 2 _ rfl
        have fr2 := bx_frozen hrb 2
        have HBF := hide ((HB.out.trans (HBV1.out.mono HB.out.size)).trans (hb3.mono (by omega)))
        clear hb3 hrb
        go_wp2
        refine bodyPost_ret (v := .tuple #[plv key (.slice o9 sv.length c9') (.slice oR9 rg.length cR9), .bool true]) (by simp [results, Tryz.results110, go_sem, r0, r1, r2]) rfl ⟨_, rfl, ?_, setQ_below HBF.out (Nat.le_succ _) _ _ _⟩
        rw [HPM.out, if_pos trivial, setQ_size]
        exact InPm.mono (HIN.out.step (stp_setQ v3 (w.heap.size + 1) _ _ _) (.inl (by omega))) (by omega)

end Go.Proofs.YtajfkcpifnpkeaaGreat

/- A balancer out of a Bal: the program's balFrom, and its BalOk. -/
namespace Go.Proofs.YtajfkcpifnpkeaaGreat
open Go.ChangeShapes Go.WideShapes Go.ChangeAt Go.RowKit Go.Joins
set_option linter.unusedVariables false
set_option linter.unusedSimpArgs false


theorem setB_cell {W : World} {R b j : Nat} {u : Value} (h : W.cell? ⟨b, j, none⟩ = some u) (hb : b ≠ R) (x0 x1 x2 x3 x4 x5 x6 : Value) : (setB W R x0 x1 x2 x3 x4 x5 x6).cell? ⟨b, j, none⟩ = some u := (stp_setB W R x0 x1 x2 x3 x4 x5 x6).cellP h (Nat.lt_or_gt_of_ne hb)
def balB (m : Bm) : Bool := journalB m.j.key m.j.l m.j.safe && (hintB m.t && samePB (replayM m.j) m.p)
abbrev balr (vt : Value) (kj : Int) (vl : Value) (sj kp : Int) (vb vr : Value) : Value := .agg #[vt, .int .i64 kj, vl, .int .i64 sj, .int .i64 kp, vb, vr]
/-- A balancer in memory of its own: the pool below a, the hints from a to b, the journal from b on. -/
def InBl (lo hi : Nat) (w : World) (v : Value) (j : Jm) (p : Pm) (t : List Sl) : Prop := ∃ vt vl vb vr a b, v = balr vt j.key vl j.safe p.key vb vr ∧ lo ≤ a ∧ a ≤ b ∧ b ≤ hi ∧ InPm lo a w (plv p.key vb vr) p ∧ InL layS CellT a b w vt t ∧ InJm b hi w (jrn j.key vl j.safe) j

set_option maxRecDepth 100000 in
set_option maxHeartbeats 8000000 in
theorem balFrom_any (kj : Int) (o : Option Addr) (nj c : Nat) (sj kp : Int) (ob : Option Addr) (np cb : Nat) (oR : Option Addr) (nr cR : Nat) (ot : Option Addr) (nt ct : Nat) (lj : List Cd) (lb : List Bk) (lr : List (List (List Int))) (lt : List Sl) (w : World)
    (hnj : nj = lj.length) (hnt : nt = lt.length) (h1 : RdC w.heap.size w o lj) (h1c : o = none → c = 0) (h2 : RdPm w.heap.size w (plv kp (.slice ob np cb) (.slice oR nr cR)) ⟨kp, lb, lr⟩) (h4 : RdS w.heap.size w ot lt) (hf : fitB0 ⟨⟨kj, lj, sj⟩, ⟨kp, lb, lr⟩, lt⟩) :
    Calls Tryz.prog 54 #[balv kj (.slice o nj c) sj kp (.slice ob np cb) (.slice oR nr cR) (.slice ot nt ct)] w fun e w' => ∃ (xo : Option Addr) (xn xc : Nat) (kq : Int) (yo : Option Addr) (yn yc : Nat) (sq kr : Int) (uo : Option Addr) (un uc : Nat) (vo : Option Addr) (vn vc : Nat), e = .returned (.tuple #[balr (.slice xo xn xc) kq (.slice yo yn yc) sq kr (.slice uo un uc) (.slice vo vn vc), .bool (balB ⟨⟨kj, lj, sj⟩, ⟨kp, lb, lr⟩, lt⟩)]) ∧ (balB ⟨⟨kj, lj, sj⟩, ⟨kp, lb, lr⟩, lt⟩ = true → InBl w.heap.size w'.heap.size w' (balr (.slice xo xn xc) kq (.slice yo yn yc) sq kr (.slice uo un uc) (.slice vo vn vc)) ⟨kj, lj, sj⟩ (replayM ⟨kj, lj, sj⟩) lt) ∧ Below w.heap.size w w' := by
  obtain ⟨f1, f2, f7⟩ := hf
  dsimp only at f1 f2 f7
  have hfj : lj.length ≤ 1048576 := by omega
  have HRP := hide (fun W (hb : Below w.heap.size w W) => implReplay_sh (jrn kj (.slice o nj c) sj) ⟨kj, lj, sj⟩ W ⟨_, rfl, o, c, (by rw [hnj]), (h1.kept hb (Nat.le_refl _)).le hb.size⟩ ⟨_, _, _, rfl, fun n9 c9 e9 => by injection e9 with e1 e2 e3; rw [← e3]; exact h1c e1⟩ hfj)
  have HHF := hide (fun W (hb : Below w.heap.size w W) => hintsFrom_any ot nt ct lt W hnt ((h4.kept hb (Nat.le_refl _)).le hb.size) f7)
  have HCJ := hide (fun W (hb : Below w.heap.size w W) => cloneJournal_any kj sj o c lj W ((h1.kept hb (Nat.le_refl _)).le hb.size) h1c hfj)
  rw [← hnj] at HCJ
  have HSP := hide (fun W (hb : Below w.heap.size w W) v (h : RdPm W.heap.size W v (replayM ⟨kj, lj, sj⟩)) => implSamePool_any v (plv kp (.slice ob np cb) (.slice oR nr cR)) (replayM ⟨kj, lj, sj⟩) ⟨kp, lb, lr⟩ W h ((h2.kept hb (Nat.le_refl _)).le hb.size) (replay_fit _) f2)
  have HBB := hide (show balB ⟨⟨kj, lj, sj⟩, ⟨kp, lb, lr⟩, lt⟩ = (journalB kj lj sj && (hintB lt && samePB (replayM ⟨kj, lj, sj⟩) ⟨kp, lb, lr⟩)) from rfl)
  have HHB := hide (show hintB lt = true → tableOkB lt = true from fun h => by unfold hintB at h; cases ht : tableOkB lt <;> simp_all)
  have HNJ := hide hnj
  have HNT := hide hnt
  clear h1 h2 h4 f2 hnj hnt
  obtain ⟨W0, hW0⟩ : ∃ W, ((w.alloc (.cells #[.int .i64 kj, .slice o nj c, .int .i64 sj, .int .i64 kp, .slice ob np cb, .slice oR nr cR, .slice ot nt ct] 46)).alloc (.cells #[.slice none 0 0, .int .i64 0, .slice none 0 0, .int .i64 0, .int .i64 0, .slice none 0 0, .slice none 0 0] 109)) = W := ⟨_, rfl⟩
  have hb_W0 : Below w.heap.size w W0 := by rw [← hW0]; exact (((Below.refl _ _).alloc (Nat.le_refl _) _).alloc (by simp <;> omega) _)
  have HB := hide hb_W0
  clear hb_W0
  have zz : w.heap.size < W0.heap.size := by rw [← hW0]; simp <;> omega
  have z0 : W0.cell? ⟨w.heap.size, 0, none⟩ = some (.int .i64 kj) := by rw [← hW0]; simp [go_sem]
  have z1 : W0.cell? ⟨w.heap.size, 1, none⟩ = some (.slice o nj c) := by rw [← hW0]; simp [go_sem]
  have z2 : W0.cell? ⟨w.heap.size, 2, none⟩ = some (.int .i64 sj) := by rw [← hW0]; simp [go_sem]
  have z3 : W0.cell? ⟨w.heap.size, 3, none⟩ = some (.int .i64 kp) := by rw [← hW0]; simp [go_sem]
  have z4 : W0.cell? ⟨w.heap.size, 4, none⟩ = some (.slice ob np cb) := by rw [← hW0]; simp [go_sem]
  have z5 : W0.cell? ⟨w.heap.size, 5, none⟩ = some (.slice oR nr cR) := by rw [← hW0]; simp [go_sem]
  have z6 : W0.cell? ⟨w.heap.size, 6, none⟩ = some (.slice ot nt ct) := by rw [← hW0]; simp [go_sem]
  have zr : w.heap.size + 1 < W0.heap.size := by rw [← hW0]; simp
  have r0 : W0.cell? ⟨w.heap.size + 1, 0, none⟩ = some (.slice none 0 0) := by rw [← hW0]; simp [go_sem]
  have r1 : W0.cell? ⟨w.heap.size + 1, 1, none⟩ = some (.int .i64 0) := by rw [← hW0]; simp [go_sem]
  have r2 : W0.cell? ⟨w.heap.size + 1, 2, none⟩ = some (.slice none 0 0) := by rw [← hW0]; simp [go_sem]
  have r3 : W0.cell? ⟨w.heap.size + 1, 3, none⟩ = some (.int .i64 0) := by rw [← hW0]; simp [go_sem]
  have r4 : W0.cell? ⟨w.heap.size + 1, 4, none⟩ = some (.int .i64 0) := by rw [← hW0]; simp [go_sem]
  have r5 : W0.cell? ⟨w.heap.size + 1, 5, none⟩ = some (.slice none 0 0) := by rw [← hW0]; simp [go_sem]
  have r6 : W0.cell? ⟨w.heap.size + 1, 6, none⟩ = some (.slice none 0 0) := by rw [← hW0]; simp [go_sem]
  have fr0 : W0.frozen? ⟨w.heap.size + 1, 0, none⟩ = false := by rw [← hW0]; simp [go_sem]
  have fr1 : W0.frozen? ⟨w.heap.size + 1, 1, none⟩ = false := by rw [← hW0]; simp [go_sem]
  have fr2 : W0.frozen? ⟨w.heap.size + 1, 2, none⟩ = false := by rw [← hW0]; simp [go_sem]
  have fr3 : W0.frozen? ⟨w.heap.size + 1, 3, none⟩ = false := by rw [← hW0]; simp [go_sem]
  have fr4 : W0.frozen? ⟨w.heap.size + 1, 4, none⟩ = false := by rw [← hW0]; simp [go_sem]
  have fr5 : W0.frozen? ⟨w.heap.size + 1, 5, none⟩ = false := by rw [← hW0]; simp [go_sem]
  have fr6 : W0.frozen? ⟨w.heap.size + 1, 6, none⟩ = false := by rw [← hW0]; simp [go_sem]
  have hzr := zr
  have hsw : w.heap.size ≤ W0.heap.size := HB.out.size
  go_enter Tryz.func54, Tryz.ntmps54
  go_wp2_with fail
  refine (HRP.out W0 HB.out).mono ?_
  rintro e v1 ⟨vp, rfl, inp, hb⟩
  have HIP := hide inp
  clear inp
  replace z0 := bC hb z0 zz
  replace z1 := bC hb z1 zz
  replace z2 := bC hb z2 zz
  replace z3 := bC hb z3 zz
  replace z4 := bC hb z4 zz
  replace z5 := bC hb z5 zz
  replace z6 := bC hb z6 zz
  replace zz := Nat.lt_of_lt_of_le zz hb.size
  replace r0 := bC hb r0 zr
  replace r1 := bC hb r1 zr
  replace r2 := bC hb r2 zr
  replace r3 := bC hb r3 zr
  replace r4 := bC hb r4 zr
  replace r5 := bC hb r5 zr
  replace r6 := bC hb r6 zr
  replace fr0 := bF hb fr0 zr
  replace fr1 := bF hb fr1 zr
  replace fr2 := bF hb fr2 zr
  replace fr3 := bF hb fr3 zr
  replace fr4 := bF hb fr4 zr
  replace fr5 := bF hb fr5 zr
  replace fr6 := bF hb fr6 zr
  replace zr := Nat.lt_of_lt_of_le zr hb.size
  replace HB := hide (HB.out.trans (hb.mono HB.out.size))
  clear hb
  dsimp only at HIP ⊢
  obtain ⟨pm, hpm⟩ : ∃ p, replayM ⟨kj, lj, sj⟩ = p := ⟨_, rfl⟩
  rw [hpm] at HIP HSP HBB
  have HPM := hide hpm
  clear hpm HRP
  obtain ⟨po, pc, qo, qc, hve⟩ := HIP.out.opn
  obtain ⟨pk, hpk⟩ : ∃ x, pm.key = x := ⟨_, rfl⟩
  obtain ⟨pn, hpn⟩ : ∃ x, pm.l.length = x := ⟨_, rfl⟩
  obtain ⟨qn, hqn⟩ : ∃ x, pm.ring.length = x := ⟨_, rfl⟩
  rw [hpk, hpn, hqn] at hve
  subst hve
  have HPK := hide hpk
  clear hpk hpn hqn
  have hs1 : W0.heap.size ≤ v1.heap.size := by have := HIP.out; obtain ⟨_, _, mid, _, k1, k2, _⟩ := this; omega
  obtain ⟨W2, hW2⟩ : ∃ W, (v1.alloc (.cells #[.int .i64 pk, .slice po pn pc, .slice qo qn qc] 41)) = W := ⟨_, rfl⟩
  have hb_W2 : Below v1.heap.size v1 W2 := by rw [← hW2]; exact ((Below.refl _ _).alloc (Nat.le_refl _) _)
  replace z0 := bC hb_W2 z0 zz
  replace z1 := bC hb_W2 z1 zz
  replace z2 := bC hb_W2 z2 zz
  replace z3 := bC hb_W2 z3 zz
  replace z4 := bC hb_W2 z4 zz
  replace z5 := bC hb_W2 z5 zz
  replace z6 := bC hb_W2 z6 zz
  replace zz := Nat.lt_of_lt_of_le zz hb_W2.size
  replace r0 := bC hb_W2 r0 zr
  replace r1 := bC hb_W2 r1 zr
  replace r2 := bC hb_W2 r2 zr
  replace r3 := bC hb_W2 r3 zr
  replace r4 := bC hb_W2 r4 zr
  replace r5 := bC hb_W2 r5 zr
  replace r6 := bC hb_W2 r6 zr
  replace fr0 := bF hb_W2 fr0 zr
  replace fr1 := bF hb_W2 fr1 zr
  replace fr2 := bF hb_W2 fr2 zr
  replace fr3 := bF hb_W2 fr3 zr
  replace fr4 := bF hb_W2 fr4 zr
  replace fr5 := bF hb_W2 fr5 zr
  replace fr6 := bF hb_W2 fr6 zr
  replace zr := Nat.lt_of_lt_of_le zr hb_W2.size
  replace HB := hide (HB.out.trans (hb_W2.mono HB.out.size))
  clear hb_W2
  have zp : v1.heap.size < W2.heap.size := by rw [← hW2]; simp
  have p0 : W2.cell? ⟨v1.heap.size, 0, none⟩ = some (.int .i64 pk) := by rw [← hW2]; simp [go_sem]
  have p1 : W2.cell? ⟨v1.heap.size, 1, none⟩ = some (.slice po pn pc) := by rw [← hW2]; simp [go_sem]
  have p2 : W2.cell? ⟨v1.heap.size, 2, none⟩ = some (.slice qo qn qc) := by rw [← hW2]; simp [go_sem]
  replace HIP := hide (HIP.out.step (Stp.of (lo := 0) (hi := 0) (show Below v1.heap.size v1 W2 by rw [← hW2]; exact (Below.refl _ _).alloc (Nat.le_refl _) _)) (.inl (Nat.zero_le _)))
  have hs2 : v1.heap.size ≤ W2.heap.size := by rw [← hW2]; simp
  go_wp2_with fail
  refine (HHF.out W2 HB.out).mono ?_
  rintro e v2 ⟨ho, hn, hc, rfl, hown, hb⟩
  have HOH := hide hown
  clear hown HHF
  replace HIP := hide (HIP.out.step (Stp.of (lo := 0) (hi := 0) hb) (.inl (Nat.zero_le _)))
  have hs3 : W2.heap.size ≤ v2.heap.size := hb.size
  replace z0 := bC hb z0 zz
  replace z1 := bC hb z1 zz
  replace z2 := bC hb z2 zz
  replace z3 := bC hb z3 zz
  replace z4 := bC hb z4 zz
  replace z5 := bC hb z5 zz
  replace z6 := bC hb z6 zz
  replace zz := Nat.lt_of_lt_of_le zz hb.size
  replace r0 := bC hb r0 zr
  replace r1 := bC hb r1 zr
  replace r2 := bC hb r2 zr
  replace r3 := bC hb r3 zr
  replace r4 := bC hb r4 zr
  replace r5 := bC hb r5 zr
  replace r6 := bC hb r6 zr
  replace fr0 := bF hb fr0 zr
  replace fr1 := bF hb fr1 zr
  replace fr2 := bF hb fr2 zr
  replace fr3 := bF hb fr3 zr
  replace fr4 := bF hb fr4 zr
  replace fr5 := bF hb fr5 zr
  replace fr6 := bF hb fr6 zr
  replace zr := Nat.lt_of_lt_of_le zr hb.size
  replace p0 := bC hb p0 zp
  replace p1 := bC hb p1 zp
  replace p2 := bC hb p2 zp
  replace zp := Nat.lt_of_lt_of_le zp hb.size
  replace HB := hide (HB.out.trans (hb.mono HB.out.size))
  clear hb
  obtain ⟨kb, hkb⟩ : ∃ b, journalB kj lj sj = b := ⟨_, rfl⟩
  obtain ⟨tb, htb⟩ : ∃ b, hintB lt = b := ⟨_, rfl⟩
  rw [hkb, htb] at HBB
  rw [htb] at HHB ⊢
  rw [hkb]
  clear hkb htb
  obtain ⟨W4, hW4⟩ : ∃ W, (v2.alloc (.cells #[.slice ho hn hc] 107)) = W := ⟨_, rfl⟩
  have hb_W4 : Below v2.heap.size v2 W4 := by rw [← hW4]; exact ((Below.refl _ _).alloc (Nat.le_refl _) _)
  replace z0 := bC hb_W4 z0 zz
  replace z1 := bC hb_W4 z1 zz
  replace z2 := bC hb_W4 z2 zz
  replace z3 := bC hb_W4 z3 zz
  replace z4 := bC hb_W4 z4 zz
  replace z5 := bC hb_W4 z5 zz
  replace z6 := bC hb_W4 z6 zz
  replace zz := Nat.lt_of_lt_of_le zz hb_W4.size
  replace r0 := bC hb_W4 r0 zr
  replace r1 := bC hb_W4 r1 zr
  replace r2 := bC hb_W4 r2 zr
  replace r3 := bC hb_W4 r3 zr
  replace r4 := bC hb_W4 r4 zr
  replace r5 := bC hb_W4 r5 zr
  replace r6 := bC hb_W4 r6 zr
  replace fr0 := bF hb_W4 fr0 zr
  replace fr1 := bF hb_W4 fr1 zr
  replace fr2 := bF hb_W4 fr2 zr
  replace fr3 := bF hb_W4 fr3 zr
  replace fr4 := bF hb_W4 fr4 zr
  replace fr5 := bF hb_W4 fr5 zr
  replace fr6 := bF hb_W4 fr6 zr
  replace zr := Nat.lt_of_lt_of_le zr hb_W4.size
  replace p0 := bC hb_W4 p0 zp
  replace p1 := bC hb_W4 p1 zp
  replace p2 := bC hb_W4 p2 zp
  replace zp := Nat.lt_of_lt_of_le zp hb_W4.size
  replace HB := hide (HB.out.trans (hb_W4.mono HB.out.size))
  clear hb_W4
  have zt : v2.heap.size < W4.heap.size := by rw [← hW4]; simp
  have t0 : W4.cell? ⟨v2.heap.size, 0, none⟩ = some (.slice ho hn hc) := by rw [← hW4]; simp [go_sem]
  replace HIP := hide (HIP.out.step (Stp.of (lo := 0) (hi := 0) (show Below v2.heap.size v2 W4 by rw [← hW4]; exact (Below.refl _ _).alloc (Nat.le_refl _) _)) (.inl (Nat.zero_le _)))
  have hs4 : v2.heap.size ≤ W4.heap.size := by rw [← hW4]; simp
  have hb24 : Below v2.heap.size v2 W4 := (show Below v2.heap.size v2 W4 by rw [← hW4]; exact (Below.refl _ _).alloc (Nat.le_refl _) _)
  cases kb with
  | false =>
    go_wp2
    refine bodyPost_ret (v := .tuple #[balr (.slice none 0 0) 0 (.slice none 0 0) 0 0 (.slice none 0 0) (.slice none 0 0), .bool false]) (by simp [results, Tryz.results54, go_sem, r0, r1, r2, r3, r4, r5, r6]) rfl ⟨none, 0, 0, 0, none, 0, 0, 0, 0, none, 0, 0, none, 0, 0, by rw [HBB.out]; rfl, fun h9 => (by rw [HBB.out] at h9; cases h9), setB_below HB.out (Nat.le_succ _) _ _ _ _ _ _ _⟩
  | true =>
    cases tb with
    | false =>
      go_wp2
      refine bodyPost_ret (v := .tuple #[balr (.slice none 0 0) 0 (.slice none 0 0) 0 0 (.slice none 0 0) (.slice none 0 0), .bool false]) (by simp [results, Tryz.results54, go_sem, r0, r1, r2, r3, r4, r5, r6]) rfl ⟨none, 0, 0, 0, none, 0, 0, 0, 0, none, 0, 0, none, 0, 0, by rw [HBB.out]; rfl, fun h9 => (by rw [HBB.out] at h9; cases h9), setB_below HB.out (Nat.le_succ _) _ _ _ _ _ _ _⟩
    | true =>
      have HSQ := hide (HSP.out W4 HB.out _ (HIP.out.rd.le (by omega)))
      clear HSP
      obtain ⟨sb, hsb⟩ : ∃ b, samePB pm ⟨kp, lb, lr⟩ = b := ⟨_, rfl⟩
      rw [hsb] at HSQ HBB
      clear hsb
      go_wp2_with fail
      refine (HSQ.out).mono ?_
      rintro e v3 ⟨rfl, hb⟩
      replace HIP := hide (HIP.out.step (Stp.of (lo := 0) (hi := 0) hb) (.inl (Nat.zero_le _)))
      have hs5 : W4.heap.size ≤ v3.heap.size := hb.size
      have hb23 : Below v2.heap.size v2 v3 := hb24.trans (hb.mono hs4)
      replace z0 := bC hb z0 zz
      replace z1 := bC hb z1 zz
      replace z2 := bC hb z2 zz
      replace z3 := bC hb z3 zz
      replace z4 := bC hb z4 zz
      replace z5 := bC hb z5 zz
      replace z6 := bC hb z6 zz
      replace zz := Nat.lt_of_lt_of_le zz hb.size
      replace r0 := bC hb r0 zr
      replace r1 := bC hb r1 zr
      replace r2 := bC hb r2 zr
      replace r3 := bC hb r3 zr
      replace r4 := bC hb r4 zr
      replace r5 := bC hb r5 zr
      replace r6 := bC hb r6 zr
      replace fr0 := bF hb fr0 zr
      replace fr1 := bF hb fr1 zr
      replace fr2 := bF hb fr2 zr
      replace fr3 := bF hb fr3 zr
      replace fr4 := bF hb fr4 zr
      replace fr5 := bF hb fr5 zr
      replace fr6 := bF hb fr6 zr
      replace zr := Nat.lt_of_lt_of_le zr hb.size
      replace p0 := bC hb p0 zp
      replace p1 := bC hb p1 zp
      replace p2 := bC hb p2 zp
      replace zp := Nat.lt_of_lt_of_le zp hb.size
      replace t0 := bC hb t0 zt
      replace zt := Nat.lt_of_lt_of_le zt hb.size
      replace HB := hide (HB.out.trans (hb.mono HB.out.size))
      clear hb
      cases sb with
      | false =>
        go_wp2
        refine bodyPost_ret (v := .tuple #[balr (.slice none 0 0) 0 (.slice none 0 0) 0 0 (.slice none 0 0) (.slice none 0 0), .bool false]) (by simp [results, Tryz.results54, go_sem, r0, r1, r2, r3, r4, r5, r6]) rfl ⟨none, 0, 0, 0, none, 0, 0, 0, 0, none, 0, 0, none, 0, 0, by rw [HBB.out]; rfl, fun h9 => (by rw [HBB.out] at h9; cases h9), setB_below HB.out (Nat.le_succ _) _ _ _ _ _ _ _⟩
      | true =>
        have hne0 : w.heap.size ≠ w.heap.size + 1 := by omega
        have hne1 : v1.heap.size ≠ w.heap.size + 1 := by omega
        have hne2 : v2.heap.size ≠ w.heap.size + 1 := by omega
        go_wp2
        go_region_held3 (fun w' => w'.cell? ⟨v2.heap.size, 0, none⟩ = some (.slice ho hn hc) ∧ w'.cell? ⟨w.heap.size, 0, none⟩ = some (.int .i64 kj) ∧ w'.cell? ⟨w.heap.size, 1, none⟩ = some (.slice o nj c) ∧ w'.cell? ⟨w.heap.size, 2, none⟩ = some (.int .i64 sj) ∧ w'.cell? ⟨v1.heap.size, 0, none⟩ = some (.int .i64 pk) ∧ w'.cell? ⟨v1.heap.size, 1, none⟩ = some (.slice po pn pc) ∧ w'.cell? ⟨v1.heap.size, 2, none⟩ = some (.slice qo qn qc)) (first | with_reducible exact ⟨t0, z0, z1, z2, p0, p1, p2⟩ | with_reducible exact ⟨kt0, kz0, kz1, kz2, kp0, kp1, kp2⟩ | with_reducible exact hks _ _ _ _ _ _ _ | go_keep) (first | (go_at_call 113; (with_reducible refine (HCJ.out v3.drew (Below.drew HB.out)).mono ?_); rintro e v4 ⟨o2, c2, rfl, ow2, hq0⟩; have hx : Below v3.heap.size v3 v4 := (Below.drew (Below.refl _ _)).trans hq0; have kt0 := bC hx t0 zt; have kz0 := bC hx z0 zz; have kz1 := bC hx z1 zz; have kz2 := bC hx z2 zz; have kp0 := bC hx p0 zp; have kp1 := bC hx p1 zp; have kp2 := bC hx p2 zp; have rr0 := bC hx r0 zr; have rf0 := bF hx fr0 zr; have rr1 := bC hx r1 zr; have rf1 := bF hx fr1 zr; have rr2 := bC hx r2 zr; have rf2 := bF hx fr2 zr; have rr3 := bC hx r3 zr; have rf3 := bF hx fr3 zr; have rr4 := bC hx r4 zr; have rf4 := bF hx fr4 zr; have rr5 := bC hx r5 zr; have rf5 := bF hx fr5 zr; have rr6 := bC hx r6 zr; have rf6 := bF hx fr6 zr; have hks := (fun x0 x1 x2 x3 x4 x5 x6 => And.intro (setB_cell kt0 hne2 x0 x1 x2 x3 x4 x5 x6) (And.intro (setB_cell kz0 hne0 x0 x1 x2 x3 x4 x5 x6) (And.intro (setB_cell kz1 hne0 x0 x1 x2 x3 x4 x5 x6) (And.intro (setB_cell kz2 hne0 x0 x1 x2 x3 x4 x5 x6) (And.intro (setB_cell kp0 hne1 x0 x1 x2 x3 x4 x5 x6) (And.intro (setB_cell kp1 hne1 x0 x1 x2 x3 x4 x5 x6) (setB_cell kp2 hne1 x0 x1 x2 x3 x4 x5 x6))))))); have HBc := HB.out.trans (hx.mono HB.out.size)))
        have hs6 : v3.heap.size ≤ v4.heap.size := hx.size
        have hb29 : Below v2.heap.size v2 v4 := hb23.trans (hx.mono (Nat.le_trans hs4 hs5))
        replace HIP := hide (HIP.out.step (Stp.of (lo := 0) (hi := 0) hx) (.inl (Nat.zero_le _)))
        replace HB := hide HBc
        have HOJ := hide ow2
        have hdr : v3.drew.heap.size = v3.heap.size := rfl
        have HFI : Hid (InBl w.heap.size (setB v4 (w.heap.size + 1) (.slice ho hn hc) (.int .i64 kj) (.slice o2 nj c2) (.int .i64 sj) (.int .i64 pk) (.slice po pn pc) (.slice qo qn qc)).heap.size (setB v4 (w.heap.size + 1) (.slice ho hn hc) (.int .i64 kj) (.slice o2 nj c2) (.int .i64 sj) (.int .i64 pk) (.slice po pn pc) (.slice qo qn qc)) (balr (.slice ho hn hc) kj (.slice o2 nj c2) sj pk (.slice po pn pc) (.slice qo qn qc)) ⟨kj, lj, sj⟩ pm lt) := by
          have s9 := stp_setB v4 (w.heap.size + 1) (.slice ho hn hc) (.int .i64 kj) (.slice o2 nj c2) (.int .i64 sj) (.int .i64 pk) (.slice po pn pc) (.slice qo qn qc)
          have e9 : pm.key = pk := HPK.out
          obtain ⟨g, hg, hn9, hc9, hw9⟩ := HOH.out (by first | exact HHB.out rfl | exact HHB.out trivial | simpa using HHB.out)
          subst hg hn9 hc9
          refine ⟨_, _, _, _, W2.heap.size, v2.heap.size, by rw [e9], by omega, by omega, by rw [setB_size]; omega, ?_, ?_, ?_⟩
          · rw [e9]
            exact inPm_wide (HIP.out.step s9 (.inl (by omega))) (by omega) (by omega)
          · exact InRow.step ((InRow.of hw9).step (Stp.of (lo := 0) (hi := 0) hb29) (.inl (Nat.zero_le _))) s9 (.inl (by omega))
          · refine ⟨_, rfl, ?_⟩
            have j9 := InRow.step (InRow.of HOJ.out) s9 (.inl (by omega))
            rw [HNJ.out] at j9 ⊢
            exact InRow.mono j9 (by omega) (by rw [setB_size]; exact Nat.le_refl _)
        clear hks hx hq0 HBc ow2 hb23 hb29 t0 kt0 z0 kz0 z1 kz1 z2 kz2 p0 kp0 p1 kp1 p2 kp2 r0 fr0 r1 fr1 r2 fr2 r3 fr3 r4 fr4 r5 fr5 r6 fr6
        go_wp2
        refine bodyPost_ret (v := .tuple #[balr (.slice ho hn hc) kj (.slice o2 nj c2) sj pk (.slice po pn pc) (.slice qo qn qc), .bool true]) (by simp [results, Tryz.results54, go_sem, rr0, rr1, rr2, rr3, rr4, rr5, rr6]) rfl ⟨ho, hn, hc, kj, o2, nj, c2, sj, pk, po, pn, pc, qo, qn, qc, by rw [HBB.out]; rfl, fun _ => (by rw [HPM.out]; exact HFI.out), setB_below HB.out (Nat.le_succ _) _ _ _ _ _ _ _⟩

end Go.Proofs.YtajfkcpifnpkeaaGreat

/- The program's BalOk; what the model's asks for is the same. -/
namespace Go.Proofs.YtajfkcpifnpkeaaGreat
open Go.ChangeShapes Go.WideShapes Go.ChangeAt Go.RowKit Go.Joins
set_option linter.unusedVariables false
set_option linter.unusedSimpArgs false


theorem movedTo_comm (aa bb : List (List Int)) : ∀ k, movedTo aa bb k = movedTo bb aa k
  | 0 => rfl
  | k + 1 => by
    unfold movedTo
    rw [movedTo_comm aa bb k]
    by_cases h : aa.getD k [] = bb.getD k []
    · rw [if_pos h, if_pos h.symm]
    · rw [if_neg h, if_neg (fun e => h e.symm)]
theorem movedI_comm (aa bb : List (List Int)) : movedI aa bb = movedI bb aa := by
  unfold movedI
  by_cases h : aa.length = 8 ∧ bb.length = 8
  · rw [if_pos h, if_pos h.symm, movedTo_comm]
  · rw [if_neg h, if_neg (fun e => h e.symm)]
theorem ringSame_comm (R1 R2 : List (List (List Int))) : ringSame R1 R2 = ringSame R2 R1 := by
  unfold ringSame
  by_cases h : R1.length = R2.length
  · rw [h]
    congr 1
    congr 1
    funext i
    rw [movedI_comm]
  · rw [decide_eq_false h, decide_eq_false (fun e => h e.symm)]; rfl
theorem samePB_comm (m1 m2 : Pm) : samePB m1 m2 = samePB m2 m1 := by
  unfold samePB
  rw [ringSame_comm, show decide (m1.key = m2.key) = decide (m2.key = m1.key) from decide_eq_decide.2 ⟨Eq.symm, Eq.symm⟩, show decide (m1.l = m2.l) = decide (m2.l = m1.l) from decide_eq_decide.2 ⟨Eq.symm, Eq.symm⟩]
def isL (s : Sl) : Bool := decide (s.v < 6)
theorem slotB_v {s : Sl} (h : slotB s = true) : 0 ≤ s.v := by
  unfold slotB at h
  split at h
  · simp only [Bool.and_eq_true, decide_eq_true_eq] at h; exact h.1.1.1.2
  · simp only [Bool.and_eq_true, decide_eq_true_eq] at h; omega
theorem isV_low {l : List Sl} (h : tableOkB l = true) : l.all isV = l.all isL := by
  have h3 := (tableOkB_iff.1 h).2.2
  have hs : ∀ s ∈ l, isV s = isL s := fun s hs => by
    obtain ⟨i, hi, rfl⟩ := List.getElem_of_mem hs
    have h4 := h3 i hi
    unfold tabAt at h4
    rw [Bool.and_eq_true] at h4
    have h5 := slotB_v h4.1
    have e : l.getD i sl0 = l[i] := by simp [hi]
    rw [e] at h5
    unfold isV isL
    rw [decide_eq_true h5]; rfl
  rw [Bool.eq_iff_iff, List.all_eq_true, List.all_eq_true]
  exact ⟨fun q s m => (hs s m) ▸ q s m, fun q s m => (hs s m).symm ▸ q s m⟩
theorem balB_spec (m : Bm) : balB m = (journalB m.j.key m.j.l m.j.safe && (tableOkB m.t && (samePB m.p (replayM m.j) && m.t.all isL))) := by
  unfold balB hintB
  rw [samePB_comm]
  cases ht : tableOkB m.t with
  | false => simp
  | true => rw [isV_low ht]; cases m.t.all isL <;> simp
theorem take_allL (l : List Sl) (k : Nat) (h : k < l.length) : (l.take (k + 1)).all isL = ((l.take k).all isL && isL (l.getD k sl0)) := by
  rw [List.take_succ_eq_append_getElem h, List.all_append]
  simp [h]
theorem all_noL {l : List Sl} {k : Nat} (h : k < l.length) (hv : isL (l.getD k sl0) = false) : l.all isL = false := by
  rw [Bool.eq_false_iff]; intro ha
  rw [List.all_eq_true] at ha
  have := ha (l.getD k sl0) (by simp [h])
  rw [hv] at this; cases this
theorem l4replay_pm (key safe : Int) (o : Option Addr) (n cap : Nat) (cs : List Cd) (w : World) (hn : n = cs.length) (hR : RdC w.heap.size w o cs) (h : journalB key cs safe = true) :
    Calls Tryz.prog 50 #[.int .i64 key, .slice o n cap] w fun e w' => ∃ v, e = .returned v ∧ RdPm w'.heap.size w' v (replayM ⟨key, cs, safe⟩) ∧ Below w.heap.size w w' := by
  subst hn
  have h0 := h
  unfold journalB at h
  simp only [Bool.and_eq_true, decide_eq_true_eq] at h
  refine (l4replay_any key o cap cs w hR h.1.1.1.1 h.1.1.1.2 h.2).mono ?_
  rintro e w' ⟨oB, cB, oR, cR, hs, rfl, owB, owR, pt, hs3, hb⟩
  refine ⟨_, rfl, ?_, hb⟩
  have e9 : replayM ⟨key, cs, safe⟩ = ⟨key, servedOf cs cs.length, ringT key (ringR cs cs.length)⟩ := if_pos h0
  rw [e9]
  exact (GTabs.pm (lo := 0) owB owR (ptabs_g pt)).rd

set_option maxRecDepth 100000 in
set_option maxHeartbeats 4000000 in
theorem implBalOk_any (kj : Int) (o : Option Addr) (nj c : Nat) (sj kp : Int) (ob : Option Addr) (np cb : Nat) (oR : Option Addr) (nr cR : Nat) (ot : Option Addr) (nt ct : Nat) (lj : List Cd) (lb : List Bk) (lr : List (List (List Int))) (lt : List Sl) (w : World)
    (hnj : nj = lj.length) (hnt : nt = lt.length) (h1 : RdC w.heap.size w o lj) (h1c : o = none → c = 0) (h2 : RdPm w.heap.size w (plv kp (.slice ob np cb) (.slice oR nr cR)) ⟨kp, lb, lr⟩) (h4 : RdS w.heap.size w ot lt) (hf : fitB0 ⟨⟨kj, lj, sj⟩, ⟨kp, lb, lr⟩, lt⟩) :
    Calls Tryz.prog 14 #[balv kj (.slice o nj c) sj kp (.slice ob np cb) (.slice oR nr cR) (.slice ot nt ct)] w fun e w' => e = .returned (.bool (balB ⟨⟨kj, lj, sj⟩, ⟨kp, lb, lr⟩, lt⟩)) ∧ Below w.heap.size w w' := by
  have HBF := hide (fun W (hb : Below w.heap.size w W) => balFrom_any kj o nj c sj kp ob np cb oR nr cR ot nt ct lj lb lr lt W hnj hnt ((h1.kept hb (Nat.le_refl _)).le hb.size) h1c ((h2.kept hb (Nat.le_refl _)).le hb.size) ((h4.kept hb (Nat.le_refl _)).le hb.size) hf)
  clear h1 h2 h4 hnj hnt
  generalize balB ⟨⟨kj, lj, sj⟩, ⟨kp, lb, lr⟩, lt⟩ = bb at *
  obtain ⟨W0, hW0⟩ : ∃ W, (w.alloc (.cells #[.int .i64 kj, .slice o nj c, .int .i64 sj, .int .i64 kp, .slice ob np cb, .slice oR nr cR, .slice ot nt ct] 46)) = W := ⟨_, rfl⟩
  have hb_W0 : Below w.heap.size w W0 := by rw [← hW0]; exact ((Below.refl _ _).alloc (Nat.le_refl _) _)
  have HB := hide hb_W0
  clear hb_W0
  have zz : w.heap.size < W0.heap.size := by rw [← hW0]; simp
  have z0 : W0.cell? ⟨w.heap.size, 0, none⟩ = some (.int .i64 kj) := by rw [← hW0]; simp [go_sem]
  have z1 : W0.cell? ⟨w.heap.size, 1, none⟩ = some (.slice o nj c) := by rw [← hW0]; simp [go_sem]
  have z2 : W0.cell? ⟨w.heap.size, 2, none⟩ = some (.int .i64 sj) := by rw [← hW0]; simp [go_sem]
  have z3 : W0.cell? ⟨w.heap.size, 3, none⟩ = some (.int .i64 kp) := by rw [← hW0]; simp [go_sem]
  have z4 : W0.cell? ⟨w.heap.size, 4, none⟩ = some (.slice ob np cb) := by rw [← hW0]; simp [go_sem]
  have z5 : W0.cell? ⟨w.heap.size, 5, none⟩ = some (.slice oR nr cR) := by rw [← hW0]; simp [go_sem]
  have z6 : W0.cell? ⟨w.heap.size, 6, none⟩ = some (.slice ot nt ct) := by rw [← hW0]; simp [go_sem]
  go_enter Tryz.func14, Tryz.ntmps14
  go_wp2_with fail
  refine (HBF.out W0 HB.out).mono ?_
  rintro e v1 ⟨xo, xn, xc, kq, yo, yn, yc, sq, kr, uo, un, uc, vo, vn, vc, rfl, hin, hb⟩
  clear hin
  replace z0 := bC hb z0 zz
  replace z1 := bC hb z1 zz
  replace z2 := bC hb z2 zz
  replace z3 := bC hb z3 zz
  replace z4 := bC hb z4 zz
  replace z5 := bC hb z5 zz
  replace z6 := bC hb z6 zz
  replace zz := Nat.lt_of_lt_of_le zz hb.size
  replace HB := hide (HB.out.trans (hb.mono HB.out.size))
  clear hb
  obtain ⟨W2, hW2⟩ : ∃ W, (v1.alloc (.cells #[.slice xo xn xc, .int .i64 kq, .slice yo yn yc, .int .i64 sq, .int .i64 kr, .slice uo un uc, .slice vo vn vc] 109)) = W := ⟨_, rfl⟩
  have hb_W2 : Below v1.heap.size v1 W2 := by rw [← hW2]; exact ((Below.refl _ _).alloc (Nat.le_refl _) _)
  replace z0 := bC hb_W2 z0 zz
  replace z1 := bC hb_W2 z1 zz
  replace z2 := bC hb_W2 z2 zz
  replace z3 := bC hb_W2 z3 zz
  replace z4 := bC hb_W2 z4 zz
  replace z5 := bC hb_W2 z5 zz
  replace z6 := bC hb_W2 z6 zz
  replace zz := Nat.lt_of_lt_of_le zz hb_W2.size
  replace HB := hide (HB.out.trans (hb_W2.mono HB.out.size))
  clear hb_W2
  have zx : v1.heap.size < W2.heap.size := by rw [← hW2]; simp
  have x0 : W2.cell? ⟨v1.heap.size, 0, none⟩ = some (.slice xo xn xc) := by rw [← hW2]; simp [go_sem]
  have x1 : W2.cell? ⟨v1.heap.size, 1, none⟩ = some (.int .i64 kq) := by rw [← hW2]; simp [go_sem]
  have x2 : W2.cell? ⟨v1.heap.size, 2, none⟩ = some (.slice yo yn yc) := by rw [← hW2]; simp [go_sem]
  have x3 : W2.cell? ⟨v1.heap.size, 3, none⟩ = some (.int .i64 sq) := by rw [← hW2]; simp [go_sem]
  have x4 : W2.cell? ⟨v1.heap.size, 4, none⟩ = some (.int .i64 kr) := by rw [← hW2]; simp [go_sem]
  have x5 : W2.cell? ⟨v1.heap.size, 5, none⟩ = some (.slice uo un uc) := by rw [← hW2]; simp [go_sem]
  have x6 : W2.cell? ⟨v1.heap.size, 6, none⟩ = some (.slice vo vn vc) := by rw [← hW2]; simp [go_sem]
  go_wp2
  go_ret
  exact ⟨rfl, HB.out⟩

end Go.Proofs.YtajfkcpifnpkeaaGreat

