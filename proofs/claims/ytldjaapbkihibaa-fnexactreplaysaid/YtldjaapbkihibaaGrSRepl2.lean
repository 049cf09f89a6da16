/- Several texts in one: SJS, SJCut, SRep, SNote, SRepl, SRepl2. -/
import Derived.Test.YtldjaapbkihibaaGrSPNew
import Derived.Deep.RegionHeld3
import Derived.Deep.CutRange
import Derived.Test.YtldjaapbkihibaaSTurns
/- The model's JournalOk. -/
namespace Go.Proofs.Ytldjaapbkihibaa
open Go.ChangeShapes Go.WideShapes Go.ChangeAt Go.RowKit Go.Joins
set_option linter.unusedVariables false
set_option linter.unusedSimpArgs false

/-- The box of a pool whose lists are the call's own. -/
structure PBox (w : World) (base B : Nat) (key : Int) (l : List Bk) (hs : List Hd) (o : Option Addr) (c : Nat) (oR : Option Addr) (cR : Nat) : Prop where
  box : w.heap[B]? = some (.cells #[.int .i64 key, .slice o l.length c, .slice oR hs.length cR] 26 (0, 0))
  backs : ownK w base (.slice o l.length c) l
  ring : ownL layH 37 w base (.slice oR hs.length cR) hs
theorem PBox.kept {w w' : World} {base B : Nat} {key : Int} {l : List Bk} {hs : List Hd} {o oR : Option Addr} {c cR : Nat} (h : PBox w base B key l hs o c oR cR) (hb : Below w.heap.size w w') : PBox w' base B key l hs o c oR cR :=
  ⟨(hb.block B (Array.getElem?_eq_some_iff.1 h.box).1).trans h.box, own_kept h.backs hb, own_kept h.ring hb⟩
/-- The box set anew. -/
theorem PBox.set {w : World} {base B : Nat} {key : Int} {l : List Bk} {hs : List Hd} {o oR : Option Addr} {c n cR : Nat} {z : Array Value} (hB : w.heap[B]? = some (.cells z 26 (0, 0))) (hz : z.size = 3) (h1 : ownK w base (.slice o l.length c) l) (h2 : ownL layH 37 w base (.slice oR n cR) hs) (hn : n = hs.length) : PBox (setP w B (.int .i64 key) (.slice o l.length c) (.slice oR n cR)) base B key l hs o c oR cR := by
  subst hn
  have b1 := box_put hB 0 (.int .i64 key)
  have b2 := box_put b1 1 (.slice o l.length c)
  have b3 := box_put b2 2 (.slice oR hs.length cR)
  refine ⟨?_, own_putB (own_putB (own_putB h1 hB neP4 0 _) b1 neP4 1 _) b2 neP4 2 _, own_putB (own_putB (own_putB h2 hB neP1 0 _) b1 neP1 1 _) b2 neP1 2 _⟩
  rw [b3]
  match z, hz with
  | ⟨[x, y, u]⟩, _ => rfl
theorem capH {w : World} {base : Nat} {o : Option Addr} {n c : Nat} {hs : List Hd} (h : ownL layH 37 w base (.slice o n c) hs) : o = none → c = 0 := fun e => (InRow.cap (InRow.of h)) n c (by rw [e])
theorem setP_below {C : Nat} {w W : World} {B : Nat} (h : Below C w W) (hB : C ≤ B) (x y z : Value) : Below C w (setP W B x y z) := ((h.setCell (p := ⟨B, 0, none⟩) hB _).setCell (p := ⟨B, 1, none⟩) hB _).setCell (p := ⟨B, 2, none⟩) hB _

theorem finJ {cur W : World} {base B : Nat} {key : Int} {m : List Bk} {hs2 : List Hd} {o2 oR2 : Option Addr} {c2 n2 cR2 : Nat} {z0 z1 z2 : Value} (hZ : W.heap[B]? = some (.cells #[z0, z1, z2] 26 (0, 0))) (hx : Below cur.heap.size cur W) (hB : cur.heap.size ≤ B) (h1 : ownK W base (.slice o2 m.length c2) m) (h2 : ownL layH 37 W base (.slice oR2 n2 cR2) hs2) (hn : n2 = hs2.length) (h3 : hs2.length ≤ 3) :
    ∃ B' hs' o' c' oR' cR', Value.pointer (some ⟨B, 0, none⟩) = .pointer (some ⟨B', 0, none⟩) ∧ Value.bool true = .bool true ∧ Hid (PBox (setP W B (.int .i64 key) (.slice o2 m.length c2) (.slice oR2 n2 cR2)) base B' key m hs' o' c' oR' cR') ∧ Hid (Below cur.heap.size cur (setP W B (.int .i64 key) (.slice o2 m.length c2) (.slice oR2 n2 cR2))) ∧ cur.heap.size ≤ B' ∧ Hid (hs'.length ≤ 3) :=
  ⟨B, hs2, o2, c2, oR2, cR2, rfl, rfl, PBox.set hZ rfl h1 h2 hn, setP_below hx hB _ _ _, hB, h3⟩
theorem finJn {cur W : World} {base : Nat} {key : Int} {m : List Bk} {hs2 : List Hd} {o2 oR2 : Option Addr} {c2 n2 cR2 : Nat} (hx : Below cur.heap.size cur W) (h1 : ownK W base (.slice o2 m.length c2) m) (h2 : ownL layH 37 W base (.slice oR2 n2 cR2) hs2) (hn : n2 = hs2.length) (h3 : hs2.length ≤ 3) :
    ∃ B' hs' o' c' oR' cR', Value.pointer (some ⟨W.heap.size, 0, none⟩) = .pointer (some ⟨B', 0, none⟩) ∧ Value.bool true = .bool true ∧ Hid (PBox (W.alloc (.cells #[.int .i64 key, .slice o2 m.length c2, .slice oR2 n2 cR2] 26)) base B' key m hs' o' c' oR' cR') ∧ Hid (Below cur.heap.size cur (W.alloc (.cells #[.int .i64 key, .slice o2 m.length c2, .slice oR2 n2 cR2] 26))) ∧ cur.heap.size ≤ B' ∧ Hid (hs'.length ≤ 3) := by
  subst hn
  exact ⟨W.heap.size, hs2, o2, c2, oR2, cR2, rfl, rfl, ⟨World.alloc_heap_new W _, World.ownsRow.alloc h1 _, World.ownsRow.alloc h2 _⟩, hx.alloc hx.size _, hx.size, h3⟩

set_option maxRecDepth 100000 in
set_option maxHeartbeats 16000000 in
theorem specJ_loop (key safe : Int) (b off cap : Nat) (cs : List Cd) (w : World) (hbl : cs.length ≠ 0 → b < w.heap.size) (hcell : ∀ i, i < cs.length → ∀ j, j < layC.k → w.cell? ⟨b, off + i * layC.k + j, none⟩ = (layC.cs (cs.getD i layC.d))[j]?) (hk : keyB key = true) (hl : cs.length ≤ 100) (h0 : 0 ≤ safe) (h1 : safe ≤ (cs.length : Int)) (ob : Option Addr) (hob : cs.length ≠ 0 → ob = some ⟨b, off, none⟩) :
    Calls Try.prog 23 #[jrn key (.slice ob cs.length cap) safe] w fun e w' => e = .returned (.bool (runTo cs cs.length).isSome) ∧ Below w.heap.size w w' := by
  have hik := l3key_any key
  rw [hk] at hik
  have HC := hide hcell
  have HOB := hide hob
  have HBL := hide hbl
  have q1 : decide (100 < (cs.length : Int)) = false := decide_eq_false (by omega)
  have q2 : decide (safe < 0) = false := decide_eq_false (by omega)
  have q3 : decide ((cs.length : Int) < safe) = false := decide_eq_false (by omega)
  have HN := hide hl
  clear hcell hob hbl h0 h1
  obtain ⟨W0, hW0⟩ : ∃ W, (w.alloc (.cells #[.int .i64 key, .slice ob cs.length cap, .int .i64 safe] 47)) = W := ⟨_, rfl⟩
  have hb_W0 : Below w.heap.size w W0 := by rw [← hW0]; exact ((Below.refl _ _).alloc (Nat.le_refl _) _)
  have HB := hide hb_W0
  clear hb_W0
  have zz : w.heap.size < W0.heap.size := by rw [← hW0]; simp
  have z0 : W0.cell? ⟨w.heap.size, 0, none⟩ = some (.int .i64 key) := by rw [← hW0]; simp [go_sem]
  have z1 : W0.cell? ⟨w.heap.size, 1, none⟩ = some (.slice ob cs.length cap) := by rw [← hW0]; simp [go_sem]
  have z2 : W0.cell? ⟨w.heap.size, 2, none⟩ = some (.int .i64 safe) := by rw [← hW0]; simp [go_sem]
  have HL := hide (l4new_any key W0 hk)
  have hz0 := zz
  go_enter Try.func23, Try.ntmps23
  go_wp2_with (go_at_call 66; refine (hik _).mono ?_; rintro e w9 ⟨rfl, rfl⟩)
  refine (HL.out).mono ?_
  rintro e v1 ⟨gR, rfl, hring, hb⟩
  have HRG := hide hring
  have hs1 := hb.size
  clear hring
  replace z0 := bC hb z0 zz
  replace z1 := bC hb z1 zz
  replace z2 := bC hb z2 zz
  replace zz := Nat.lt_of_lt_of_le zz hb.size
  replace HB := hide (HB.out.trans (hb.mono HB.out.size))
  clear hb
  have z1v := z1
  have zzv := zz
  have HB1W := HB
  obtain ⟨W1, hW1⟩ : ∃ W, (v1.alloc (.cells #[.int .i64 key, .slice none 0 0, .slice (some ⟨gR, 0, none⟩) 1 1] 26)) = W := ⟨_, rfl⟩
  have hb_W1 : Below v1.heap.size v1 W1 := by rw [← hW1]; exact ((Below.refl _ _).alloc (Nat.le_refl _) _)
  replace z0 := bC hb_W1 z0 zz
  replace z1 := bC hb_W1 z1 zz
  replace z2 := bC hb_W1 z2 zz
  replace zz := Nat.lt_of_lt_of_le zz hb_W1.size
  replace HB := hide (HB.out.trans (hb_W1.mono HB.out.size))
  clear hb_W1
  have zp : v1.heap.size < W1.heap.size := by rw [← hW1]; simp
  have p0 : W1.cell? ⟨v1.heap.size, 0, none⟩ = some (.int .i64 key) := by rw [← hW1]; simp [go_sem]
  have p1 : W1.cell? ⟨v1.heap.size, 1, none⟩ = some (.slice none 0 0) := by rw [← hW1]; simp [go_sem]
  have p2 : W1.cell? ⟨v1.heap.size, 2, none⟩ = some (.slice (some ⟨gR, 0, none⟩) 1 1) := by rw [← hW1]; simp [go_sem]
  obtain ⟨o3, c3, hs3, rg1, _, _⟩ := HRG.out
  have hb1 : Below v1.heap.size v1 W1 := by rw [← hW1]; exact (Below.refl _ _).alloc (Nat.le_refl _) _
  have HP : Hid (PBox W1 w.heap.size v1.heap.size key [] [(o3, 8, c3)] none 0 (some ⟨gR, 0, none⟩) 1) := ⟨by rw [← hW1]; exact World.alloc_heap_new v1 _, World.ownsRow_nil _ _ _ _, own_mono (own_kept rg1 hb1) (by omega)⟩
  clear rg1 HRG hb1
  go_wp2
  go_loopw [4] (fun iv wr => ∃ (t : Nat) (l : List Bk) (hs : List Hd) (o : Option Addr) (c : Nat) (oR : Option Addr) (cR : Nat), t ≤ cs.length ∧ iv = .int .i64 (t : Int) ∧ Hid (PBox wr w.heap.size v1.heap.size key l hs o c oR cR) ∧ Hid (runTo cs t = some l) ∧ Hid (hs.length ≤ 3) ∧ Hid (Below v1.heap.size v1 wr))
    (fun iv _ => cs.length - (intOf iv).toNat)
  case atStart => exact ⟨0, [], _, _, _, _, _, Nat.zero_le _, rfl, HP.out, rfl, (Nat.le_of_ble_eq_true rfl), by rw [← hW1]; exact (Below.refl _ _).alloc (Nat.le_refl _) _⟩
  case round =>
    obtain ⟨t, l, hs, o, c, oR, cR, htl, rfl, HPB, HRUN, HS3, HBR⟩ := hrel
    have hv1 := HBR.out.size
    have HBB : Hid (Below w.heap.size w wr) := (HB1W.out).trans (HBR.out.mono HB1W.out.size)
    have y1 := bC HBR.out z1v zzv
    by_cases hlt : t < cs.length
    · skip
      clear z0 z1 z2 zz p0 p1 p2 zp hW0 hW1 HP hik HB
      have hlt' : (t : Int) < (cs.length : Int) := by omega
      have ht0 : (0 : Int) ≤ (t : Int) := by omega
      have hob := HOB.out (by omega)
      have hbl := HBL.out (by omega)
      subst hob
      obtain ⟨hbo, hll⟩ := runTo_ok t l (by omega) HRUN.out
      obtain ⟨c0, c1, c2⟩ := RdL.cmd (C := w.heap.size) HC.out t hlt
      replace c0 := (HBB.out.cell (p := ⟨b, off + t * 3, none⟩) hbl).trans c0
      replace c1 := (HBB.out.cell (p := ⟨b, off + t * 3 + 1, none⟩) hbl).trans c1
      replace c2 := (HBB.out.cell (p := ⟨b, off + t * 3 + 2, none⟩) hbl).trans c2
      have HNX := hide (runTo_succ hlt)
      obtain ⟨x, y, u, hxyu⟩ : ∃ x y u, cs.getD t (0, 0, 0) = (x, y, u) := ⟨_, _, _, rfl⟩
      rw [hxyu] at c0 c1 c2 HNX
      have HST := hide (fun h => run_stop hlt (hxyu ▸ h) : stepO (runTo cs t) (x, y, u) = none → (runTo cs cs.length).isSome = false)
      rw [HRUN.out] at HNX HST
      simp only [stepO, Option.bind_some] at c0 c1 c2 HNX HST
      clear hxyu HRUN
      have HPC := hide (specPoolCmdOk_any x y u)
      cases hc : cmdOkB x y u with
      | false =>
        rw [hc] at HST HPC
        have HEND := hide (HST.out (by simp))
        clear HST HNX
        have HB := HBB
        go_wp2_with fail
        refine (HPC.out _).mono ?_
        rintro e w2 ⟨rfl, hb⟩
        replace HB := hide (HB.out.trans (hb.mono HB.out.size))
        clear hb
        go_wp2
        go_ret
        exact ⟨by rw [HEND.out]; rfl, HB.out⟩
      | true =>
        rw [hc] at HST HNX HPC
        simp only [if_true] at HST HNX
        go_wp2_with fail
        refine (HPC.out _).mono ?_
        rintro e w2 ⟨rfl, hb⟩
        have hs2 := hb.size
        have HPB2 := hide (HPB.out.kept hb)
        have HBR2 := hide (HBR.out.trans (hb.mono hv1))
        have HBB2 := hide (HBB.out.trans (hb.mono HBB.out.size))
        replace y1 := bC hb y1 (show w.heap.size < wr.heap.size by have := HB1W.out.size; omega)
        replace c0 := bC hb c0 (show b < wr.heap.size by have := HBB.out.size; omega)
        replace c1 := bC hb c1 (show b < wr.heap.size by have := HBB.out.size; omega)
        replace c2 := bC hb c2 (show b < wr.heap.size by have := HBB.out.size; omega)
        clear hb HPB HBR HBB HPC
        have p0 : w2.cell? ⟨v1.heap.size, 0, none⟩ = some (.int .i64 key) := bx_cell HPB2.out.box 0 _ rfl
        have p1 : w2.cell? ⟨v1.heap.size, 1, none⟩ = some (.slice o l.length c) := bx_cell HPB2.out.box 1 _ rfl
        have p2 : w2.cell? ⟨v1.heap.size, 2, none⟩ = some (.slice oR hs.length cR) := bx_cell HPB2.out.box 2 _ rfl
        have hpz : v1.heap.size < w2.heap.size := (Array.getElem?_eq_some_iff.1 HPB2.out.box).1
        have hyz : w.heap.size < w2.heap.size := by have := HB1W.out.size; omega
        have hbz : b < w2.heap.size := by omega
        have hzv : v1.heap.size ≤ w2.heap.size := by omega
        have HRB := hide (ownL.rds (L := layK) HPB2.out.backs)
        have HRR := hide (ownL.rds (L := layH) HPB2.out.ring)
        have hcb := own_capK HPB2.out.backs
        have hcr := capH HPB2.out.ring
        cases hdo : doL l x y u with
        | none =>
          rw [hdo] at HST
          have HEND := hide (HST.out rfl)
          have HY := hide (fun W (hb : Below w2.heap.size w2 W) => l4do_no key o c l oR hs.length cR x y u W hbo hdo (by have := HN.out; omega) ((HRB.out.kept hb (Nat.le_refl _)).le hb.size))
          clear HST HNX hdo HRR hcb hcr
          go_upto_region 9 with fail
          go_cut [5, 6] from 47 to 56 (fun s5 s6 wx => s6 = .bool false ∧ Hid (Below w2.heap.size w2 wx))
          case first =>
            go_region_held3 (fun w' => w'.cell? ⟨v1.heap.size, 0, none⟩ = some (.int .i64 key) ∧ w'.cell? ⟨v1.heap.size, 1, none⟩ = some (.slice o l.length c) ∧ w'.cell? ⟨v1.heap.size, 2, none⟩ = some (.slice oR hs.length cR) ∧ w'.cell? ⟨w.heap.size, 1, none⟩ = some (.slice (some ⟨b, off, none⟩) cs.length cap) ∧ w'.cell? ⟨b, off + t * 3, none⟩ = some (.int .i64 x) ∧ w'.cell? ⟨b, off + t * 3 + 1, none⟩ = some (.int .i64 y) ∧ w'.cell? ⟨b, off + t * 3 + 2, none⟩ = some (.int .i64 u)) (first | with_reducible exact ⟨k0_0, k0_1, k0_2, k0_3, k0_4, k0_5, k0_6⟩ | with_reducible exact ⟨p0, p1, p2, y1, c0, c1, c2⟩ | with_reducible exact ⟨s0_0, s0_1, s0_2, s0_3, s0_4, s0_5, s0_6⟩ | go_keep) (first | (go_at_call 74; have hc_ := HY.out w2.drew (Below.drew (Below.refl _ _)); with_reducible refine hc_.mono ?_; clear hc_; rintro e x0 ⟨rfl, hb⟩; have hp0 : Below w2.heap.size w2 x0 := Below.trans (show Below w2.heap.size w2 w2.drew from (Below.drew (Below.refl _ _))) (hb.mono (by simp)); have sp0 := hp0.size; have k0_0 := bC hp0 p0 hpz; have k0_1 := bC hp0 p1 hpz; have k0_2 := bC hp0 p2 hpz; have k0_3 := bC hp0 y1 hyz; have k0_4 := bC hp0 c0 hbz; have k0_5 := bC hp0 c1 hbz; have k0_6 := bC hp0 c2 hbz; clear hb) | (go_at_call 74; have hc_ := HY.out (w2.alloc (.cells #[.int .i64 0, .slice none 0 0, .slice none 0 0] 26)).drew (Below.drew ((Below.refl _ _).alloc (Nat.le_refl _) _)); with_reducible refine hc_.mono ?_; clear hc_; rintro e x0 ⟨rfl, hb⟩; have hp0 : Below w2.heap.size w2 x0 := Below.trans (show Below w2.heap.size w2 (w2.alloc (.cells #[.int .i64 0, .slice none 0 0, .slice none 0 0] 26)).drew from (Below.drew ((Below.refl _ _).alloc (Nat.le_refl _) _))) (hb.mono (by simp)); have sp0 := hp0.size; have k0_0 := bC hp0 p0 hpz; have k0_1 := bC hp0 p1 hpz; have k0_2 := bC hp0 p2 hpz; have k0_3 := bC hp0 y1 hyz; have k0_4 := bC hp0 c0 hbz; have k0_5 := bC hp0 c1 hbz; have k0_6 := bC hp0 c2 hbz; have hZ0 := box_newA hb; have hzl0 := (Array.getElem?_eq_some_iff.1 hZ0).1; have hzc_0 := bx_cell hZ0 0 _ rfl; have hzf_0 := bx_frozen hZ0 0; have hzc_1 := bx_cell hZ0 1 _ rfl; have hzf_1 := bx_frozen hZ0 1; have hzc_2 := bx_cell hZ0 2 _ rfl; have hzf_2 := bx_frozen hZ0 2; have s0_0 : (((x0.setCell ⟨w2.heap.size, 0, none⟩ (.int .i64 key)).setCell ⟨w2.heap.size, 1, none⟩ (.slice o l.length c)).setCell ⟨w2.heap.size, 2, none⟩ (.slice oR hs.length cR)).cell? ⟨v1.heap.size, 0, none⟩ = some (.int .i64 key) := setP_cell k0_0 hpz; have s0_1 : (((x0.setCell ⟨w2.heap.size, 0, none⟩ (.int .i64 key)).setCell ⟨w2.heap.size, 1, none⟩ (.slice o l.length c)).setCell ⟨w2.heap.size, 2, none⟩ (.slice oR hs.length cR)).cell? ⟨v1.heap.size, 1, none⟩ = some (.slice o l.length c) := setP_cell k0_1 hpz; have s0_2 : (((x0.setCell ⟨w2.heap.size, 0, none⟩ (.int .i64 key)).setCell ⟨w2.heap.size, 1, none⟩ (.slice o l.length c)).setCell ⟨w2.heap.size, 2, none⟩ (.slice oR hs.length cR)).cell? ⟨v1.heap.size, 2, none⟩ = some (.slice oR hs.length cR) := setP_cell k0_2 hpz; have s0_3 : (((x0.setCell ⟨w2.heap.size, 0, none⟩ (.int .i64 key)).setCell ⟨w2.heap.size, 1, none⟩ (.slice o l.length c)).setCell ⟨w2.heap.size, 2, none⟩ (.slice oR hs.length cR)).cell? ⟨w.heap.size, 1, none⟩ = some (.slice (some ⟨b, off, none⟩) cs.length cap) := setP_cell k0_3 hyz; have s0_4 : (((x0.setCell ⟨w2.heap.size, 0, none⟩ (.int .i64 key)).setCell ⟨w2.heap.size, 1, none⟩ (.slice o l.length c)).setCell ⟨w2.heap.size, 2, none⟩ (.slice oR hs.length cR)).cell? ⟨b, off + t * 3, none⟩ = some (.int .i64 x) := setP_cell k0_4 hbz; have s0_5 : (((x0.setCell ⟨w2.heap.size, 0, none⟩ (.int .i64 key)).setCell ⟨w2.heap.size, 1, none⟩ (.slice o l.length c)).setCell ⟨w2.heap.size, 2, none⟩ (.slice oR hs.length cR)).cell? ⟨b, off + t * 3 + 1, none⟩ = some (.int .i64 y) := setP_cell k0_5 hbz; have s0_6 : (((x0.setCell ⟨w2.heap.size, 0, none⟩ (.int .i64 key)).setCell ⟨w2.heap.size, 1, none⟩ (.slice o l.length c)).setCell ⟨w2.heap.size, 2, none⟩ (.slice oR hs.length cR)).cell? ⟨b, off + t * 3 + 2, none⟩ = some (.int .i64 u) := setP_cell k0_6 hbz; clear hb))
            all_goals (go_wp2_with fail; go_meet)
            all_goals first
              | with_reducible exact ⟨rfl, hide (setP_below hp0 (Nat.le_refl _) _ _ _)⟩
              | with_reducible exact ⟨rfl, hide (hp0.alloc hp0.size _)⟩
          case rest =>
          obtain ⟨rfl, Hbl⟩ := hcut
          have HBw := hide (HBB2.out.trans (Hbl.out.mono HBB2.out.size))
          go_wp2
          go_ret
          exact ⟨by rw [HEND.out]; rfl, HBw.out⟩
        | some m =>
          rw [hdo] at HNX
          have hs3 := HS3.out
          have HY := hide (fun W (hb : Below w2.heap.size w2 W) => l4do_yes key o c l oR cR hs x y u m W hk hbo hc hdo (by have := HN.out; omega) ((HRB.out.kept hb (Nat.le_refl _)).le hb.size) ((HRR.out.kept hb (Nat.le_refl _)).le hb.size) hcr hs3)
          clear HST hdo hc HRB HRR hcb
          go_upto_region 9 with fail
          go_cut [5, 6] from 47 to 56 (fun s5 s6 wx => ∃ B hs' o' c' oR' cR', s5 = .pointer (some ⟨B, 0, none⟩) ∧ s6 = .bool true ∧ Hid (PBox wx w.heap.size B key m hs' o' c' oR' cR') ∧ Hid (Below w2.heap.size w2 wx) ∧ w2.heap.size ≤ B ∧ Hid (hs'.length ≤ 3))
          case first =>
            go_region_held3 (fun w' => w'.cell? ⟨v1.heap.size, 0, none⟩ = some (.int .i64 key) ∧ w'.cell? ⟨v1.heap.size, 1, none⟩ = some (.slice o l.length c) ∧ w'.cell? ⟨v1.heap.size, 2, none⟩ = some (.slice oR hs.length cR) ∧ w'.cell? ⟨w.heap.size, 1, none⟩ = some (.slice (some ⟨b, off, none⟩) cs.length cap) ∧ w'.cell? ⟨b, off + t * 3, none⟩ = some (.int .i64 x) ∧ w'.cell? ⟨b, off + t * 3 + 1, none⟩ = some (.int .i64 y) ∧ w'.cell? ⟨b, off + t * 3 + 2, none⟩ = some (.int .i64 u)) (first | with_reducible exact ⟨k0_0, k0_1, k0_2, k0_3, k0_4, k0_5, k0_6⟩ | with_reducible exact ⟨p0, p1, p2, y1, c0, c1, c2⟩ | with_reducible exact ⟨s0_0, s0_1, s0_2, s0_3, s0_4, s0_5, s0_6⟩ | go_keep) (first | (go_at_call 74; have hc_ := HY.out w2.drew (Below.drew (Below.refl _ _)); with_reducible refine hc_.mono ?_; clear hc_; rintro e x0 ⟨o2, d2, oR2, n2, dR2, o3, d3, hs3, rfl, hn2, ow2, owR, _, _, hb⟩; have hp0 : Below w2.heap.size w2 x0 := Below.trans (show Below w2.heap.size w2 w2.drew from (Below.drew (Below.refl _ _))) (hb.mono (by simp)); have sp0 := hp0.size; have ow2 := own_mono ow2 (show w.heap.size ≤ _ by (try simp) <;> omega); have owR := own_mono owR (show w.heap.size ≤ _ by (try simp) <;> omega); have hl3 := List.length_take_le 3 ((o3, 8, d3) :: hs); generalize List.take 3 ((o3, 8, d3) :: hs) = hs2 at hn2 owR hl3; subst hn2; have k0_0 := bC hp0 p0 hpz; have k0_1 := bC hp0 p1 hpz; have k0_2 := bC hp0 p2 hpz; have k0_3 := bC hp0 y1 hyz; have k0_4 := bC hp0 c0 hbz; have k0_5 := bC hp0 c1 hbz; have k0_6 := bC hp0 c2 hbz; clear hb) | (go_at_call 74; have hc_ := HY.out (w2.alloc (.cells #[.int .i64 0, .slice none 0 0, .slice none 0 0] 26)).drew (Below.drew ((Below.refl _ _).alloc (Nat.le_refl _) _)); with_reducible refine hc_.mono ?_; clear hc_; rintro e x0 ⟨o2, d2, oR2, n2, dR2, o3, d3, hs3, rfl, hn2, ow2, owR, _, _, hb⟩; have hp0 : Below w2.heap.size w2 x0 := Below.trans (show Below w2.heap.size w2 (w2.alloc (.cells #[.int .i64 0, .slice none 0 0, .slice none 0 0] 26)).drew from (Below.drew ((Below.refl _ _).alloc (Nat.le_refl _) _))) (hb.mono (by simp)); have sp0 := hp0.size; have ow2 := own_mono ow2 (show w.heap.size ≤ _ by (try simp) <;> omega); have owR := own_mono owR (show w.heap.size ≤ _ by (try simp) <;> omega); have hl3 := List.length_take_le 3 ((o3, 8, d3) :: hs); generalize List.take 3 ((o3, 8, d3) :: hs) = hs2 at hn2 owR hl3; subst hn2; have k0_0 := bC hp0 p0 hpz; have k0_1 := bC hp0 p1 hpz; have k0_2 := bC hp0 p2 hpz; have k0_3 := bC hp0 y1 hyz; have k0_4 := bC hp0 c0 hbz; have k0_5 := bC hp0 c1 hbz; have k0_6 := bC hp0 c2 hbz; have hZ0 := box_newA hb; have hzl0 := (Array.getElem?_eq_some_iff.1 hZ0).1; have hzc_0 := bx_cell hZ0 0 _ rfl; have hzf_0 := bx_frozen hZ0 0; have hzc_1 := bx_cell hZ0 1 _ rfl; have hzf_1 := bx_frozen hZ0 1; have hzc_2 := bx_cell hZ0 2 _ rfl; have hzf_2 := bx_frozen hZ0 2; have s0_0 : (((x0.setCell ⟨w2.heap.size, 0, none⟩ (.int .i64 key)).setCell ⟨w2.heap.size, 1, none⟩ (.slice o2 m.length d2)).setCell ⟨w2.heap.size, 2, none⟩ (.slice oR2 hs2.length dR2)).cell? ⟨v1.heap.size, 0, none⟩ = some (.int .i64 key) := setP_cell k0_0 hpz; have s0_1 : (((x0.setCell ⟨w2.heap.size, 0, none⟩ (.int .i64 key)).setCell ⟨w2.heap.size, 1, none⟩ (.slice o2 m.length d2)).setCell ⟨w2.heap.size, 2, none⟩ (.slice oR2 hs2.length dR2)).cell? ⟨v1.heap.size, 1, none⟩ = some (.slice o l.length c) := setP_cell k0_1 hpz; have s0_2 : (((x0.setCell ⟨w2.heap.size, 0, none⟩ (.int .i64 key)).setCell ⟨w2.heap.size, 1, none⟩ (.slice o2 m.length d2)).setCell ⟨w2.heap.size, 2, none⟩ (.slice oR2 hs2.length dR2)).cell? ⟨v1.heap.size, 2, none⟩ = some (.slice oR hs.length cR) := setP_cell k0_2 hpz; have s0_3 : (((x0.setCell ⟨w2.heap.size, 0, none⟩ (.int .i64 key)).setCell ⟨w2.heap.size, 1, none⟩ (.slice o2 m.length d2)).setCell ⟨w2.heap.size, 2, none⟩ (.slice oR2 hs2.length dR2)).cell? ⟨w.heap.size, 1, none⟩ = some (.slice (some ⟨b, off, none⟩) cs.length cap) := setP_cell k0_3 hyz; have s0_4 : (((x0.setCell ⟨w2.heap.size, 0, none⟩ (.int .i64 key)).setCell ⟨w2.heap.size, 1, none⟩ (.slice o2 m.length d2)).setCell ⟨w2.heap.size, 2, none⟩ (.slice oR2 hs2.length dR2)).cell? ⟨b, off + t * 3, none⟩ = some (.int .i64 x) := setP_cell k0_4 hbz; have s0_5 : (((x0.setCell ⟨w2.heap.size, 0, none⟩ (.int .i64 key)).setCell ⟨w2.heap.size, 1, none⟩ (.slice o2 m.length d2)).setCell ⟨w2.heap.size, 2, none⟩ (.slice oR2 hs2.length dR2)).cell? ⟨b, off + t * 3 + 1, none⟩ = some (.int .i64 y) := setP_cell k0_5 hbz; have s0_6 : (((x0.setCell ⟨w2.heap.size, 0, none⟩ (.int .i64 key)).setCell ⟨w2.heap.size, 1, none⟩ (.slice o2 m.length d2)).setCell ⟨w2.heap.size, 2, none⟩ (.slice oR2 hs2.length dR2)).cell? ⟨b, off + t * 3 + 2, none⟩ = some (.int .i64 u) := setP_cell k0_6 hbz; clear hb))
            all_goals (go_wp2_with fail; go_meet)
            all_goals first
              | with_reducible exact finJ hZ0 hp0 (Nat.le_refl _) ow2 owR rfl hl3
              | with_reducible exact finJn hp0 ow2 owR rfl hl3
          case rest =>
          obtain ⟨B, hs', o', c', oR', cR', rfl, rfl, HPX, Hbl, hB1, HS3'⟩ := hcut
          have HBw := hide (HBB2.out.trans (Hbl.out.mono HBB2.out.size))
          have hbp := (Hbl.out.block v1.heap.size hpz).trans HPB2.out.box
          have x0 := bx_cell HPX.out.box 0 _ rfl
          have x1 := bx_cell HPX.out.box 1 _ rfl
          have x2 := bx_cell HPX.out.box 2 _ rfl
          have d0 := bx_cell hbp 0 _ rfl
          have d1 := bx_cell hbp 1 _ rfl
          have d2 := bx_cell hbp 2 _ rfl
          have f0 := bx_frozen hbp 0
          have f1 := bx_frozen hbp 1
          have f2 := bx_frozen hbp 2
          have HPN := hide (PBox.set (key := key) hbp rfl HPX.out.backs HPX.out.ring rfl)
          have HBN := hide (setP_below (HBR2.out.trans (Hbl.out.mono hzv)) (Nat.le_refl _) (.int .i64 key) (.slice o' m.length c') (.slice oR' hs'.length cR'))
          clear p0 p1 p2 y1 c0 c1 c2 hbp
          go_wp2
          go_roundw
          case rel => exact ⟨t + 1, m, hs', o', c', oR', cR', by omega, by go_num, HPN.out, HNX.out, HS3'.out, HBN.out⟩
          case measure => simp [intOf]; omega
    · have e : t = cs.length := by omega
      subst e
      have HRS := hide (show (runTo cs cs.length).isSome = true by rw [HRUN.out]; rfl)
      clear z0 z1 z2 zz p0 p1 p2 zp hW0 hW1 HP hik HB HRUN
      have hlz : ¬ ((cs.length : Int) < (cs.length : Int)) := by omega
      go_wp2
      go_ret
      exact ⟨by rw [HRS.out]; rfl, HBB.out⟩

set_option maxRecDepth 100000 in
set_option maxHeartbeats 4000000 in
theorem specJournalOk_any (key safe : Int) (o : Option Addr) (cap : Nat) (cs : List Cd) (w : World) (hR : RdC w.heap.size w o cs) (hl : cs.length ≤ 1048576) :
    Calls Try.prog 23 #[jrn key (.slice o cs.length cap) safe] w fun e w' => e = .returned (.bool (journalB key cs safe)) ∧ Below w.heap.size w w' := by
  by_cases hall : keyB key = true ∧ cs.length ≤ 100 ∧ 0 ≤ safe ∧ safe ≤ (cs.length : Int)
  · obtain ⟨h1, h2, h3, h4⟩ := hall
    have e : journalB key cs safe = (runTo cs cs.length).isSome := by unfold journalB; simp [h1, h2, h3, h4]
    rw [e]
    rcases hR with hR | ⟨b, off, rfl, hbl, hcell⟩
    · subst hR
      exact specJ_loop key safe 0 0 cap [] w (fun h => absurd rfl h) (fun i hi => absurd hi (Nat.not_lt_zero _)) h1 h2 h3 h4 o (fun h => absurd rfl h)
    · exact specJ_loop key safe b off cap cs w (fun _ => hbl) hcell h1 h2 h3 h4 _ (fun _ => rfl)
  have HE := hide (show journalB key cs safe = false by
    rw [Bool.eq_false_iff]; intro h; unfold journalB at h; simp only [Bool.and_eq_true, decide_eq_true_eq] at h; exact hall ⟨h.1.1.1.1, h.1.1.1.2, h.1.1.2, h.1.2⟩)
  have hik := l3key_any key
  obtain ⟨W0, hW0⟩ : ∃ W, (w.alloc (.cells #[.int .i64 key, .slice o cs.length cap, .int .i64 safe] 47)) = W := ⟨_, rfl⟩
  have hb_W0 : Below w.heap.size w W0 := by rw [← hW0]; exact ((Below.refl _ _).alloc (Nat.le_refl _) _)
  have HB := hide hb_W0
  clear hb_W0
  have zz : w.heap.size < W0.heap.size := by rw [← hW0]; simp
  have z0 : W0.cell? ⟨w.heap.size, 0, none⟩ = some (.int .i64 key) := by rw [← hW0]; simp [go_sem]
  have z1 : W0.cell? ⟨w.heap.size, 1, none⟩ = some (.slice o cs.length cap) := by rw [← hW0]; simp [go_sem]
  have z2 : W0.cell? ⟨w.heap.size, 2, none⟩ = some (.int .i64 safe) := by rw [← hW0]; simp [go_sem]
  clear hR
  cases hk : keyB key with
  | false =>
    rw [hk] at hik
    clear hall
    go_enter Try.func23, Try.ntmps23
    go_wp2_with (go_at_call 66; refine (hik _).mono ?_; rintro e w9 ⟨rfl, rfl⟩)
    go_ret
    exact ⟨by rw [HE.out]; rfl, HB.out⟩
  | true =>
    by_cases h2 : cs.length ≤ 100
    · by_cases h3 : 0 ≤ safe
      · by_cases h4 : safe ≤ (cs.length : Int)
        · exact absurd ⟨hk, h2, h3, h4⟩ hall
        · skip
          rw [hk] at hik
          have q1 : decide (100 < (cs.length : Int)) = false := decide_eq_false (by omega)
          have q2 : decide (safe < 0) = false := decide_eq_false (by omega)
          have q3 : decide ((cs.length : Int) < safe) = true := decide_eq_true (by omega)
          clear hall
          go_enter Try.func23, Try.ntmps23
          go_wp2_with (go_at_call 66; refine (hik _).mono ?_; rintro e w9 ⟨rfl, rfl⟩)
          go_ret
          exact ⟨by rw [HE.out]; rfl, HB.out⟩
      · skip
        rw [hk] at hik
        have q1 : decide (100 < (cs.length : Int)) = false := decide_eq_false (by omega)
        have q2 : decide (safe < 0) = true := decide_eq_true (by omega)
        clear hall
        go_enter Try.func23, Try.ntmps23
        go_wp2_with (go_at_call 66; refine (hik _).mono ?_; rintro e w9 ⟨rfl, rfl⟩)
        go_ret
        exact ⟨by rw [HE.out]; rfl, HB.out⟩
    · skip
      rw [hk] at hik
      have q1 : decide (100 < (cs.length : Int)) = true := decide_eq_true (by omega)
      clear hall
      go_enter Try.func23, Try.ntmps23
      go_wp2_with (go_at_call 66; refine (hik _).mono ?_; rintro e w9 ⟨rfl, rfl⟩)
      go_ret
      exact ⟨by rw [HE.out]; rfl, HB.out⟩

theorem specJournalOk_sh (v : Value) (m : Jm) (w : World) (hR : RdJm w.heap.size w v m) (hf : fitJm m) :
    Calls Try.prog 23 #[v] w fun e w' => e = .returned (.bool (journalB m.key m.l m.safe)) ∧ Below w.heap.size w w' := by
  obtain ⟨vl, rfl, ⟨o, c, rfl, r⟩⟩ := hR
  exact specJournalOk_any m.key m.safe o c m.l w r hf

end Go.Proofs.Ytldjaapbkihibaa

/- A journal's own copy in the model; Cut, on both sides. -/
namespace Go.Proofs.Ytldjaapbkihibaa
open Go.ChangeShapes Go.WideShapes Go.ChangeAt Go.RowKit Go.Joins
set_option linter.unusedVariables false
set_option linter.unusedSimpArgs false

theorem own_none2 {α : Type} {L : Lay α} (w : World) (e : TypeId) : ownL L e (w.alloc (.cells #[] e)) w.heap.size (.slice (some ⟨w.heap.size, 0, none⟩) 0 0) ([] : List α) := own_none0 w e
def cutN (m : Jm) (keep : Int) : Int := if keep < (m.l.length : Int) - m.safe then m.safe + keep else m.l.length
def jm0 : Jm := ⟨0, [], 0⟩
def cutB (m : Jm) (keep : Int) : Bool := journalB m.key m.l m.safe && decide (0 ≤ keep)
/-- What Cut tells. -/
def cutM (m : Jm) (keep : Int) : Jm := if cutB m keep = true then ⟨m.key, m.l.take (cutN m keep).toNat, cutN m keep⟩ else jm0
theorem journal_facts {key : Int} {cs : List Cd} {safe : Int} (h : journalB key cs safe = true) : keyB key = true ∧ cs.length ≤ 100 ∧ 0 ≤ safe ∧ safe ≤ (cs.length : Int) := by
  unfold journalB at h
  simp only [Bool.and_eq_true, decide_eq_true_eq] at h
  exact ⟨h.1.1.1.1, h.1.1.1.2, h.1.1.2, h.1.2⟩
theorem cutM_fit {m : Jm} (keep : Int) (h : fitJm m) : (cutM m keep).l.length ≤ 1048576 := by
  unfold cutM
  unfold fitJm at h
  split
  · simp; omega
  · decide
theorem rdC_take {C : Nat} {w : World} {o : Option Addr} {l : List Cd} (n : Nat) (h : RdC C w o l) : RdC C w o (l.take n) := by
  rcases h with h | ⟨b, off, ho, hlt, r⟩
  · left; rw [h]; simp
  · refine .inr ⟨b, off, ho, hlt, fun i hi j hj => ?_⟩
    have h1 : i < n := by simp at hi; omega
    have h2 : i < l.length := by simp at hi; omega
    rw [r i h2 j hj]
    simp [List.getD_eq_getElem?_getD, List.getElem?_take, h1]

/-- A journal whose list has room for itself; one of nothing has none. -/
def roomJm (v : Value) : Prop := ∃ k o n c s, v = jrn k (.slice o n c) s ∧ n ≤ c ∧ (o = none → c = 0)
theorem InJm.room {lo hi : Nat} {w : World} {v : Value} {m : Jm} (h : InJm lo hi w v m) : roomJm v := by
  obtain ⟨vl, e, h1⟩ := h
  rcases h1.1.2 with ⟨e1, e2⟩ | ⟨g, cap, cur, e1, hb, hc, h4, h5, h6, h7⟩
  · exact ⟨_, none, 0, 0, _, by rw [e, e1], Nat.le_refl _, fun _ => rfl⟩
  · exact ⟨_, some ⟨g, 0, none⟩, m.l.length, cap, _, by rw [e, e1], h4, fun h => by cases h⟩
theorem roomJm.two {k s : Int} {o : Option Addr} {n c : Nat} (h : roomJm (jrn k (.slice o n c) s)) : n ≤ c ∧ (o = none → c = 0) := by
  obtain ⟨k', o', n', c', s', e, h1, h2⟩ := h
  injection e with e
  simp at e
  obtain ⟨_, ⟨e2, e3, e4⟩, _⟩ := e
  subst e2 e3 e4
  exact ⟨h1, h2⟩
def cutI (l : List Cd) (safe keep : Int) : Int := if keep < (l.length : Int) - safe then safe + keep else l.length
theorem own_putJ {w : World} {base s n : Nat} {v : Value} {xs : List Value} {B : Nat} {c : Array Value} (h : w.ownsRow base 28 s v n xs) (hB : w.heap[B]? = some (.cells c 47 (0, 0))) (j : Nat) (u : Value) : (w.setCell ⟨B, j, none⟩ u).ownsRow base 28 s v n xs :=
  World.ownsRow.kept h (grown_set w B j u) (own_box h hB (by decide))
theorem finC {cur W : World} {B : Nat} {key : Int} {o2 : Option Addr} {n c2 : Nat} {l : List Cd} {z0 z1 z2 : Value} (hZ : W.heap[B]? = some (.cells #[z0, z1, z2] 47 (0, 0))) (hx : Below cur.heap.size cur W) (hB : cur.heap.size ≤ B) (ho : ownC W cur.heap.size (.slice o2 n c2) l) :
    ∃ B' o' c', Value.pointer (some ⟨B, 0, none⟩) = .pointer (some ⟨B', 0, none⟩) ∧ Hid ((setP W B (.int .i64 key) (.slice o2 n c2) (.int .i64 0)).heap[B']? = some (.cells #[.int .i64 key, .slice o' n c', .int .i64 0] 47 (0, 0))) ∧ Hid (Below cur.heap.size cur (setP W B (.int .i64 key) (.slice o2 n c2) (.int .i64 0))) ∧ cur.heap.size ≤ B' ∧ Hid (ownC (setP W B (.int .i64 key) (.slice o2 n c2) (.int .i64 0)) cur.heap.size (.slice o' n c') l) := by
  have h1 := box_put hZ 0 (.int .i64 key)
  have h2 := box_put h1 1 (.slice o2 n c2)
  have h3 := box_put h2 2 (.int .i64 0)
  exact ⟨B, o2, c2, rfl, h3, setP_below hx hB _ _ _, hB, own_putJ (own_putJ (own_putJ ho hZ 0 _) h1 1 _) h2 2 _⟩
theorem finCn {cur W : World} {key : Int} {o2 : Option Addr} {n c2 : Nat} {l : List Cd} (hx : Below cur.heap.size cur W) (ho : ownC W cur.heap.size (.slice o2 n c2) l) :
    ∃ B' o' c', Value.pointer (some ⟨W.heap.size, 0, none⟩) = .pointer (some ⟨B', 0, none⟩) ∧ Hid ((W.alloc (.cells #[.int .i64 key, .slice o2 n c2, .int .i64 0] 47)).heap[B']? = some (.cells #[.int .i64 key, .slice o' n c', .int .i64 0] 47 (0, 0))) ∧ Hid (Below cur.heap.size cur (W.alloc (.cells #[.int .i64 key, .slice o2 n c2, .int .i64 0] 47))) ∧ cur.heap.size ≤ B' ∧ Hid (ownC (W.alloc (.cells #[.int .i64 key, .slice o2 n c2, .int .i64 0] 47)) cur.heap.size (.slice o' n c') l) :=
  ⟨W.heap.size, o2, c2, rfl, World.alloc_heap_new W _, hx.alloc hx.size _, hx.size, World.ownsRow.alloc ho _⟩
theorem cloneN_any (o : Option Addr) (cap : Nat) (l : List Cd) (n : Nat) (hnl : n = l.length) (w : World) (hR : RdC w.heap.size w o l) (hn : o = none → cap = 0) (hl : l.length ≤ 1048576) :
    Calls Try.prog 82 #[.slice o n cap] w fun e w' => ∃ o2 c2, e = .returned (.slice o2 n c2) ∧ ownC w' w.heap.size (.slice o2 n c2) l ∧ Below w.heap.size w w' := by
  subst hnl
  refine (cloneCmds_any o cap l w hR hn hl).mono ?_
  rintro e w' ⟨v, rfl, h1, h2⟩
  obtain ⟨o2, c2, e2, _⟩ := ownL.open (L := layC) h1
  subst e2
  exact ⟨o2, c2, rfl, h1, h2⟩

set_option maxRecDepth 100000 in
set_option maxHeartbeats 8000000 in
theorem implCut_nil (key keep : Int) (w : World) (hkp : 0 ≤ keep) (hok : ∀ W : World, Below w.heap.size w W → Calls Try.prog 24 #[jrn key (.slice none 0 0) 0] W fun e w' => e = .returned (.bool true) ∧ Below W.heap.size W w') :
    Calls Try.prog 33 #[jrn key (.slice none 0 0) 0, .int .i64 keep] w fun e w' => ∃ o2 c2, e = .returned (jrn key (.slice o2 0 c2) 0) ∧ ownC w' w.heap.size (.slice o2 0 c2) ([] : List Cd) ∧ Below w.heap.size w w' := by
  obtain ⟨W0, hW0⟩ : ∃ W, ((w.alloc (.cells #[.int .i64 key, .slice none 0 0, .int .i64 0] 47)).alloc (.cells #[.int .i64 0, .slice none 0 0, .int .i64 0] 47)) = W := ⟨_, rfl⟩
  have hb_W0 : Below w.heap.size w W0 := by rw [← hW0]; exact (((Below.refl _ _).alloc (Nat.le_refl _) _).alloc (by simp <;> omega) _)
  have HB := hide hb_W0
  clear hb_W0
  have zz : w.heap.size < W0.heap.size := by rw [← hW0]; simp <;> omega
  have z0 : W0.cell? ⟨w.heap.size, 0, none⟩ = some (.int .i64 key) := by rw [← hW0]; simp [go_sem]
  have z1 : W0.cell? ⟨w.heap.size, 1, none⟩ = some (.slice none 0 0) := by rw [← hW0]; simp [go_sem]
  have z2 : W0.cell? ⟨w.heap.size, 2, none⟩ = some (.int .i64 0) := by rw [← hW0]; simp [go_sem]
  have zr : w.heap.size + 1 < W0.heap.size := by rw [← hW0]; simp
  have r0 : W0.cell? ⟨w.heap.size + 1, 0, none⟩ = some (.int .i64 0) := by rw [← hW0]; simp [go_sem]
  have r1 : W0.cell? ⟨w.heap.size + 1, 1, none⟩ = some (.slice none 0 0) := by rw [← hW0]; simp [go_sem]
  have r2 : W0.cell? ⟨w.heap.size + 1, 2, none⟩ = some (.int .i64 0) := by rw [← hW0]; simp [go_sem]
  have fr0 : W0.frozen? ⟨w.heap.size + 1, 0, none⟩ = false := by rw [← hW0]; simp [go_sem]
  have fr1 : W0.frozen? ⟨w.heap.size + 1, 1, none⟩ = false := by rw [← hW0]; simp [go_sem]
  have fr2 : W0.frozen? ⟨w.heap.size + 1, 2, none⟩ = false := by rw [← hW0]; simp [go_sem]
  have hzr := zr
  have HOK := hide (hok W0 HB.out)
  clear hok
  have hkd : ¬ (keep < 0) := by omega
  have hkd2 : decide (keep < 0) = false := decide_eq_false hkd
  have hmn : min keep 0 = 0 := by omega
  have hkz : ¬ (keep < 0 - 0) := by omega
  have hkz2 : decide (keep < 0) = false := decide_eq_false (by omega)
  go_enter Try.func33, Try.ntmps33
  go_wp2_with fail
  refine (HOK.out).mono ?_
  rintro e v1 ⟨rfl, hb⟩
  have hs1 := hb.size
  replace z0 := bC hb z0 zz
  replace z1 := bC hb z1 zz
  replace z2 := bC hb z2 zz
  replace zz := Nat.lt_of_lt_of_le zz hb.size
  replace r0 := bC hb r0 zr
  replace r1 := bC hb r1 zr
  replace r2 := bC hb r2 zr
  replace fr0 := bF hb fr0 zr
  replace fr1 := bF hb fr1 zr
  replace fr2 := bF hb fr2 zr
  replace zr := Nat.lt_of_lt_of_le zr hb.size
  replace HB := hide (HB.out.trans (hb.mono HB.out.size))
  clear hb
  go_wp2
  go_region_held3 (fun w' => w'.cell? ⟨w.heap.size, 0, none⟩ = some (.int .i64 key) ∧ w'.cell? ⟨w.heap.size, 1, none⟩ = some (.slice none 0 0) ∧ w'.cell? ⟨w.heap.size, 2, none⟩ = some (.int .i64 0)) (first | with_reducible exact ⟨k0, k1, k2⟩ | with_reducible exact ⟨z0, z1, z2⟩ | with_reducible exact ⟨s0, s1, s2⟩ | go_keep) (first | (go_at_call 82; have hc_ := cloneN_any none 0 ([] : List Cd) 0 rfl v1.drew (.inl rfl) (fun _ => rfl) (by simp); with_reducible refine hc_.mono ?_; clear hc_; rintro e x0 ⟨o2, c2, rfl, ow2, hb⟩; have hp0 : Below v1.heap.size v1 x0 := Below.trans (show Below v1.heap.size v1 v1.drew from Below.drew (Below.refl _ _)) (hb.mono (by simp)); have ow2 := own_mono ow2 (show v1.heap.size ≤ _ by simp); have k0 := bC hp0 z0 zz; have k1 := bC hp0 z1 zz; have k2 := bC hp0 z2 zz; have qc0 := bC hp0 r0 zr; have qc1 := bC hp0 r1 zr; have qc2 := bC hp0 r2 zr; have fqc0 := bF hp0 fr0 zr; have fqc1 := bF hp0 fr1 zr; have fqc2 := bF hp0 fr2 zr; have s0 : (((x0.setCell ⟨w.heap.size + 1, 0, none⟩ (.int .i64 key)).setCell ⟨w.heap.size + 1, 1, none⟩ (.slice o2 0 c2)).setCell ⟨w.heap.size + 1, 2, none⟩ (.int .i64 0)).cell? ⟨w.heap.size, 0, none⟩ = some (.int .i64 key) := setP_cell k0 (Nat.lt_succ_self _); have s1 : (((x0.setCell ⟨w.heap.size + 1, 0, none⟩ (.int .i64 key)).setCell ⟨w.heap.size + 1, 1, none⟩ (.slice o2 0 c2)).setCell ⟨w.heap.size + 1, 2, none⟩ (.int .i64 0)).cell? ⟨w.heap.size, 1, none⟩ = some (.slice none 0 0) := setP_cell k1 (Nat.lt_succ_self _); have s2 : (((x0.setCell ⟨w.heap.size + 1, 0, none⟩ (.int .i64 key)).setCell ⟨w.heap.size + 1, 1, none⟩ (.slice o2 0 c2)).setCell ⟨w.heap.size + 1, 2, none⟩ (.int .i64 0)).cell? ⟨w.heap.size, 2, none⟩ = some (.int .i64 0) := setP_cell k2 (Nat.lt_succ_self _); have HO5 := hide ow2; have HP0 := hide hp0; clear hb ow2 hp0))
  have hcz : w.heap.size + 1 < v1.heap.size := zr
  go_wp2
  refine bodyPost_ret (v := jrn key (.slice o2 0 c2) 0) (by simp [results, Try.results33, go_sem, qc0, qc1, qc2]) rfl ⟨o2, c2, rfl, own_mono (own_low (own_low (own_low HO5.out hcz 0 _) hcz 1 _) hcz 2 _) (by omega), setP_below (HB.out.trans (HP0.out.mono HB.out.size)) (Nat.le_succ _) _ _ _⟩

set_option maxRecDepth 100000 in
set_option maxHeartbeats 8000000 in
theorem implCut_go (key safe keep : Int) (ad : Addr) (c : Nat) (l : List Cd) (n : Nat) (w : World) (hR : RdC w.heap.size w (some ad) l) (hlc : l.length ≤ c) (hl : l.length ≤ 100) (h0 : 0 ≤ safe) (h1 : safe ≤ (l.length : Int)) (hkp : 0 ≤ keep) (hn : (n : Int) = cutI l safe keep) (hok : ∀ W : World, Below w.heap.size w W → Calls Try.prog 24 #[jrn key (.slice (some ad) l.length c) safe] W fun e w' => e = .returned (.bool true) ∧ Below W.heap.size W w') :
    Calls Try.prog 33 #[jrn key (.slice (some ad) l.length c) safe, .int .i64 keep] w fun e w' => ∃ o2 c2, e = .returned (jrn key (.slice o2 n c2) (n : Int)) ∧ ownC w' w.heap.size (.slice o2 n c2) (l.take n) ∧ Below w.heap.size w w' := by
  obtain ⟨W0, hW0⟩ : ∃ W, ((w.alloc (.cells #[.int .i64 key, .slice (some ad) l.length c, .int .i64 safe] 47)).alloc (.cells #[.int .i64 0, .slice none 0 0, .int .i64 0] 47)) = W := ⟨_, rfl⟩
  have hb_W0 : Below w.heap.size w W0 := by rw [← hW0]; exact (((Below.refl _ _).alloc (Nat.le_refl _) _).alloc (by simp <;> omega) _)
  have HB := hide hb_W0
  clear hb_W0
  have zz : w.heap.size < W0.heap.size := by rw [← hW0]; simp <;> omega
  have z0 : W0.cell? ⟨w.heap.size, 0, none⟩ = some (.int .i64 key) := by rw [← hW0]; simp [go_sem]
  have z1 : W0.cell? ⟨w.heap.size, 1, none⟩ = some (.slice (some ad) l.length c) := by rw [← hW0]; simp [go_sem]
  have z2 : W0.cell? ⟨w.heap.size, 2, none⟩ = some (.int .i64 safe) := by rw [← hW0]; simp [go_sem]
  have zr : w.heap.size + 1 < W0.heap.size := by rw [← hW0]; simp
  have r0 : W0.cell? ⟨w.heap.size + 1, 0, none⟩ = some (.int .i64 0) := by rw [← hW0]; simp [go_sem]
  have r1 : W0.cell? ⟨w.heap.size + 1, 1, none⟩ = some (.slice none 0 0) := by rw [← hW0]; simp [go_sem]
  have r2 : W0.cell? ⟨w.heap.size + 1, 2, none⟩ = some (.int .i64 0) := by rw [← hW0]; simp [go_sem]
  have fr0 : W0.frozen? ⟨w.heap.size + 1, 0, none⟩ = false := by rw [← hW0]; simp [go_sem]
  have fr1 : W0.frozen? ⟨w.heap.size + 1, 1, none⟩ = false := by rw [← hW0]; simp [go_sem]
  have fr2 : W0.frozen? ⟨w.heap.size + 1, 2, none⟩ = false := by rw [← hW0]; simp [go_sem]
  have hzr := zr
  have HOK := hide (hok W0 HB.out)
  clear hok
  have hkd : ¬ (keep < 0) := by omega
  have hkd2 : decide (keep < 0) = false := decide_eq_false hkd
  have hnl : n ≤ l.length := by have := hn; unfold cutI at this; split at this <;> omega
  have hn0 : (0 : Int) ≤ (n : Int) := by omega
  have hn1 : (n : Int) ≤ (l.length : Int) := by omega
  have hn2 : (n : Int) ≤ (c : Int) := by omega
  have hnc : n ≤ c := by omega
  have HRT := hide (rdC_take n hR)
  have HTL := hide (show n = (l.take n).length by simp; omega)
  have HL2 := hide (show (l.take n).length ≤ 1048576 by simp; omega)
  have w1 : IntKind.i64.wrap ((l.length : Int) - safe) = (l.length : Int) - safe := by rw [IntKind.wrap_i64]; omega
  have HCN := hide (show (n : Int) = if keep < (l.length : Int) - safe then safe + keep else l.length from hn)
  clear hn hR
  have w2 : IntKind.i64.wrap (safe + min keep ((l.length : Int) - safe)) = (n : Int) := by have := HCN.out; rw [IntKind.wrap_i64]; split at this <;> omega
  go_enter Try.func33, Try.ntmps33
  go_wp2_with fail
  refine (HOK.out).mono ?_
  rintro e v1 ⟨rfl, hb⟩
  have hs1 := hb.size
  replace z0 := bC hb z0 zz
  replace z1 := bC hb z1 zz
  replace z2 := bC hb z2 zz
  replace zz := Nat.lt_of_lt_of_le zz hb.size
  replace r0 := bC hb r0 zr
  replace r1 := bC hb r1 zr
  replace r2 := bC hb r2 zr
  replace fr0 := bF hb fr0 zr
  replace fr1 := bF hb fr1 zr
  replace fr2 := bF hb fr2 zr
  replace zr := Nat.lt_of_lt_of_le zr hb.size
  replace HB := hide (HB.out.trans (hb.mono HB.out.size))
  clear hb
  go_wp2
  go_region_held3 (fun w' => w'.cell? ⟨w.heap.size, 0, none⟩ = some (.int .i64 key) ∧ w'.cell? ⟨w.heap.size, 1, none⟩ = some (.slice (some ad) l.length c) ∧ w'.cell? ⟨w.heap.size, 2, none⟩ = some (.int .i64 safe)) (first | with_reducible exact ⟨k0, k1, k2⟩ | with_reducible exact ⟨z0, z1, z2⟩ | with_reducible exact ⟨s0, s1, s2⟩ | go_keep) (first | (go_at_call 82; have hc_ := cloneN_any (some ad) c (l.take n) n HTL.out v1.drew ((HRT.out.kept (HB.out.trans ((show Below v1.heap.size v1 v1.drew from Below.drew (Below.refl _ _)).mono HB.out.size)) (Nat.le_refl _)).le ((HB.out.trans ((show Below v1.heap.size v1 v1.drew from Below.drew (Below.refl _ _)).mono HB.out.size))).size) (fun h => by cases h) HL2.out; with_reducible refine hc_.mono ?_; clear hc_; rintro e x0 ⟨o2, c2, rfl, ow2, hb⟩; have hp0 : Below v1.heap.size v1 x0 := Below.trans (show Below v1.heap.size v1 v1.drew from Below.drew (Below.refl _ _)) (hb.mono (by simp)); have ow2 := own_mono ow2 (show v1.heap.size ≤ _ by simp); have k0 := bC hp0 z0 zz; have k1 := bC hp0 z1 zz; have k2 := bC hp0 z2 zz; have qc0 := bC hp0 r0 zr; have qc1 := bC hp0 r1 zr; have qc2 := bC hp0 r2 zr; have fqc0 := bF hp0 fr0 zr; have fqc1 := bF hp0 fr1 zr; have fqc2 := bF hp0 fr2 zr; have s0 : (((x0.setCell ⟨w.heap.size + 1, 0, none⟩ (.int .i64 key)).setCell ⟨w.heap.size + 1, 1, none⟩ (.slice o2 n c2)).setCell ⟨w.heap.size + 1, 2, none⟩ (.int .i64 (n : Int))).cell? ⟨w.heap.size, 0, none⟩ = some (.int .i64 key) := setP_cell k0 (Nat.lt_succ_self _); have s1 : (((x0.setCell ⟨w.heap.size + 1, 0, none⟩ (.int .i64 key)).setCell ⟨w.heap.size + 1, 1, none⟩ (.slice o2 n c2)).setCell ⟨w.heap.size + 1, 2, none⟩ (.int .i64 (n : Int))).cell? ⟨w.heap.size, 1, none⟩ = some (.slice (some ad) l.length c) := setP_cell k1 (Nat.lt_succ_self _); have s2 : (((x0.setCell ⟨w.heap.size + 1, 0, none⟩ (.int .i64 key)).setCell ⟨w.heap.size + 1, 1, none⟩ (.slice o2 n c2)).setCell ⟨w.heap.size + 1, 2, none⟩ (.int .i64 (n : Int))).cell? ⟨w.heap.size, 2, none⟩ = some (.int .i64 safe) := setP_cell k2 (Nat.lt_succ_self _); have HO5 := hide ow2; have HP0 := hide hp0; clear hb ow2 hp0))
  have hcz : w.heap.size + 1 < v1.heap.size := zr
  go_wp2
  refine bodyPost_ret (v := jrn key (.slice o2 n c2) (n : Int)) (by simp [results, Try.results33, go_sem, qc0, qc1, qc2]) rfl ⟨o2, c2, rfl, own_mono (own_low (own_low (own_low HO5.out hcz 0 _) hcz 1 _) hcz 2 _) (by omega), setP_below (HB.out.trans (HP0.out.mono HB.out.size)) (Nat.le_succ _) _ _ _⟩

set_option maxRecDepth 100000 in
set_option maxHeartbeats 4000000 in
theorem implCut_sh (v : Value) (m : Jm) (keep : Int) (w : World) (hR : RdJm w.heap.size w v m) (hcp : roomJm v) (hf : fitJm m) :
    Calls Try.prog 33 #[v, .int .i64 keep] w fun e w' => ∃ v', e = .returned v' ∧ InJm w.heap.size w'.heap.size w' v' (cutM m keep) ∧ Below w.heap.size w w' := by
  have hok := fun W (hb : Below w.heap.size w W) => implJournalOk_sh v m W ((hR.kept hb (Nat.le_refl _)).le hb.size) hf
  obtain ⟨vl, rfl, ⟨o, c, rfl, r⟩⟩ := hR
  obtain ⟨hlc, hcap⟩ := hcp.two
  obtain ⟨key, l, safe⟩ := m
  dsimp only at *
  have HCM := hide (show cutM ⟨key, l, safe⟩ keep = if (journalB key l safe && decide (0 ≤ keep)) = true then ⟨key, l.take (cutN ⟨key, l, safe⟩ keep).toNat, cutN ⟨key, l, safe⟩ keep⟩ else jm0 from rfl)
  by_cases hall : (journalB key l safe && decide (0 ≤ keep)) = true
  · rw [if_pos hall] at HCM
    simp only [Bool.and_eq_true, decide_eq_true_eq] at hall
    obtain ⟨hj, hkp⟩ := hall
    rw [hj] at hok
    obtain ⟨hk, hl, h0, h1⟩ := journal_facts hj
    obtain ⟨n, hn⟩ : ∃ n : Nat, cutN ⟨key, l, safe⟩ keep = (n : Int) := ⟨(cutN ⟨key, l, safe⟩ keep).toNat, by unfold cutN; dsimp only; split <;> omega⟩
    rw [hn, Int.toNat_natCast] at HCM
    have hnl : n ≤ l.length := by have := hn; unfold cutN at this; dsimp only at this; split at this <;> omega
    have e1 : (l.take n).length = n := by simp; omega
    rw [HCM.out]
    cases o with
    | none =>
      have hc0 := hcap rfl
      subst hc0
      have hl0 : l = [] := List.eq_nil_of_length_eq_zero (by omega)
      subst hl0
      have hs0 : safe = 0 := by simp at h1; omega
      subst hs0
      have hn0 : n = 0 := by simpa using hnl
      subst hn0
      refine (implCut_nil key keep w hkp hok).mono ?_
      rintro e w' ⟨o2, c2, rfl, ho, hb⟩
      exact ⟨_, rfl, ⟨_, rfl, InRow.of ho⟩, hb⟩
    | some ad =>
      refine (implCut_go key safe keep ad c l n w r hlc hl h0 h1 hkp (show (n : Int) = cutI l safe keep from hn.symm) hok).mono ?_
      rintro e w' ⟨o2, c2, rfl, ho, hb⟩
      exact ⟨_, rfl, ⟨_, rfl, InRow.of ho⟩, hb⟩
  · rw [if_neg hall] at HCM
    have HALL := hide hall
    obtain ⟨W0, hW0⟩ : ∃ W, ((w.alloc (.cells #[.int .i64 key, .slice o l.length c, .int .i64 safe] 47)).alloc (.cells #[.int .i64 0, .slice none 0 0, .int .i64 0] 47)) = W := ⟨_, rfl⟩
    have hb_W0 : Below w.heap.size w W0 := by rw [← hW0]; exact (((Below.refl _ _).alloc (Nat.le_refl _) _).alloc (by simp <;> omega) _)
    have HB := hide hb_W0
    clear hb_W0
    have zz : w.heap.size < W0.heap.size := by rw [← hW0]; simp <;> omega
    have z0 : W0.cell? ⟨w.heap.size, 0, none⟩ = some (.int .i64 key) := by rw [← hW0]; simp [go_sem]
    have z1 : W0.cell? ⟨w.heap.size, 1, none⟩ = some (.slice o l.length c) := by rw [← hW0]; simp [go_sem]
    have z2 : W0.cell? ⟨w.heap.size, 2, none⟩ = some (.int .i64 safe) := by rw [← hW0]; simp [go_sem]
    have zr : w.heap.size + 1 < W0.heap.size := by rw [← hW0]; simp
    have r0 : W0.cell? ⟨w.heap.size + 1, 0, none⟩ = some (.int .i64 0) := by rw [← hW0]; simp [go_sem]
    have r1 : W0.cell? ⟨w.heap.size + 1, 1, none⟩ = some (.slice none 0 0) := by rw [← hW0]; simp [go_sem]
    have r2 : W0.cell? ⟨w.heap.size + 1, 2, none⟩ = some (.int .i64 0) := by rw [← hW0]; simp [go_sem]
    have fr0 : W0.frozen? ⟨w.heap.size + 1, 0, none⟩ = false := by rw [← hW0]; simp [go_sem]
    have fr1 : W0.frozen? ⟨w.heap.size + 1, 1, none⟩ = false := by rw [← hW0]; simp [go_sem]
    have fr2 : W0.frozen? ⟨w.heap.size + 1, 2, none⟩ = false := by rw [← hW0]; simp [go_sem]
    have HOK := hide (hok W0 HB.out)
    clear hok r
    cases hj : journalB key l safe with
    | false =>
      rw [hj] at HOK
      clear hj hall HALL
      go_enter Try.func33, Try.ntmps33
      go_wp2_with fail
      refine (HOK.out).mono ?_
      rintro e v1 ⟨rfl, hb⟩
      replace z0 := bC hb z0 zz
      replace z1 := bC hb z1 zz
      replace z2 := bC hb z2 zz
      replace zz := Nat.lt_of_lt_of_le zz hb.size
      replace r0 := bC hb r0 zr
      replace r1 := bC hb r1 zr
      replace r2 := bC hb r2 zr
      replace fr0 := bF hb fr0 zr
      replace fr1 := bF hb fr1 zr
      replace fr2 := bF hb fr2 zr
      replace zr := Nat.lt_of_lt_of_le zr hb.size
      replace HB := hide (HB.out.trans (hb.mono HB.out.size))
      clear hb
      go_wp2
      refine bodyPost_ret (v := jrn 0 (.slice none 0 0) 0) (by simp [results, Try.results33, go_sem, r0, r1, r2]) rfl ⟨_, rfl, ?_, setP_below HB.out (Nat.le_succ _) _ _ _⟩
      rw [HCM.out]
      exact ⟨_, rfl, World.ownsRow_nil _ _ _ _, fun b e => by cases e⟩
    | true =>
      have hkd : keep < 0 := by have := HALL.out; rw [hj] at this; simp at this; omega
      rw [hj] at HOK
      clear hj hall HALL
      go_enter Try.func33, Try.ntmps33
      go_wp2_with fail
      refine (HOK.out).mono ?_
      rintro e v1 ⟨rfl, hb⟩
      replace z0 := bC hb z0 zz
      replace z1 := bC hb z1 zz
      replace z2 := bC hb z2 zz
      replace zz := Nat.lt_of_lt_of_le zz hb.size
      replace r0 := bC hb r0 zr
      replace r1 := bC hb r1 zr
      replace r2 := bC hb r2 zr
      replace fr0 := bF hb fr0 zr
      replace fr1 := bF hb fr1 zr
      replace fr2 := bF hb fr2 zr
      replace zr := Nat.lt_of_lt_of_le zr hb.size
      replace HB := hide (HB.out.trans (hb.mono HB.out.size))
      clear hb
      go_wp2
      refine bodyPost_ret (v := jrn 0 (.slice none 0 0) 0) (by simp [results, Try.results33, go_sem, r0, r1, r2]) rfl ⟨_, rfl, ?_, setP_below HB.out (Nat.le_succ _) _ _ _⟩
      rw [HCM.out]
      exact ⟨_, rfl, World.ownsRow_nil _ _ _ _, fun b e => by cases e⟩

end Go.Proofs.Ytldjaapbkihibaa

/- The model's l4replay: the pool that commands come to. -/
namespace Go.Proofs.Ytldjaapbkihibaa
open Go.ChangeShapes Go.WideShapes Go.ChangeAt Go.RowKit Go.Joins
set_option linter.unusedVariables false
set_option linter.unusedSimpArgs false

/-- Tables of the call's own: each is the one of a list of those who serve. -/
def PTabs (w : World) (base : Nat) (key : Int) (hs : List Hd) (R : List (List Bk)) : Prop := hs.length = R.length ∧ ∀ i, i < R.length → ∃ o3 c3 hs8, hs.getD i (none, 0, 0) = (o3, 8, c3) ∧ ownL layH 43 w base (.slice o3 8 c3) hs8 ∧ Tab (fun b => pairI key b (R.getD i [])) 8 w base hs8
theorem PTabs.kept {w w' : World} {base : Nat} {key : Int} {hs : List Hd} {R : List (List Bk)} (h : PTabs w base key hs R) (hb : Below w.heap.size w w') : PTabs w' base key hs R :=
  ⟨h.1, fun i hi => by obtain ⟨o3, c3, hs8, e, h1, h2⟩ := h.2 i hi; exact ⟨o3, c3, hs8, e, own_kept h1 hb, h2.kept hb⟩⟩
theorem PTabs.putB {w : World} {base : Nat} {key : Int} {hs : List Hd} {R : List (List Bk)} {B : Nat} {c : Array Value} (h : PTabs w base key hs R) (hB : w.heap[B]? = some (.cells c 26 (0, 0))) (j : Nat) (u : Value) : PTabs (w.setCell ⟨B, j, none⟩ u) base key hs R :=
  ⟨h.1, fun i hi => by obtain ⟨o3, c3, hs8, e, h1, h2⟩ := h.2 i hi; exact ⟨o3, c3, hs8, e, own_putB h1 hB neP2 j u, h2.grown (grown_set w B j u) (fun q hq => own_box (h2.row q hq) hB neP3)⟩⟩
theorem PTabs.setP {w : World} {base : Nat} {key : Int} {hs : List Hd} {R : List (List Bk)} {B : Nat} {c : Array Value} (h : PTabs w base key hs R) (hB : w.heap[B]? = some (.cells c 26 (0, 0))) (x y z : Value) : PTabs (Go.Proofs.Ytldjaapbkihibaa.setP w B x y z) base key hs R :=
  ((h.putB hB 0 x).putB (box_put hB 0 x) 1 y).putB (box_put (box_put hB 0 x) 1 y) 2 z
theorem PTabs.low {w : World} {base : Nat} {key : Int} {hs : List Hd} {R : List (List Bk)} {B : Nat} (h : PTabs w base key hs R) (hB : B < base) (j : Nat) (u : Value) : PTabs (w.setCell ⟨B, j, none⟩ u) base key hs R :=
  ⟨h.1, fun i hi => by
    obtain ⟨o3, c3, hs8, e, h1, h2⟩ := h.2 i hi
    refine ⟨o3, c3, hs8, e, own_low h1 hB j u, h2.grown (grown_set w B j u) (fun q hq => ?_)⟩
    cases hob : (hv hs8 q).ownBlock with
    | none => exact .inl rfl
    | some b => exact .inr (fun e => by have := ((h2.row q hq).lt b hob).1; injection e with e; omega)⟩
theorem PTabs.mono {w : World} {base b2 : Nat} {key : Int} {hs : List Hd} {R : List (List Bk)} (h : PTabs w base key hs R) (hb : b2 ≤ base) : PTabs w b2 key hs R :=
  ⟨h.1, fun i hi => by obtain ⟨o3, c3, hs8, e, h1, h2⟩ := h.2 i hi; exact ⟨o3, c3, hs8, e, own_mono h1 hb, Tab.mono h2 hb⟩⟩
theorem PTabs.cons {w : World} {base : Nat} {key : Int} {hs hs8 : List Hd} {R : List (List Bk)} {m : List Bk} {o3 : Option Addr} {c3 : Nat} (h : PTabs w base key hs R) (h1 : ownL layH 43 w base (.slice o3 8 c3) hs8) (h2 : Tab (fun b => pairI key b m) 8 w base hs8) : PTabs w base key ((o3, 8, c3) :: hs) (m :: R) :=
  ⟨by simp [h.1], fun i hi => by
    cases i with
    | zero => exact ⟨o3, c3, hs8, rfl, h1, h2⟩
    | succ i => simpa using h.2 i (by simpa using hi)⟩
theorem PTabs.take {w : World} {base : Nat} {key : Int} {hs : List Hd} {R : List (List Bk)} (n : Nat) (h : PTabs w base key hs R) : PTabs w base key (hs.take n) (R.take n) :=
  ⟨by simp [h.1], fun i hi => by
    have h1 : i < n := by simp at hi; omega
    have h2 : i < R.length := by simp at hi; omega
    have e1 : (hs.take n).getD i (none, 0, 0) = hs.getD i (none, 0, 0) := by simp [List.getD_eq_getElem?_getD, List.getElem?_take, h1]
    have e2 : (R.take n).getD i [] = R.getD i [] := by simp [List.getD_eq_getElem?_getD, List.getElem?_take, h1]
    rw [e1, e2]; exact h.2 i h2⟩
theorem ptabs_next {w x : World} {base b2 : Nat} {key : Int} {hs hs8 : List Hd} {R : List (List Bk)} {m : List Bk} {o3 : Option Addr} {c3 : Nat} (h : PTabs w base key hs R) (hb : Below w.heap.size w x) (h1 : ownL layH 43 x b2 (.slice o3 8 c3) hs8) (h2 : Tab (fun b => pairI key b m) 8 x b2 hs8) (hle : base ≤ b2) : PTabs x base key (((o3, 8, c3) :: hs).take 3) ((m :: R).take 3) :=
  ((h.kept hb).cons (own_mono h1 hle) (Tab.mono h2 hle)).take 3
/-- Those who served at the last times, the latest first. -/
def ringR (cs : List Cd) : Nat → List (List Bk)
  | 0 => [[]]
  | t + 1 => (servedOf cs (t + 1) :: ringR cs t).take 3
theorem runTo_back {cs : List Cd} {t : Nat} (h : (runTo cs cs.length).isSome = true) (ht : t ≤ cs.length) : ∃ l, runTo cs t = some l := by
  cases hr : runTo cs t with
  | some l => exact ⟨l, rfl⟩
  | none => rw [runTo_none hr ht] at h; cases h
theorem runTo_step {cs : List Cd} {t : Nat} {l : List Bk} (h : (runTo cs cs.length).isSome = true) (ht : t < cs.length) (hl : runTo cs t = some l) : ∃ m, cmdOkB (cs.getD t (0, 0, 0)).1 (cs.getD t (0, 0, 0)).2.1 (cs.getD t (0, 0, 0)).2.2 = true ∧ doL l (cs.getD t (0, 0, 0)).1 (cs.getD t (0, 0, 0)).2.1 (cs.getD t (0, 0, 0)).2.2 = some m ∧ runTo cs (t + 1) = some m := by
  obtain ⟨m, hm⟩ := runTo_back h (show t + 1 ≤ cs.length by omega)
  have hs := runTo_succ ht
  rw [hm, hl] at hs
  simp only [stepO, Option.bind_some] at hs
  split at hs
  · next hc => exact ⟨m, hc, hs.symm, hm⟩
  · cases hs

set_option maxRecDepth 100000 in
set_option maxHeartbeats 16000000 in
theorem l4replay_go (key : Int) (b off cap : Nat) (cs : List Cd) (w : World) (hbl : cs.length ≠ 0 → b < w.heap.size) (hcell : ∀ i, i < cs.length → ∀ j, j < layC.k → w.cell? ⟨b, off + i * layC.k + j, none⟩ = (layC.cs (cs.getD i layC.d))[j]?) (hk : keyB key = true) (hl : cs.length ≤ 100) (hrun : (runTo cs cs.length).isSome = true) (ob : Option Addr) (hob : cs.length ≠ 0 → ob = some ⟨b, off, none⟩) :
    Calls Try.prog 97 #[.int .i64 key, .slice ob cs.length cap] w fun e w' => ∃ o c oR cR hs, e = .returned (plv key (.slice o (servedOf cs cs.length).length c) (.slice oR hs.length cR)) ∧ ownK w' w.heap.size (.slice o (servedOf cs cs.length).length c) (servedOf cs cs.length) ∧ ownL layH 37 w' w.heap.size (.slice oR hs.length cR) hs ∧ PTabs w' w.heap.size key hs (ringR cs cs.length) ∧ hs.length ≤ 3 ∧ Below w.heap.size w w' := by
  have HC := hide hcell
  have HOB := hide hob
  have HBL := hide hbl
  have HN := hide hl
  have HRUN := hide hrun
  clear hcell hob hbl hrun
  obtain ⟨W0, hW0⟩ : ∃ W, (w.alloc (.cells #[.int .i64 0, .slice none 0 0, .slice none 0 0] 26)) = W := ⟨_, rfl⟩
  have hb_W0 : Below w.heap.size w W0 := by rw [← hW0]; exact ((Below.refl _ _).alloc (Nat.le_refl _) _)
  have HB := hide hb_W0
  clear hb_W0
  have zr : w.heap.size < W0.heap.size := by rw [← hW0]; simp
  have r0 : W0.cell? ⟨w.heap.size, 0, none⟩ = some (.int .i64 0) := by rw [← hW0]; simp [go_sem]
  have r1 : W0.cell? ⟨w.heap.size, 1, none⟩ = some (.slice none 0 0) := by rw [← hW0]; simp [go_sem]
  have r2 : W0.cell? ⟨w.heap.size, 2, none⟩ = some (.slice none 0 0) := by rw [← hW0]; simp [go_sem]
  have fr0 : W0.frozen? ⟨w.heap.size, 0, none⟩ = false := by rw [← hW0]; simp [go_sem]
  have fr1 : W0.frozen? ⟨w.heap.size, 1, none⟩ = false := by rw [← hW0]; simp [go_sem]
  have fr2 : W0.frozen? ⟨w.heap.size, 2, none⟩ = false := by rw [← hW0]; simp [go_sem]
  have hz0 := zr
  have HL := hide (l4new_any key W0 hk)
  go_enter Try.func97, Try.ntmps97
  go_wp2_with fail
  refine (HL.out).mono ?_
  rintro e v1 ⟨gR, rfl, hring, hb⟩
  have HRG := hide hring
  have hs1 := hb.size
  clear hring
  replace r0 := bC hb r0 zr
  replace r1 := bC hb r1 zr
  replace r2 := bC hb r2 zr
  replace fr0 := bF hb fr0 zr
  replace fr1 := bF hb fr1 zr
  replace fr2 := bF hb fr2 zr
  replace zr := Nat.lt_of_lt_of_le zr hb.size
  replace HB := hide (HB.out.trans (hb.mono HB.out.size))
  clear hb
  have r0v := r0
  have r1v := r1
  have r2v := r2
  have f0v := fr0
  have f1v := fr1
  have f2v := fr2
  have zrv := zr
  have HB1 := HB
  obtain ⟨W1, hW1⟩ : ∃ W, (v1.alloc (.cells #[.int .i64 key, .slice none 0 0, .slice (some ⟨gR, 0, none⟩) 1 1] 26)) = W := ⟨_, rfl⟩
  have hb_W1 : Below v1.heap.size v1 W1 := by rw [← hW1]; exact ((Below.refl _ _).alloc (Nat.le_refl _) _)
  replace r0 := bC hb_W1 r0 zr
  replace r1 := bC hb_W1 r1 zr
  replace r2 := bC hb_W1 r2 zr
  replace fr0 := bF hb_W1 fr0 zr
  replace fr1 := bF hb_W1 fr1 zr
  replace fr2 := bF hb_W1 fr2 zr
  replace zr := Nat.lt_of_lt_of_le zr hb_W1.size
  replace HB := hide (HB.out.trans (hb_W1.mono HB.out.size))
  clear hb_W1
  have zp : v1.heap.size < W1.heap.size := by rw [← hW1]; simp
  have p0 : W1.cell? ⟨v1.heap.size, 0, none⟩ = some (.int .i64 key) := by rw [← hW1]; simp [go_sem]
  have p1 : W1.cell? ⟨v1.heap.size, 1, none⟩ = some (.slice none 0 0) := by rw [← hW1]; simp [go_sem]
  have p2 : W1.cell? ⟨v1.heap.size, 2, none⟩ = some (.slice (some ⟨gR, 0, none⟩) 1 1) := by rw [← hW1]; simp [go_sem]
  obtain ⟨o3, c3, hs3, rg1, rg2, rg3⟩ := HRG.out
  have hb1 : Below v1.heap.size v1 W1 := by rw [← hW1]; exact (Below.refl _ _).alloc (Nat.le_refl _) _
  have HP : Hid (PBox W1 W0.heap.size v1.heap.size key [] [(o3, 8, c3)] none 0 (some ⟨gR, 0, none⟩) 1) := ⟨by rw [← hW1]; exact World.alloc_heap_new v1 _, World.ownsRow_nil _ _ _ _, own_kept rg1 hb1⟩
  have HPT : Hid (PTabs W1 W0.heap.size key [(o3, 8, c3)] (ringR cs 0)) := (PTabs.cons (R := []) (hs := []) ⟨rfl, fun i hi => absurd hi (Nat.not_lt_zero _)⟩ rg2 rg3).kept hb1
  clear rg1 rg2 rg3 HRG hb1
  go_wp2
  go_loopw [6] (fun iv wr => ∃ (t : Nat) (l : List Bk) (hs : List Hd) (o : Option Addr) (c : Nat) (oR : Option Addr) (cR : Nat), t ≤ cs.length ∧ iv = .int .i64 (t : Int) ∧ Hid (PBox wr W0.heap.size v1.heap.size key l hs o c oR cR) ∧ Hid (PTabs wr W0.heap.size key hs (ringR cs t)) ∧ Hid (runTo cs t = some l) ∧ Hid (hs.length ≤ 3) ∧ Hid (Below v1.heap.size v1 wr))
    (fun iv _ => cs.length - (intOf iv).toNat)
  case atStart => exact ⟨0, [], _, _, _, _, _, Nat.zero_le _, rfl, HP.out, HPT.out, rfl, (Nat.le_of_ble_eq_true rfl), by rw [← hW1]; exact (Below.refl _ _).alloc (Nat.le_refl _) _⟩
  case round =>
    obtain ⟨t, l, hs, o, c, oR, cR, htl, rfl, HPB, HPTB, HRT, HS3, HBR⟩ := hrel
    have hv1 := HBR.out.size
    clear r0 r1 r2 fr0 fr1 fr2 zr p0 p1 p2 zp hW0 hW1 HP HPT HB
    have HBB : Hid (Below w.heap.size w wr) := HB1.out.trans (HBR.out.mono HB1.out.size)
    have hpz : v1.heap.size < wr.heap.size := (Array.getElem?_eq_some_iff.1 HPB.out.box).1
    by_cases hlt : t < cs.length
    · skip
      have hlt' : (t : Int) < (cs.length : Int) := by omega
      have ht0 : (0 : Int) ≤ (t : Int) := by omega
      have hob := HOB.out (by omega)
      have hbl := HBL.out (by omega)
      subst hob
      obtain ⟨hbo, hll⟩ := runTo_ok t l (by omega) HRT.out
      obtain ⟨m, hc, hdo, hnx⟩ := runTo_step HRUN.out hlt HRT.out
      obtain ⟨c0, c1, c2⟩ := RdL.cmd (C := w.heap.size) HC.out t hlt
      replace c0 := (HBB.out.cell (p := ⟨b, off + t * 3, none⟩) hbl).trans c0
      replace c1 := (HBB.out.cell (p := ⟨b, off + t * 3 + 1, none⟩) hbl).trans c1
      replace c2 := (HBB.out.cell (p := ⟨b, off + t * 3 + 2, none⟩) hbl).trans c2
      obtain ⟨x, y, u, hxyu⟩ : ∃ x y u, cs.getD t (0, 0, 0) = (x, y, u) := ⟨_, _, _, rfl⟩
      rw [hxyu] at c0 c1 c2 hc hdo
      dsimp only at c0 c1 c2 hc hdo
      clear hxyu
      have HNX := hide hnx
      have HRN := hide (show ringR cs (t + 1) = (m :: ringR cs t).take 3 by rw [ringR]; unfold servedOf; rw [hnx]; rfl)
      clear hnx
      have hs3 := HS3.out
      have hbz : b < wr.heap.size := by have := HBB.out.size; omega
      have hbp : b < v1.heap.size := by have := HB1.out.size; omega
      have HRB := hide (ownL.rds (L := layK) HPB.out.backs)
      have HRR := hide (ownL.rds (L := layH) HPB.out.ring)
      have hcr := capH HPB.out.ring
      have HY := hide (fun W (hb : Below wr.heap.size wr W) => l4do_yes key o c l oR cR hs x y u m W hk hbo hc hdo (by have := HN.out; omega) ((HRB.out.kept hb (Nat.le_refl _)).le hb.size) ((HRR.out.kept hb (Nat.le_refl _)).le hb.size) hcr hs3)
      clear hc hdo hcr HRB HRR
      have p0 : wr.cell? ⟨v1.heap.size, 0, none⟩ = some (.int .i64 key) := bx_cell HPB.out.box 0 _ rfl
      have p1 : wr.cell? ⟨v1.heap.size, 1, none⟩ = some (.slice o l.length c) := bx_cell HPB.out.box 1 _ rfl
      have p2 : wr.cell? ⟨v1.heap.size, 2, none⟩ = some (.slice oR hs.length cR) := bx_cell HPB.out.box 2 _ rfl
      have hW0v : W0.heap.size ≤ wr.heap.size := by omega
      go_wp2
      go_region_with (first | (go_at_call 74; have hc_ := HY.out wr.drew (Below.drew (Below.refl _ _)); with_reducible refine hc_.mono ?_; clear hc_; rintro e x0 ⟨o2, d2, oR2, n2, dR2, o3, d3, hs3', rfl, hn2, ow2, owR, ow3, tb3, hb⟩; have hp0 : Below wr.heap.size wr x0 := Below.trans (show Below wr.heap.size wr wr.drew from Below.drew (Below.refl _ _)) (hb.mono (by simp)); have sp0 := hp0.size; have ow2 := own_mono ow2 (show W0.heap.size ≤ _ by (try simp) <;> omega); have owR := own_mono owR (show W0.heap.size ≤ _ by (try simp) <;> omega); have pt := ptabs_next HPTB.out hp0 ow3 tb3 (show W0.heap.size ≤ _ by (try simp) <;> omega); rw [← HRN.out] at pt; have hl3 := List.length_take_le 3 ((o3, 8, d3) :: hs); generalize List.take 3 ((o3, 8, d3) :: hs) = hs2 at hn2 owR hl3 pt; subst hn2; have k0 := bC hp0 c0 hbz; have k1 := bC hp0 c1 hbz; have k2 := bC hp0 c2 hbz; have hbx := (hp0.block v1.heap.size hpz).trans HPB.out.box; have pc0 : x0.cell? ⟨v1.heap.size, 0, none⟩ = some (.int .i64 key) := bx_cell hbx 0 _ rfl; have pf0 := bx_frozen hbx 0; have pc1 : x0.cell? ⟨v1.heap.size, 1, none⟩ = some (.slice o l.length c) := bx_cell hbx 1 _ rfl; have pf1 := bx_frozen hbx 1; have pc2 : x0.cell? ⟨v1.heap.size, 2, none⟩ = some (.slice oR hs.length cR) := bx_cell hbx 2 _ rfl; have pf2 := bx_frozen hbx 2; have s0 : (((x0.setCell ⟨v1.heap.size, 0, none⟩ (.int .i64 key)).setCell ⟨v1.heap.size, 1, none⟩ (.slice o2 m.length d2)).setCell ⟨v1.heap.size, 2, none⟩ (.slice oR2 hs2.length dR2)).cell? ⟨b, off + t * 3, none⟩ = some (.int .i64 x) := setP_cell k0 hbp; have s1 : (((x0.setCell ⟨v1.heap.size, 0, none⟩ (.int .i64 key)).setCell ⟨v1.heap.size, 1, none⟩ (.slice o2 m.length d2)).setCell ⟨v1.heap.size, 2, none⟩ (.slice oR2 hs2.length dR2)).cell? ⟨b, off + t * 3 + 1, none⟩ = some (.int .i64 y) := setP_cell k1 hbp; have s2 : (((x0.setCell ⟨v1.heap.size, 0, none⟩ (.int .i64 key)).setCell ⟨v1.heap.size, 1, none⟩ (.slice o2 m.length d2)).setCell ⟨v1.heap.size, 2, none⟩ (.slice oR2 hs2.length dR2)).cell? ⟨b, off + t * 3 + 2, none⟩ = some (.int .i64 u) := setP_cell k2 hbp; have HPN := hide (PBox.set (key := key) hbx rfl ow2 owR rfl); have HPTN := hide (PTabs.setP pt hbx (.int .i64 key) (.slice o2 m.length d2) (.slice oR2 hs2.length dR2)); have HL3 := hide hl3; have HP0 := hide hp0; clear hb ow2 owR ow3 tb3 pt hl3 hp0 hbx))
      all_goals (have HBN := hide (setP_below (HBR.out.trans (HP0.out.mono hv1)) (Nat.le_refl _) (.int .i64 key) (.slice o2 m.length d2) (.slice oR2 hs2.length dR2)); go_wp2; go_roundw; (case rel => exact ⟨t + 1, m, hs2, o2, d2, oR2, dR2, by omega, by go_num, HPN.out, HPTN.out, HNX.out, HL3.out, HBN.out⟩); (case measure => (simp [intOf]; omega)))
    · have e : t = cs.length := by omega
      subst e
      have hlz : ¬ ((cs.length : Int) < (cs.length : Int)) := by omega
      have hsv : servedOf cs cs.length = l := by unfold servedOf; rw [HRT.out]; rfl
      have HSV := hide hsv
      clear hsv
      have p0 : wr.cell? ⟨v1.heap.size, 0, none⟩ = some (.int .i64 key) := bx_cell HPB.out.box 0 _ rfl
      have p1 : wr.cell? ⟨v1.heap.size, 1, none⟩ = some (.slice o l.length c) := bx_cell HPB.out.box 1 _ rfl
      have p2 : wr.cell? ⟨v1.heap.size, 2, none⟩ = some (.slice oR hs.length cR) := bx_cell HPB.out.box 2 _ rfl
      have q0 := bC HBR.out r0v zrv
      have fq0 := bF HBR.out f0v zrv
      have q1 := bC HBR.out r1v zrv
      have fq1 := bF HBR.out f1v zrv
      have q2 := bC HBR.out r2v zrv
      have fq2 := bF HBR.out f2v zrv
      go_wp2
      refine bodyPost_ret (v := plv key (.slice o l.length c) (.slice oR hs.length cR)) (by simp [results, Try.results97, go_sem, q0, q1, q2]) rfl ⟨o, c, oR, cR, hs, by rw [HSV.out], ?_, ?_, ?_, HS3.out, setP_below HBB.out (Nat.le_refl _) _ _ _⟩
      · rw [HSV.out]; exact own_mono (own_low (own_low (own_low HPB.out.backs hz0 0 _) hz0 1 _) hz0 2 _) (by omega)
      · exact own_mono (own_low (own_low (own_low HPB.out.ring hz0 0 _) hz0 1 _) hz0 2 _) (by omega)
      · exact PTabs.mono (((HPTB.out.low hz0 0 _).low hz0 1 _).low hz0 2 _) (by omega)

end Go.Proofs.Ytldjaapbkihibaa

/- Note, on both sides. -/
namespace Go.Proofs.Ytldjaapbkihibaa
open Go.ChangeShapes Go.WideShapes Go.ChangeAt Go.RowKit Go.Joins
set_option linter.unusedVariables false
set_option linter.unusedSimpArgs false

def noteD (key : Int) (l : List Cd) (k i g : Int) : Bool := (doL (servedOf l l.length) k i g).isSome && !decide (100 ≤ l.length)
def noteB (m : Jm) (k i g : Int) : Bool := journalB m.key m.l m.safe && cmdOkB k i g
/-- What Note tells. -/
def noteM (m : Jm) (k i g : Int) : Jm := if noteB m k i g = true then (if noteD m.key m.l k i g = true then ⟨m.key, m.l ++ [(k, i, g)], (m.l.length : Int) + 1⟩ else m) else jm0
def noteF (m : Jm) (k i g : Int) : Bool := noteB m k i g && noteD m.key m.l k i g
theorem noteM_fit {m : Jm} (k i g : Int) (h : fitJm m) : (noteM m k i g).l.length ≤ 1048576 := by
  unfold noteM
  split
  · split
    · next hb hd =>
      unfold noteB at hb
      simp only [Bool.and_eq_true] at hb
      have := (journal_facts hb.1).2.1
      simp; omega
    · exact h
  · decide
theorem rd_oneC {w : World} {x y z : Int} {T : TypeId} : RdC (w.alloc (.cells #[.int .i64 x, .int .i64 y, .int .i64 z] T)).heap.size (w.alloc (.cells #[.int .i64 x, .int .i64 y, .int .i64 z] T)) (some ⟨w.heap.size, 0, none⟩) [(x, y, z)] :=
  .inr ⟨w.heap.size, 0, rfl, by simp, fun i hi j hj => by
    have e1 : i = 0 := by simpa using hi
    subst e1
    match j, hj with
    | 0, _ => simp [layC]
    | 1, _ => simp [layC]
    | 2, _ => simp [layC]⟩
theorem journal_run {key : Int} {cs : List Cd} {safe : Int} (h : journalB key cs safe = true) : (runTo cs cs.length).isSome = true := by
  unfold journalB at h
  simp only [Bool.and_eq_true] at h
  exact h.2
theorem served_facts {key : Int} {cs : List Cd} {safe : Int} (h : journalB key cs safe = true) : backsOkB (servedOf cs cs.length) = true ∧ (servedOf cs cs.length).length ≤ 100 := by
  obtain ⟨l, hl⟩ := runTo_back (journal_run h) (Nat.le_refl _)
  have h1 := runTo_ok cs.length l (Nat.le_refl _) hl
  have h2 := (journal_facts h).2.1
  unfold servedOf
  rw [hl]
  exact ⟨h1.1, by simp only [Option.getD_some]; omega⟩
theorem l4replay_any (key : Int) (o : Option Addr) (cap : Nat) (cs : List Cd) (w : World) (hR : RdC w.heap.size w o cs) (hk : keyB key = true) (hl : cs.length ≤ 100) (hrun : (runTo cs cs.length).isSome = true) :
    Calls Try.prog 97 #[.int .i64 key, .slice o cs.length cap] w fun e w' => ∃ o c oR cR hs, e = .returned (plv key (.slice o (servedOf cs cs.length).length c) (.slice oR hs.length cR)) ∧ ownK w' w.heap.size (.slice o (servedOf cs cs.length).length c) (servedOf cs cs.length) ∧ ownL layH 37 w' w.heap.size (.slice oR hs.length cR) hs ∧ PTabs w' w.heap.size key hs (ringR cs cs.length) ∧ hs.length ≤ 3 ∧ Below w.heap.size w w' := by
  rcases hR with hR | ⟨b, off, rfl, hbl, hcell⟩
  · subst hR
    exact l4replay_go key 0 0 cap [] w (fun h => absurd rfl h) (fun i hi => absurd hi (Nat.not_lt_zero _)) hk hl hrun o (fun h => absurd rfl h)
  · exact l4replay_go key b off cap cs w (fun _ => hbl) hcell hk hl hrun _ (fun _ => rfl)

set_option maxRecDepth 100000 in
set_option maxHeartbeats 4000000 in
theorem cloneJournal_any (key safe : Int) (o : Option Addr) (cap : Nat) (l : List Cd) (w : World) (hR : RdC w.heap.size w o l) (hn : o = none → cap = 0) (hl : l.length ≤ 1048576) :
    Calls Try.prog 80 #[jrn key (.slice o l.length cap) safe] w fun e w' => ∃ o2 c2, e = .returned (jrn key (.slice o2 l.length c2) safe) ∧ ownC w' w.heap.size (.slice o2 l.length c2) l ∧ Below w.heap.size w w' := by
  obtain ⟨W0, hW0⟩ : ∃ W, ((w.alloc (.cells #[.int .i64 key, .slice o l.length cap, .int .i64 safe] 47)).alloc (.cells #[.int .i64 0, .slice none 0 0, .int .i64 0] 47)) = W := ⟨_, rfl⟩
  have hb_W0 : Below w.heap.size w W0 := by rw [← hW0]; exact (((Below.refl _ _).alloc (Nat.le_refl _) _).alloc (by simp <;> omega) _)
  have HB := hide hb_W0
  clear hb_W0
  have zz : w.heap.size < W0.heap.size := by rw [← hW0]; simp <;> omega
  have z0 : W0.cell? ⟨w.heap.size, 0, none⟩ = some (.int .i64 key) := by rw [← hW0]; simp [go_sem]
  have z1 : W0.cell? ⟨w.heap.size, 1, none⟩ = some (.slice o l.length cap) := by rw [← hW0]; simp [go_sem]
  have z2 : W0.cell? ⟨w.heap.size, 2, none⟩ = some (.int .i64 safe) := by rw [← hW0]; simp [go_sem]
  have fz0 : W0.frozen? ⟨w.heap.size, 0, none⟩ = false := by rw [← hW0]; simp [go_sem]
  have fz1 : W0.frozen? ⟨w.heap.size, 1, none⟩ = false := by rw [← hW0]; simp [go_sem]
  have fz2 : W0.frozen? ⟨w.heap.size, 2, none⟩ = false := by rw [← hW0]; simp [go_sem]
  have zr : w.heap.size + 1 < W0.heap.size := by rw [← hW0]; simp
  have r0 : W0.cell? ⟨w.heap.size + 1, 0, none⟩ = some (.int .i64 0) := by rw [← hW0]; simp [go_sem]
  have r1 : W0.cell? ⟨w.heap.size + 1, 1, none⟩ = some (.slice none 0 0) := by rw [← hW0]; simp [go_sem]
  have r2 : W0.cell? ⟨w.heap.size + 1, 2, none⟩ = some (.int .i64 0) := by rw [← hW0]; simp [go_sem]
  have fr0 : W0.frozen? ⟨w.heap.size + 1, 0, none⟩ = false := by rw [← hW0]; simp [go_sem]
  have fr1 : W0.frozen? ⟨w.heap.size + 1, 1, none⟩ = false := by rw [← hW0]; simp [go_sem]
  have fr2 : W0.frozen? ⟨w.heap.size + 1, 2, none⟩ = false := by rw [← hW0]; simp [go_sem]
  have hzr := zr
  have HCL := hide (cloneN_any o cap l l.length rfl W0 ((hR.kept HB.out (Nat.le_refl _)).le HB.out.size) hn hl)
  clear hR
  go_enter Try.func80, Try.ntmps80
  go_wp2_with fail
  refine (HCL.out).mono ?_
  rintro e v1 ⟨o2, c2, rfl, ow2, hb⟩
  have HO := hide ow2
  have hs1 := hb.size
  clear ow2
  replace z0 := bC hb z0 zz
  replace z1 := bC hb z1 zz
  replace z2 := bC hb z2 zz
  replace fz0 := bF hb fz0 zz
  replace fz1 := bF hb fz1 zz
  replace fz2 := bF hb fz2 zz
  replace zz := Nat.lt_of_lt_of_le zz hb.size
  replace r0 := bC hb r0 zr
  replace r1 := bC hb r1 zr
  replace r2 := bC hb r2 zr
  replace fr0 := bF hb fr0 zr
  replace fr1 := bF hb fr1 zr
  replace fr2 := bF hb fr2 zr
  replace zr := Nat.lt_of_lt_of_le zr hb.size
  replace HB := hide (HB.out.trans (hb.mono HB.out.size))
  clear hb
  have hzz : w.heap.size < W0.heap.size := by omega
  go_wp2
  refine bodyPost_ret (v := jrn key (.slice o2 l.length c2) safe) (by simp [results, Try.results80, go_sem, r0, r1, r2]) rfl ⟨o2, c2, rfl, own_mono (own_low (own_low (own_low (own_low HO.out hzz 1 _) hzr 0 _) hzr 1 _) hzr 2 _) (by omega), setP_below (HB.out.setCell (p := ⟨w.heap.size, 1, none⟩) (Nat.le_refl _) _) (Nat.le_succ _) _ _ _⟩

set_option maxRecDepth 100000 in
set_option maxHeartbeats 16000000 in
theorem implNote_sh (v : Value) (m : Jm) (k i g : Int) (w : World) (hR : RdJm w.heap.size w v m) (hcp : capJm v) (hf : fitJm m) :
    Calls Try.prog 30 #[v, cmd k i g] w fun e w' => ∃ v', e = .returned (.tuple #[v', .bool (noteF m k i g)]) ∧ InJm w.heap.size w'.heap.size w' v' (noteM m k i g) ∧ Below w.heap.size w w' := by
  have hR0 := hR
  obtain ⟨vl, rfl, ⟨o, c, rfl, r⟩⟩ := hR0
  have hcap := hcp.one
  clear hcp
  obtain ⟨key, l, safe⟩ := m
  dsimp only at *
  have HNM := hide (show noteM ⟨key, l, safe⟩ k i g = if (journalB key l safe && cmdOkB k i g) = true then (if noteD key l k i g = true then ⟨key, l ++ [(k, i, g)], (l.length : Int) + 1⟩ else ⟨key, l, safe⟩) else jm0 from rfl)
  have HNF := hide (show noteF ⟨key, l, safe⟩ k i g = ((journalB key l safe && cmdOkB k i g) && noteD key l k i g) from rfl)
  have HND := hide (show noteD key l k i g = ((doL (servedOf l l.length) k i g).isSome && !decide (100 ≤ l.length)) from rfl)
  have HFA := hide (fun h : journalB key l safe = true => And.intro (journal_facts h) (And.intro (journal_run h) (served_facts h)))
  unfold fitJm at hf
  dsimp only at hf
  obtain ⟨W0, hW0⟩ : ∃ W, (((w.alloc (.cells #[.int .i64 key, .slice o l.length c, .int .i64 safe] 47)).alloc (.cells #[.int .i64 k, .int .i64 i, .int .i64 g] 28)).alloc (.cells #[.int .i64 0, .slice none 0 0, .int .i64 0] 47)) = W := ⟨_, rfl⟩
  have hb_W0 : Below w.heap.size w W0 := by rw [← hW0]; exact ((((Below.refl _ _).alloc (Nat.le_refl _) _).alloc (by simp <;> omega) _).alloc (by simp <;> omega) _)
  have HB := hide hb_W0
  clear hb_W0
  have zz : w.heap.size < W0.heap.size := by rw [← hW0]; simp <;> omega
  have z0 : W0.cell? ⟨w.heap.size, 0, none⟩ = some (.int .i64 key) := by rw [← hW0]; simp [go_sem]
  have z1 : W0.cell? ⟨w.heap.size, 1, none⟩ = some (.slice o l.length c) := by rw [← hW0]; simp [go_sem]
  have z2 : W0.cell? ⟨w.heap.size, 2, none⟩ = some (.int .i64 safe) := by rw [← hW0]; simp [go_sem]
  have zu : w.heap.size + 1 < W0.heap.size := by rw [← hW0]; simp <;> omega
  have u0 : W0.cell? ⟨w.heap.size + 1, 0, none⟩ = some (.int .i64 k) := by rw [← hW0]; simp [go_sem]
  have u1 : W0.cell? ⟨w.heap.size + 1, 1, none⟩ = some (.int .i64 i) := by rw [← hW0]; simp [go_sem]
  have u2 : W0.cell? ⟨w.heap.size + 1, 2, none⟩ = some (.int .i64 g) := by rw [← hW0]; simp [go_sem]
  have zr : w.heap.size + 1 + 1 < W0.heap.size := by rw [← hW0]; simp
  have r0 : W0.cell? ⟨w.heap.size + 1 + 1, 0, none⟩ = some (.int .i64 0) := by rw [← hW0]; simp [go_sem]
  have r1 : W0.cell? ⟨w.heap.size + 1 + 1, 1, none⟩ = some (.slice none 0 0) := by rw [← hW0]; simp [go_sem]
  have r2 : W0.cell? ⟨w.heap.size + 1 + 1, 2, none⟩ = some (.int .i64 0) := by rw [← hW0]; simp [go_sem]
  have fr0 : W0.frozen? ⟨w.heap.size + 1 + 1, 0, none⟩ = false := by rw [← hW0]; simp [go_sem]
  have fr1 : W0.frozen? ⟨w.heap.size + 1 + 1, 1, none⟩ = false := by rw [← hW0]; simp [go_sem]
  have fr2 : W0.frozen? ⟨w.heap.size + 1 + 1, 2, none⟩ = false := by rw [← hW0]; simp [go_sem]
  have hzr := zr
  have HTU := hide (turns_any key safe o c l W0 ((r.kept HB.out (Nat.le_refl _)).le HB.out.size) hf)
  have HDE := hide (fun W => deedOf_any k i g W)
  have HRL := hide r
  clear r hR
  cases hj : journalB key l safe with
  | false =>
    rw [hj] at HTU HNM HNF
    clear HFA hj
    generalize cmdOkB k i g = ck at *
    go_enter Try.func30, Try.ntmps30
    go_wp2_with fail
    refine (HTU.out).mono ?_
    rintro e v1 ⟨v9, rfl, _, hb⟩
    replace z0 := bC hb z0 zz
    replace z1 := bC hb z1 zz
    replace z2 := bC hb z2 zz
    replace zz := Nat.lt_of_lt_of_le zz hb.size
    replace u0 := bC hb u0 zu
    replace u1 := bC hb u1 zu
    replace u2 := bC hb u2 zu
    replace zu := Nat.lt_of_lt_of_le zu hb.size
    replace r0 := bC hb r0 zr
    replace r1 := bC hb r1 zr
    replace r2 := bC hb r2 zr
    replace fr0 := bF hb fr0 zr
    replace fr1 := bF hb fr1 zr
    replace fr2 := bF hb fr2 zr
    replace zr := Nat.lt_of_lt_of_le zr hb.size
    replace HB := hide (HB.out.trans (hb.mono HB.out.size))
    clear hb
    go_wp2_with fail
    refine (HDE.out v1).mono ?_
    rintro e v2 ⟨rfl, hb⟩
    replace z0 := bC hb z0 zz
    replace z1 := bC hb z1 zz
    replace z2 := bC hb z2 zz
    replace zz := Nat.lt_of_lt_of_le zz hb.size
    replace u0 := bC hb u0 zu
    replace u1 := bC hb u1 zu
    replace u2 := bC hb u2 zu
    replace zu := Nat.lt_of_lt_of_le zu hb.size
    replace r0 := bC hb r0 zr
    replace r1 := bC hb r1 zr
    replace r2 := bC hb r2 zr
    replace fr0 := bF hb fr0 zr
    replace fr1 := bF hb fr1 zr
    replace fr2 := bF hb fr2 zr
    replace zr := Nat.lt_of_lt_of_le zr hb.size
    replace HB := hide (HB.out.trans (hb.mono HB.out.size))
    clear hb
    generalize (if ck = true then deedV k i g else .nilIface) = dv
    go_wp2
    refine bodyPost_ret (v := .tuple #[jrn 0 (.slice none 0 0) 0, .bool false]) (by simp [results, Try.results30, go_sem, r0, r1, r2]) rfl ⟨jrn 0 (.slice none 0 0) 0, by rw [HNF.out]; simp, ?_, setP_below HB.out (by omega) _ _ _⟩
    rw [HNM.out, if_neg (by simp)]
    exact ⟨_, rfl, World.ownsRow_nil _ _ _ _, fun b e => by cases e⟩
  | true =>
    obtain ⟨⟨hk, hl, h0, h1⟩, hrun, hbo, hsl⟩ := HFA.out hj
    rw [hj] at HTU HNM HNF
    clear HFA hj
    cases hc : cmdOkB k i g with
    | false =>
      rw [hc] at HDE HNM HNF
      simp only [Bool.false_eq_true, if_false] at HDE
      go_enter Try.func30, Try.ntmps30
      go_wp2_with fail
      refine (HTU.out).mono ?_
      rintro e v1 ⟨v9, rfl, _, hb⟩
      replace z0 := bC hb z0 zz
      replace z1 := bC hb z1 zz
      replace z2 := bC hb z2 zz
      replace zz := Nat.lt_of_lt_of_le zz hb.size
      replace u0 := bC hb u0 zu
      replace u1 := bC hb u1 zu
      replace u2 := bC hb u2 zu
      replace zu := Nat.lt_of_lt_of_le zu hb.size
      replace r0 := bC hb r0 zr
      replace r1 := bC hb r1 zr
      replace r2 := bC hb r2 zr
      replace fr0 := bF hb fr0 zr
      replace fr1 := bF hb fr1 zr
      replace fr2 := bF hb fr2 zr
      replace zr := Nat.lt_of_lt_of_le zr hb.size
      replace HB := hide (HB.out.trans (hb.mono HB.out.size))
      clear hb
      go_wp2_with fail
      refine (HDE.out v1).mono ?_
      rintro e v2 ⟨rfl, hb⟩
      replace z0 := bC hb z0 zz
      replace z1 := bC hb z1 zz
      replace z2 := bC hb z2 zz
      replace zz := Nat.lt_of_lt_of_le zz hb.size
      replace u0 := bC hb u0 zu
      replace u1 := bC hb u1 zu
      replace u2 := bC hb u2 zu
      replace zu := Nat.lt_of_lt_of_le zu hb.size
      replace r0 := bC hb r0 zr
      replace r1 := bC hb r1 zr
      replace r2 := bC hb r2 zr
      replace fr0 := bF hb fr0 zr
      replace fr1 := bF hb fr1 zr
      replace fr2 := bF hb fr2 zr
      replace zr := Nat.lt_of_lt_of_le zr hb.size
      replace HB := hide (HB.out.trans (hb.mono HB.out.size))
      clear hb
      go_wp2
      refine bodyPost_ret (v := .tuple #[jrn 0 (.slice none 0 0) 0, .bool false]) (by simp [results, Try.results30, go_sem, r0, r1, r2]) rfl ⟨jrn 0 (.slice none 0 0) 0, by rw [HNF.out]; simp, ?_, setP_below HB.out (by omega) _ _ _⟩
      rw [HNM.out, if_neg (by simp)]
      exact ⟨_, rfl, World.ownsRow_nil _ _ _ _, fun b e => by cases e⟩
    | true =>
      have HBA := hide (fun o c W h1 h2 => backsAfter_any o c (servedOf l l.length) k i g W h1 h2 (by omega) hc)
      rw [hc] at HDE HNM HNF
      simp only [if_true] at HDE
      generalize deedV k i g = dv at *
      obtain ⟨sv, hsv⟩ : ∃ s, servedOf l l.length = s := ⟨_, rfl⟩
      rw [hsv] at HBA HND hbo hsl
      have HSV := hide hsv
      clear hc hsv
      go_enter Try.func30, Try.ntmps30
      go_wp2_with fail
      refine (HTU.out).mono ?_
      rintro e v1 ⟨v9, rfl, hown9, hb⟩
      obtain ⟨hs, ho9, hs9⟩ := hown9 (by simp)
      have HO9 := hide ho9
      have HS9 := hide hs9
      have hs1 := hb.size
      clear hown9 ho9 hs9
      replace z0 := bC hb z0 zz
      replace z1 := bC hb z1 zz
      replace z2 := bC hb z2 zz
      replace zz := Nat.lt_of_lt_of_le zz hb.size
      replace u0 := bC hb u0 zu
      replace u1 := bC hb u1 zu
      replace u2 := bC hb u2 zu
      replace zu := Nat.lt_of_lt_of_le zu hb.size
      replace r0 := bC hb r0 zr
      replace r1 := bC hb r1 zr
      replace r2 := bC hb r2 zr
      replace fr0 := bF hb fr0 zr
      replace fr1 := bF hb fr1 zr
      replace fr2 := bF hb fr2 zr
      replace zr := Nat.lt_of_lt_of_le zr hb.size
      replace HB := hide (HB.out.trans (hb.mono HB.out.size))
      clear hb
      have HLN := hide HS9.out.len
      obtain ⟨g9, c9, e9⟩ := own_someH HO9.out (by rw [HLN.out]; omega)
      subst e9
      go_wp2_with fail
      refine (HDE.out v1).mono ?_
      rintro e v2 ⟨rfl, hb⟩
      have hs2 := hb.size
      replace z0 := bC hb z0 zz
      replace z1 := bC hb z1 zz
      replace z2 := bC hb z2 zz
      replace zz := Nat.lt_of_lt_of_le zz hb.size
      replace u0 := bC hb u0 zu
      replace u1 := bC hb u1 zu
      replace u2 := bC hb u2 zu
      replace zu := Nat.lt_of_lt_of_le zu hb.size
      replace r0 := bC hb r0 zr
      replace r1 := bC hb r1 zr
      replace r2 := bC hb r2 zr
      replace fr0 := bF hb fr0 zr
      replace fr1 := bF hb fr1 zr
      replace fr2 := bF hb fr2 zr
      replace zr := Nat.lt_of_lt_of_le zr hb.size
      replace HS9 := hide (HS9.out.kept hb)
      replace HO9 := hide (own_kept HO9.out hb)
      replace HB := hide (HB.out.trans (hb.mono HB.out.size))
      clear hb
      have HCJ := hide (cloneJournal_any key safe o c l v2 ((HRL.out.kept HB.out (Nat.le_refl _)).le HB.out.size) hcap hf)
      go_wp2_with fail
      refine (HCJ.out).mono ?_
      rintro e v3 ⟨o2, c2, rfl, ow2, hb⟩
      have HOX := hide ow2
      have hs3 := hb.size
      clear ow2
      replace z0 := bC hb z0 zz
      replace z1 := bC hb z1 zz
      replace z2 := bC hb z2 zz
      replace zz := Nat.lt_of_lt_of_le zz hb.size
      replace u0 := bC hb u0 zu
      replace u1 := bC hb u1 zu
      replace u2 := bC hb u2 zu
      replace zu := Nat.lt_of_lt_of_le zu hb.size
      replace r0 := bC hb r0 zr
      replace r1 := bC hb r1 zr
      replace r2 := bC hb r2 zr
      replace fr0 := bF hb fr0 zr
      replace fr1 := bF hb fr1 zr
      replace fr2 := bF hb fr2 zr
      replace zr := Nat.lt_of_lt_of_le zr hb.size
      replace HS9 := hide (HS9.out.kept hb)
      replace HO9 := hide (own_kept HO9.out hb)
      replace HB := hide (HB.out.trans (hb.mono HB.out.size))
      clear hb
      have HLTX := hide (fun b (e : (Value.slice o2 l.length c2).ownBlock = some b) => (HOX.out.lt b e).2)
      obtain ⟨W4, hW4⟩ : ∃ W, (v3.alloc (.cells #[.int .i64 key, .slice o2 l.length c2, .int .i64 safe] 47)) = W := ⟨_, rfl⟩
      have hb_W4 : Below v3.heap.size v3 W4 := by rw [← hW4]; exact ((Below.refl _ _).alloc (Nat.le_refl _) _)
      replace z0 := bC hb_W4 z0 zz
      replace z1 := bC hb_W4 z1 zz
      replace z2 := bC hb_W4 z2 zz
      replace zz := Nat.lt_of_lt_of_le zz hb_W4.size
      replace u0 := bC hb_W4 u0 zu
      replace u1 := bC hb_W4 u1 zu
      replace u2 := bC hb_W4 u2 zu
      replace zu := Nat.lt_of_lt_of_le zu hb_W4.size
      replace r0 := bC hb_W4 r0 zr
      replace r1 := bC hb_W4 r1 zr
      replace r2 := bC hb_W4 r2 zr
      replace fr0 := bF hb_W4 fr0 zr
      replace fr1 := bF hb_W4 fr1 zr
      replace fr2 := bF hb_W4 fr2 zr
      replace zr := Nat.lt_of_lt_of_le zr hb_W4.size
      replace HS9 := hide (HS9.out.kept hb_W4)
      replace HO9 := hide (own_kept HO9.out hb_W4)
      replace HOX := hide (own_kept HOX.out hb_W4)
      replace HB := hide (HB.out.trans (hb_W4.mono HB.out.size))
      clear hb_W4
      have zx : v3.heap.size < W4.heap.size := by rw [← hW4]; simp
      have x0 : W4.cell? ⟨v3.heap.size, 0, none⟩ = some (.int .i64 key) := by rw [← hW4]; simp [go_sem]
      have x1 : W4.cell? ⟨v3.heap.size, 1, none⟩ = some (.slice o2 l.length c2) := by rw [← hW4]; simp [go_sem]
      have x2 : W4.cell? ⟨v3.heap.size, 2, none⟩ = some (.int .i64 safe) := by rw [← hW4]; simp [go_sem]
      have hx4 : W4.heap[v3.heap.size]? = some (.cells #[.int .i64 key, .slice o2 l.length c2, .int .i64 safe] 47 (0, 0)) := by rw [← hW4]; exact World.alloc_heap_new v3 _
      have hs4 : v3.heap.size < W4.heap.size := zx
      obtain ⟨o', c', e', hr'⟩ := ownL.open (L := layK) (HS9.out.row l.length (by omega))
      have hown := HS9.out.row l.length (by omega)
      rw [HSV.out] at e' hr' hown
      rw [e'] at hown
      have hcl := head_cell HO9.out l.length (by rw [HLN.out]; omega)
      rw [e'] at hcl
      have hnk : (l.length : Int) < (hs.length : Int) := by have := HLN.out; omega
      have HA2 := hide (HBA.out o' c' W4 hr' (own_capK hown))
      clear hr' hown e' HBA
      cases hdo : doL sv k i g with
      | none =>
        rw [hdo] at HA2 HND
        simp only [Option.isSome_none] at HA2
        have HNDl := hide (show noteD key l k i g = false by rw [HND.out]; rfl)
        clear hdo
        go_wp2_with fail
        refine (HA2.out).mono ?_
        rintro e v4 ⟨v5, rfl, _, hb⟩
        have hs5 := hb.size
        replace z0 := bC hb z0 zz
        replace z1 := bC hb z1 zz
        replace z2 := bC hb z2 zz
        replace zz := Nat.lt_of_lt_of_le zz hb.size
        replace u0 := bC hb u0 zu
        replace u1 := bC hb u1 zu
        replace u2 := bC hb u2 zu
        replace zu := Nat.lt_of_lt_of_le zu hb.size
        replace r0 := bC hb r0 zr
        replace r1 := bC hb r1 zr
        replace r2 := bC hb r2 zr
        replace fr0 := bF hb fr0 zr
        replace fr1 := bF hb fr1 zr
        replace fr2 := bF hb fr2 zr
        replace zr := Nat.lt_of_lt_of_le zr hb.size
        replace x0 := bC hb x0 zx
        replace x1 := bC hb x1 zx
        replace x2 := bC hb x2 zx
        replace zx := Nat.lt_of_lt_of_le zx hb.size
        replace HS9 := hide (HS9.out.kept hb)
        replace HO9 := hide (own_kept HO9.out hb)
        replace HOX := hide (own_kept HOX.out hb)
        replace HB := hide (HB.out.trans (hb.mono HB.out.size))
        clear hb
        have hrb : w.heap.size + 1 + 1 < v2.heap.size := by omega
        go_wp2
        refine bodyPost_ret (v := .tuple #[jrn key (.slice o2 l.length c2) safe, .bool false]) (by simp [results, Try.results30, go_sem, r0, r1, r2]) rfl ⟨jrn key (.slice o2 l.length c2) safe, by rw [HNF.out, HNDl.out]; simp, ?_, setP_below HB.out (by omega) _ _ _⟩
        rw [HNM.out, if_pos (by simp), if_neg (by rw [HNDl.out]; simp)]
        exact ⟨_, rfl, InRow.of (own_mono (own_low (own_low (own_low HOX.out hrb 0 _) hrb 1 _) hrb 2 _) (by omega))⟩
      | some mm =>
        rw [hdo] at HA2 HND
        simp only [Option.isSome_some] at HA2
        clear hdo
        by_cases h100 : l.length = 100
        · have HNDl := hide (show noteD key l k i g = false by rw [HND.out, h100]; rfl)
          have h100' : (l.length : Int) = 100 := by omega
          have h100d : ((l.length : Int) == 100) = true := beq_iff_eq.2 h100'
          clear h100 h100'
          go_wp2_with fail
          refine (HA2.out).mono ?_
          rintro e v4 ⟨v5, rfl, _, hb⟩
          have hs5 := hb.size
          replace z0 := bC hb z0 zz
          replace z1 := bC hb z1 zz
          replace z2 := bC hb z2 zz
          replace zz := Nat.lt_of_lt_of_le zz hb.size
          replace u0 := bC hb u0 zu
          replace u1 := bC hb u1 zu
          replace u2 := bC hb u2 zu
          replace zu := Nat.lt_of_lt_of_le zu hb.size
          replace r0 := bC hb r0 zr
          replace r1 := bC hb r1 zr
          replace r2 := bC hb r2 zr
          replace fr0 := bF hb fr0 zr
          replace fr1 := bF hb fr1 zr
          replace fr2 := bF hb fr2 zr
          replace zr := Nat.lt_of_lt_of_le zr hb.size
          replace x0 := bC hb x0 zx
          replace x1 := bC hb x1 zx
          replace x2 := bC hb x2 zx
          replace zx := Nat.lt_of_lt_of_le zx hb.size
          replace HS9 := hide (HS9.out.kept hb)
          replace HO9 := hide (own_kept HO9.out hb)
          replace HOX := hide (own_kept HOX.out hb)
          replace HB := hide (HB.out.trans (hb.mono HB.out.size))
          clear hb
          have hrb : w.heap.size + 1 + 1 < v2.heap.size := by omega
          go_wp2
          refine bodyPost_ret (v := .tuple #[jrn key (.slice o2 l.length c2) safe, .bool false]) (by simp [results, Try.results30, go_sem, r0, r1, r2]) rfl ⟨jrn key (.slice o2 l.length c2) safe, by rw [HNF.out, HNDl.out]; simp, ?_, setP_below HB.out (by omega) _ _ _⟩
          rw [HNM.out, if_pos (by simp), if_neg (by rw [HNDl.out]; simp)]
          exact ⟨_, rfl, InRow.of (own_mono (own_low (own_low (own_low HOX.out hrb 0 _) hrb 1 _) hrb 2 _) (by omega))⟩
        · have HNDl := hide (show noteD key l k i g = true by rw [HND.out, decide_eq_false (by omega)]; rfl)
          have h100d : ((l.length : Int) == 100) = false := beq_eq_false_iff_ne.2 (by omega)
          go_wp2_with fail
          refine (HA2.out).mono ?_
          rintro e v4 ⟨v5, rfl, _, hb⟩
          have hs5 := hb.size
          have hx5 := (hb.block _ (show _ < W4.heap.size from hs4)).trans hx4
          replace z0 := bC hb z0 zz
          replace z1 := bC hb z1 zz
          replace z2 := bC hb z2 zz
          replace zz := Nat.lt_of_lt_of_le zz hb.size
          replace u0 := bC hb u0 zu
          replace u1 := bC hb u1 zu
          replace u2 := bC hb u2 zu
          replace zu := Nat.lt_of_lt_of_le zu hb.size
          replace r0 := bC hb r0 zr
          replace r1 := bC hb r1 zr
          replace r2 := bC hb r2 zr
          replace fr0 := bF hb fr0 zr
          replace fr1 := bF hb fr1 zr
          replace fr2 := bF hb fr2 zr
          replace zr := Nat.lt_of_lt_of_le zr hb.size
          replace x0 := bC hb x0 zx
          replace x1 := bC hb x1 zx
          replace x2 := bC hb x2 zx
          replace zx := Nat.lt_of_lt_of_le zx hb.size
          replace HS9 := hide (HS9.out.kept hb)
          replace HO9 := hide (own_kept HO9.out hb)
          replace HOX := hide (own_kept HOX.out hb)
          replace HB := hide (HB.out.trans (hb.mono HB.out.size))
          clear hb
          have hrb : w.heap.size + 1 + 1 < v2.heap.size := by omega
          have hxb := hx5
          go_wp2_with (at_builtin; refine wpList_append_lay appC0 rfl (.tmp 53) (.tmp 55) rfl v2.heap.size _ l rfl (World.ownsRow.alloc HOX.out (.cells #[.int .i64 k, .int .i64 i, .int .i64 g] 28)) (some ⟨v4.heap.size, 0, none⟩) 1 (v4.alloc (.cells #[.int .i64 k, .int .i64 i, .int .i64 g] 28)).heap.size [(k, i, g)] 1 rfl rfl (fun h => by cases h) rd_oneC (by simp; omega) (by simp; omega) ?_)
          intro v6 w6 ho6 hg6 _
          obtain ⟨o6, c6, e6, _⟩ := ownL.open (L := layC) ho6
          rw [show (l ++ [(k, i, g)]).length = l.length + 1 by simp] at e6
          subst e6
          have hb6 : Below v2.heap.size v4 w6 := ((Below.refl v4.heap.size v4).alloc (Nat.le_refl _) (.cells #[.int .i64 k, .int .i64 i, .int .i64 g] 28)).mono (by omega) |>.grown hg6 (by simp; omega) (fun k h => (HOX.out.lt k h).1)
          have hx6 : w6.heap[v3.heap.size]? = some (.cells #[.int .i64 key, .slice o2 l.length c2, .int .i64 safe] 47 (0, 0)) := (hg6.block _ (by have := (Array.getElem?_eq_some_iff.1 hxb).1; simp; omega) (fun e => by have := HLTX.out _ e.symm; omega)).trans ((Below.heap_alloc _ _ _ (Array.getElem?_eq_some_iff.1 hxb).1).trans hxb)
          have HO6 : Hid (ownC w6 v2.heap.size (.slice o6 (l.length + 1) c6) (l ++ [(k, i, g)])) := ho6
          clear ho6 hg6
          replace r0 := bC hb6 r0 (show _ < _ by omega)
          replace fr0 := bF hb6 fr0 (show _ < _ by omega)
          replace r1 := bC hb6 r1 (show _ < _ by omega)
          replace fr1 := bF hb6 fr1 (show _ < _ by omega)
          replace r2 := bC hb6 r2 (show _ < _ by omega)
          replace fr2 := bF hb6 fr2 (show _ < _ by omega)
          have HB6 := hide (HB.out.trans (hb6.mono (by omega)))
          clear hb6 HB
          obtain ⟨W7, hW7⟩ : ∃ W, w6.setCell ⟨v3.heap.size, 1, none⟩ (.slice o6 (l.length + 1) c6) = W := ⟨_, rfl⟩
          have h7 : W7.heap[v3.heap.size]? = some (.cells #[.int .i64 key, .slice o6 (l.length + 1) c6, .int .i64 safe] 47 (0, 0)) := by rw [← hW7]; exact box_put hx6 1 _
          obtain ⟨W8, hW8⟩ : ∃ W, W7.setCell ⟨v3.heap.size, 2, none⟩ (.int .i64 ((l.length : Int) + 1)) = W := ⟨_, rfl⟩
          have h8 : W8.heap[v3.heap.size]? = some (.cells #[.int .i64 key, .slice o6 (l.length + 1) c6, .int .i64 ((l.length : Int) + 1)] 47 (0, 0)) := by rw [← hW8]; exact box_put h7 2 _
          have a60 : w6.cell? ⟨v3.heap.size, 0, none⟩ = some (.int .i64 key) := bx_cell hx6 0 _ rfl
          have g60 := bx_frozen hx6 0
          have a61 : w6.cell? ⟨v3.heap.size, 1, none⟩ = some (.slice o2 l.length c2) := bx_cell hx6 1 _ rfl
          have g61 := bx_frozen hx6 1
          have a62 : w6.cell? ⟨v3.heap.size, 2, none⟩ = some (.int .i64 safe) := bx_cell hx6 2 _ rfl
          have g62 := bx_frozen hx6 2
          have a70 : W7.cell? ⟨v3.heap.size, 0, none⟩ = some (.int .i64 key) := bx_cell h7 0 _ rfl
          have g70 := bx_frozen h7 0
          have a71 : W7.cell? ⟨v3.heap.size, 1, none⟩ = some (.slice o6 (l.length + 1) c6) := bx_cell h7 1 _ rfl
          have g71 := bx_frozen h7 1
          have a72 : W7.cell? ⟨v3.heap.size, 2, none⟩ = some (.int .i64 safe) := bx_cell h7 2 _ rfl
          have g72 := bx_frozen h7 2
          have a80 : W8.cell? ⟨v3.heap.size, 0, none⟩ = some (.int .i64 key) := bx_cell h8 0 _ rfl
          have a81 : W8.cell? ⟨v3.heap.size, 1, none⟩ = some (.slice o6 (l.length + 1) c6) := bx_cell h8 1 _ rfl
          have a82 : W8.cell? ⟨v3.heap.size, 2, none⟩ = some (.int .i64 ((l.length : Int) + 1)) := bx_cell h8 2 _ rfl
          have hneB : w.heap.size + 1 + 1 ≠ v3.heap.size := by omega
          have q80 : W8.cell? ⟨w.heap.size + 1 + 1, 0, none⟩ = some (.int .i64 0) := by rw [← hW8, ← hW7]; exact (cell_far hneB).trans ((cell_far hneB).trans r0)
          have p80 : W8.frozen? ⟨w.heap.size + 1 + 1, 0, none⟩ = false := by rw [← hW8, ← hW7]; exact (frozen_far hneB).trans ((frozen_far hneB).trans fr0)
          have q81 : W8.cell? ⟨w.heap.size + 1 + 1, 1, none⟩ = some (.slice none 0 0) := by rw [← hW8, ← hW7]; exact (cell_far hneB).trans ((cell_far hneB).trans r1)
          have p81 : W8.frozen? ⟨w.heap.size + 1 + 1, 1, none⟩ = false := by rw [← hW8, ← hW7]; exact (frozen_far hneB).trans ((frozen_far hneB).trans fr1)
          have q82 : W8.cell? ⟨w.heap.size + 1 + 1, 2, none⟩ = some (.int .i64 0) := by rw [← hW8, ← hW7]; exact (cell_far hneB).trans ((cell_far hneB).trans r2)
          have p82 : W8.frozen? ⟨w.heap.size + 1 + 1, 2, none⟩ = false := by rw [← hW8, ← hW7]; exact (frozen_far hneB).trans ((frozen_far hneB).trans fr2)
          have HO8 : Hid (ownC W8 v2.heap.size (.slice o6 (l.length + 1) c6) (l ++ [(k, i, g)])) := by rw [← hW8, ← hW7]; exact own_putJ (own_putJ HO6.out hx6 1 _) (box_put hx6 1 _) 2 _
          have HB8 : Hid (Below w.heap.size w W8) := by rw [← hW8, ← hW7]; exact (HB6.out.setCell (p := ⟨v3.heap.size, 1, none⟩) (show w.heap.size ≤ v3.heap.size by omega) _).setCell (p := ⟨v3.heap.size, 2, none⟩) (show w.heap.size ≤ v3.heap.size by omega) _
          clear r0 fr0 r1 fr1 r2 fr2
          go_wp2
          refine bodyPost_ret (v := .tuple #[jrn key (.slice o6 (l.length + 1) c6) ((l.length : Int) + 1), .bool true]) (by simp [results, Try.results30, go_sem, q80, q81, q82]) rfl ⟨jrn key (.slice o6 (l.length + 1) c6) ((l.length : Int) + 1), by rw [HNF.out, HNDl.out]; simp, ?_, setP_below HB8.out (by omega) _ _ _⟩
          rw [HNM.out, if_pos (by simp), if_pos HNDl.out]
          exact ⟨_, rfl, InRow.of (own_mono (own_low (own_low (own_low HO8.out hrb 0 _) hrb 1 _) hrb 2 _) (by omega))⟩

end Go.Proofs.Ytldjaapbkihibaa

/- Replay, on both sides. -/
namespace Go.Proofs.Ytldjaapbkihibaa
open Go.ChangeShapes Go.WideShapes Go.ChangeAt Go.RowKit Go.Joins
set_option linter.unusedVariables false
set_option linter.unusedSimpArgs false

def replayM (m : Jm) : Pm := if journalB m.key m.l m.safe = true then ⟨m.key, servedOf m.l m.l.length, ringT m.key (ringR m.l m.l.length)⟩ else pm0
theorem ringR_len (cs : List Cd) : ∀ n, (ringR cs n).length ≤ 3
  | 0 => by simp [ringR]
  | n + 1 => by rw [ringR, List.length_take]; omega
theorem replay_fit (m : Jm) : fitPm (replayM m) := by
  unfold replayM
  split
  · next h => exact ringT_fit m.key _ _ (by have := (served_facts h).2; omega) (ringR_len _ _)
  · exact ⟨by simp [pm0], by simp [pm0], by simp [pm0, szR, sumN], fun i hi => absurd hi (Nat.not_lt_zero _), fun i hi => absurd hi (Nat.not_lt_zero _)⟩
theorem ptabs_g {w : World} {base : Nat} {key : Int} {hs : List Hd} {R : List (List Bk)} (h : PTabs w base key hs R) : GTabs w base hs (ringT key R) := by
  refine ⟨by rw [h.1]; simp [ringT], fun i hi => ?_⟩
  have hi' : i < R.length := by simpa [ringT] using hi
  obtain ⟨o3, c3, hs8, e, h1, h2⟩ := h.2 i hi'
  rw [ringT_get _ _ _ hi']
  exact ⟨o3, c3, hs8, by rw [newT_len]; exact e, by rw [newT_len]; exact h1, tab_new h2⟩
/-- Those who served from the a-th time on, the latest first. -/
def lastS (cs : List Cd) (a : Nat) : Nat → List (List Bk)
  | 0 => []
  | j + 1 => servedOf cs (a + j) :: lastS cs a j
theorem lastS_len (cs : List Cd) (a : Nat) : ∀ j, (lastS cs a j).length = j
  | 0 => rfl
  | j + 1 => by simp [lastS, lastS_len cs a j]
theorem lastS_step (cs : List Cd) (a j : Nat) (key : Int) (hj : j ≤ 2) : newF key (servedOf cs (a + j)) :: ((lastS cs a j).map (newF key)).take 2 = (lastS cs a (j + 1)).map (newF key) := by
  rw [List.take_of_length_le (by rw [List.length_map, lastS_len]; exact hj)]
  rfl
theorem served_zero (cs : List Cd) : servedOf cs 0 = [] := rfl
theorem ringR_three (cs : List Cd) : ∀ n, ringR cs (n + 2) = [servedOf cs (n + 2), servedOf cs (n + 1), servedOf cs n]
  | 0 => rfl
  | n + 1 => by rw [ringR, ringR_three cs n]; rfl
theorem ringR_last (cs : List Cd) (n : Nat) : ringR cs n = lastS cs (n + 1 - 3) (n + 1 - (n + 1 - 3)) := by
  match n with
  | 0 => rfl
  | 1 => rfl
  | n + 2 =>
    rw [ringR_three, show n + 2 + 1 - 3 = n by omega, show n + 2 + 1 - n = 3 by omega]
    simp [lastS]
theorem lastS_ok {cs : List Cd} {a : Nat} (h : ∀ q, q < cs.length + 1 → backsOkB (servedOf cs q) = true) : ∀ j, a + j ≤ cs.length + 1 → ∀ l ∈ lastS cs a j, backsOkB l = true
  | 0, _ => fun l hl => by simp [lastS] at hl
  | j + 1, hj => fun l hl => by
    rcases List.mem_cons.1 hl with rfl | hl
    · exact h _ (by omega)
    · exact lastS_ok h j (by omega) l hl
theorem last_tabs {key : Int} {L : List (List Bk)} (h : ∀ l ∈ L, backsOkB l = true) : (L.map (newF key)).map ptLL = ringT key L := by
  rw [List.map_map]
  exact List.map_congr_left (fun l hl => ptLL_new key (h l hl))
theorem served_each {key safe : Int} {cs : List Cd} (h : journalB key cs safe = true) : ∀ q, q < cs.length + 1 → backsOkB (servedOf cs q) = true ∧ (servedOf cs q).length ≤ 100 := fun q hq => by
  obtain ⟨l, hl⟩ := runTo_back (journal_run h) (show q ≤ cs.length by omega)
  have h1 := runTo_ok q l (by omega) hl
  have h2 := (journal_facts h).2.1
  unfold servedOf
  rw [hl]
  exact ⟨h1.1, by simp only [Option.getD_some]; omega⟩

set_option maxRecDepth 100000 in
set_option maxHeartbeats 8000000 in
theorem specReplay_sh (v : Value) (m : Jm) (w : World) (hR : RdJm w.heap.size w v m) (hcp : capJm v) (hf : fitJm m) :
    Calls Try.prog 48 #[v] w fun e w' => ∃ v', e = .returned (.tuple #[v', .bool (journalB m.key m.l m.safe)]) ∧ RiPm w.heap.size w'.heap.size w' v' (replayM m) ∧ Below w.heap.size w w' := by
  have hR0 := hR
  obtain ⟨vl, rfl, ⟨o, c, rfl, r⟩⟩ := hR0
  clear hcp hR
  obtain ⟨key, l, safe⟩ := m
  dsimp only at *
  have HPM := hide (show replayM ⟨key, l, safe⟩ = if journalB key l safe = true then ⟨key, servedOf l l.length, ringT key (ringR l l.length)⟩ else pm0 from rfl)
  have HFA := hide (fun h : journalB key l safe = true => And.intro (journal_facts h) (And.intro (journal_run h) (And.intro (served_each h) (replay_fit ⟨key, l, safe⟩))))
  unfold fitJm at hf
  dsimp only at hf
  obtain ⟨W0, hW0⟩ : ∃ W, ((w.alloc (.cells #[.int .i64 key, .slice o l.length c, .int .i64 safe] 47)).alloc (.cells #[.int .i64 0, .slice none 0 0, .slice none 0 0] 26)) = W := ⟨_, rfl⟩
  have hb_W0 : Below w.heap.size w W0 := by rw [← hW0]; exact (((Below.refl _ _).alloc (Nat.le_refl _) _).alloc (by simp <;> omega) _)
  have HB := hide hb_W0
  clear hb_W0
  have zz : w.heap.size < W0.heap.size := by rw [← hW0]; simp <;> omega
  have z0 : W0.cell? ⟨w.heap.size, 0, none⟩ = some (.int .i64 key) := by rw [← hW0]; simp [go_sem]
  have z1 : W0.cell? ⟨w.heap.size, 1, none⟩ = some (.slice o l.length c) := by rw [← hW0]; simp [go_sem]
  have z2 : W0.cell? ⟨w.heap.size, 2, none⟩ = some (.int .i64 safe) := by rw [← hW0]; simp [go_sem]
  have zr : w.heap.size + 1 < W0.heap.size := by rw [← hW0]; simp
  have r0 : W0.cell? ⟨w.heap.size + 1, 0, none⟩ = some (.int .i64 0) := by rw [← hW0]; simp [go_sem]
  have r1 : W0.cell? ⟨w.heap.size + 1, 1, none⟩ = some (.slice none 0 0) := by rw [← hW0]; simp [go_sem]
  have r2 : W0.cell? ⟨w.heap.size + 1, 2, none⟩ = some (.slice none 0 0) := by rw [← hW0]; simp [go_sem]
  have fr0 : W0.frozen? ⟨w.heap.size + 1, 0, none⟩ = false := by rw [← hW0]; simp [go_sem]
  have fr1 : W0.frozen? ⟨w.heap.size + 1, 1, none⟩ = false := by rw [← hW0]; simp [go_sem]
  have fr2 : W0.frozen? ⟨w.heap.size + 1, 2, none⟩ = false := by rw [← hW0]; simp [go_sem]
  have hzr := zr
  have HJO := hide (specJournalOk_any key safe o c l W0 ((r.kept HB.out (Nat.le_refl _)).le HB.out.size) hf)
  have HRL := hide r
  clear r
  cases hj : journalB key l safe with
  | false =>
    rw [hj] at HJO HPM
    clear HFA hj
    go_enter Try.func48, Try.ntmps48
    go_wp2_with fail
    refine (HJO.out).mono ?_
    rintro e v1 ⟨rfl, hb⟩
    replace z0 := bC hb z0 zz
    replace z1 := bC hb z1 zz
    replace z2 := bC hb z2 zz
    replace zz := Nat.lt_of_lt_of_le zz hb.size
    replace r0 := bC hb r0 zr
    replace r1 := bC hb r1 zr
    replace r2 := bC hb r2 zr
    replace fr0 := bF hb fr0 zr
    replace fr1 := bF hb fr1 zr
    replace fr2 := bF hb fr2 zr
    replace zr := Nat.lt_of_lt_of_le zr hb.size
    replace HB := hide (HB.out.trans (hb.mono HB.out.size))
    clear hb
    go_wp2
    refine bodyPost_ret (v := .tuple #[plv 0 (.slice none 0 0) (.slice none 0 0), .bool false]) (by simp [results, Try.results48, go_sem, r0, r1, r2]) rfl ⟨_, rfl, ?_, setQ_below HB.out (Nat.le_succ _) _ _ _⟩
    rw [HPM.out, if_neg (by simp)]
    exact pm0_ri _ _ _
  | true =>
    obtain ⟨⟨hk, hl, h0, h1⟩, hrun, hse, hfi⟩ := HFA.out hj
    have HSE := hide hse
    rw [HPM.out, if_pos hj] at hfi
    have HFI := hide hfi
    have HK := hide hk
    rw [hj] at HJO HPM
    clear HFA hj hse hk hfi
    go_enter Try.func48, Try.ntmps48
    go_wp2_with fail
    refine (HJO.out).mono ?_
    rintro e v1 ⟨rfl, hb⟩
    have hs1 := hb.size
    replace z0 := bC hb z0 zz
    replace z1 := bC hb z1 zz
    replace z2 := bC hb z2 zz
    replace zz := Nat.lt_of_lt_of_le zz hb.size
    replace r0 := bC hb r0 zr
    replace r1 := bC hb r1 zr
    replace r2 := bC hb r2 zr
    replace fr0 := bF hb fr0 zr
    replace fr1 := bF hb fr1 zr
    replace fr2 := bF hb fr2 zr
    replace zr := Nat.lt_of_lt_of_le zr hb.size
    replace HB := hide (HB.out.trans (hb.mono HB.out.size))
    clear hb
    have HRP := hide (l4replay_any key o c l v1 ((HRL.out.kept HB.out (Nat.le_refl _)).le HB.out.size) HK.out hl hrun)
    clear hrun
    go_wp2_with fail
    refine (HRP.out).mono ?_
    rintro e v2 ⟨oB, cB, oR, cR, hs, rfl, owB, owR, pt, hs3, hb⟩
    have hs2 := hb.size
    have HPT := hide (And.intro owB (And.intro owR pt))
    clear owB owR pt
    replace z0 := bC hb z0 zz
    replace z1 := bC hb z1 zz
    replace z2 := bC hb z2 zz
    replace zz := Nat.lt_of_lt_of_le zz hb.size
    replace r0 := bC hb r0 zr
    replace r1 := bC hb r1 zr
    replace r2 := bC hb r2 zr
    replace fr0 := bF hb fr0 zr
    replace fr1 := bF hb fr1 zr
    replace fr2 := bF hb fr2 zr
    replace zr := Nat.lt_of_lt_of_le zr hb.size
    replace HB := hide (HB.out.trans (hb.mono HB.out.size))
    clear hb
    have HSN := hide (HSE.out l.length (by omega))
    obtain ⟨sv, hsv⟩ : ∃ s, servedOf l l.length = s := ⟨_, rfl⟩
    obtain ⟨rg, hrg⟩ : ∃ s, ringT key (ringR l l.length) = s := ⟨_, rfl⟩
    have HG := hide (ptabs_g HPT.out.2.2)
    have HOB := hide HPT.out.1
    have HOR := hide HPT.out.2.1
    rw [hsv] at HPM HFI HSN HOB
    rw [hrg] at HPM HFI HG
    rw [hsv]
    clear hsv hrg HPT
    have HRK := hide (ownL.rds (L := layK) HOB.out)
    have hcb := (fun e => (InRow.cap (InRow.of HOB.out)) sv.length cB (by rw [e]) : oB = none → cB = 0)
    have HOW := hide (l4own_go key oB cB sv oR cR rg hs.length HG.out.1 v2 HRK.out hcb (by have := HSN.out.2; omega) (RcR.mon.go (HG.out.rc HOR.out) (Nat.zero_le _) (Nat.le_refl _)) (by omega) HFI.out.2.2.2.1 HFI.out.2.2.2.2)
    skip
    go_wp2_with fail
    refine (HOW.out).mono ?_
    rintro e v3 ⟨v9, rfl, hin, hb⟩
    have HIN := hide hin
    have hs4 := hb.size
    clear hin
    obtain ⟨o9, c9, oR9, cR9, e9⟩ : ∃ (o9 : Option Addr) (c9 : Nat) (oR9 : Option Addr) (cR9 : Nat), v9 = plv key (.slice o9 sv.length c9) (.slice oR9 rg.length cR9) := HIN.out.opn
    subst e9
    replace z0 := bC hb z0 zz
    replace z1 := bC hb z1 zz
    replace z2 := bC hb z2 zz
    replace zz := Nat.lt_of_lt_of_le zz hb.size
    replace r0 := bC hb r0 zr
    replace r1 := bC hb r1 zr
    replace r2 := bC hb r2 zr
    replace fr0 := bF hb fr0 zr
    replace fr1 := bF hb fr1 zr
    replace fr2 := bF hb fr2 zr
    replace zr := Nat.lt_of_lt_of_le zr hb.size
    replace HB := hide (HB.out.trans (hb.mono HB.out.size))
    clear hb
    go_wp2
    refine bodyPost_ret (v := .tuple #[plv key (.slice o9 sv.length c9) (.slice oR9 rg.length cR9), .bool true]) (by simp [results, Try.results48, go_sem, r0, r1, r2]) rfl ⟨_, rfl, ?_, setQ_below HB.out (Nat.le_succ _) _ _ _⟩
    rw [HPM.out, if_pos trivial, setQ_size]
    exact (HIN.out.step (stp_setQ v3 (w.heap.size + 1) _ _ _) (.inl (by omega))).mono (by omega) (Nat.le_refl _)

end Go.Proofs.Ytldjaapbkihibaa

/- The program's Replay. -/
namespace Go.Proofs.Ytldjaapbkihibaa
open Go.ChangeShapes Go.WideShapes Go.ChangeAt Go.RowKit Go.Joins
set_option linter.unusedVariables false
set_option linter.unusedSimpArgs false

theorem hv_slice (hs : List Hd) (i : Nat) : ∃ o n c, hv hs i = .slice o n c := ⟨_, _, _, rfl⟩
/-- The backs of the pool that is turned: none at first. -/
def bvS (hs : List Hd) (a : Nat) : Nat → Value
  | 0 => .slice none 0 0
  | j + 1 => hv hs (a + j)
theorem bvS_last (hs : List Hd) (a : Nat) : ∀ (j n : Nat), 1 ≤ j → a + (j - 1) = n → bvS hs a j = hv hs n
  | 0, n, h, _ => absurd h (by omega)
  | j + 1, n, _, h => by
    rw [← h]
    rfl
theorem own_roomT {α : Type} {L : Lay α} {T : TypeId} {w : World} {base : Nat} {o : Option Addr} {n c : Nat} {fs : List α} (h : ownL L T w base (.slice o n c) fs) : fs.length ≤ c ∧ (o = none → c = 0) := by
  rcases h.2 with ⟨e, h0⟩ | ⟨g, cap, cur, e, _, _, h1, _⟩
  · injection e with e1 e2 e3
    exact ⟨by omega, fun _ => e3⟩
  · injection e with e1 e2 e3
    exact ⟨by omega, fun h => by rw [h] at e1; cases e1⟩

set_option maxRecDepth 100000 in
set_option maxHeartbeats 8000000 in
theorem implReplay_sh (v : Value) (m : Jm) (w : World) (hR : RdJm w.heap.size w v m) (hcp : capJm v) (hf : fitJm m) :
    Calls Try.prog 31 #[v] w fun e w' => ∃ v', e = .returned (.tuple #[v', .bool (journalB m.key m.l m.safe)]) ∧ InPm w.heap.size w'.heap.size w' v' (replayM m) ∧ Below w.heap.size w w' := by
  have hR0 := hR
  obtain ⟨vl, rfl, ⟨o, c, rfl, r⟩⟩ := hR0
  clear hcp hR
  obtain ⟨key, l, safe⟩ := m
  dsimp only at *
  have HPM := hide (show replayM ⟨key, l, safe⟩ = if journalB key l safe = true then ⟨key, servedOf l l.length, ringT key (ringR l l.length)⟩ else pm0 from rfl)
  have HFA := hide (fun h : journalB key l safe = true => And.intro (journal_facts h) (And.intro (journal_run h) (And.intro (served_each h) (replay_fit ⟨key, l, safe⟩))))
  unfold fitJm at hf
  dsimp only at hf
  obtain ⟨W0, hW0⟩ : ∃ W, ((w.alloc (.cells #[.int .i64 key, .slice o l.length c, .int .i64 safe] 47)).alloc (.cells #[.int .i64 0, .slice none 0 0, .slice none 0 0] 26)) = W := ⟨_, rfl⟩
  have hb_W0 : Below w.heap.size w W0 := by rw [← hW0]; exact (((Below.refl _ _).alloc (Nat.le_refl _) _).alloc (by simp <;> omega) _)
  have HB := hide hb_W0
  clear hb_W0
  have zz : w.heap.size < W0.heap.size := by rw [← hW0]; simp <;> omega
  have z0 : W0.cell? ⟨w.heap.size, 0, none⟩ = some (.int .i64 key) := by rw [← hW0]; simp [go_sem]
  have z1 : W0.cell? ⟨w.heap.size, 1, none⟩ = some (.slice o l.length c) := by rw [← hW0]; simp [go_sem]
  have z2 : W0.cell? ⟨w.heap.size, 2, none⟩ = some (.int .i64 safe) := by rw [← hW0]; simp [go_sem]
  have zr : w.heap.size + 1 < W0.heap.size := by rw [← hW0]; simp
  have r0 : W0.cell? ⟨w.heap.size + 1, 0, none⟩ = some (.int .i64 0) := by rw [← hW0]; simp [go_sem]
  have r1 : W0.cell? ⟨w.heap.size + 1, 1, none⟩ = some (.slice none 0 0) := by rw [← hW0]; simp [go_sem]
  have r2 : W0.cell? ⟨w.heap.size + 1, 2, none⟩ = some (.slice none 0 0) := by rw [← hW0]; simp [go_sem]
  have fr0 : W0.frozen? ⟨w.heap.size + 1, 0, none⟩ = false := by rw [← hW0]; simp [go_sem]
  have fr1 : W0.frozen? ⟨w.heap.size + 1, 1, none⟩ = false := by rw [← hW0]; simp [go_sem]
  have fr2 : W0.frozen? ⟨w.heap.size + 1, 2, none⟩ = false := by rw [← hW0]; simp [go_sem]
  have HR0 := hide (show W0.heap[w.heap.size + 1]? = some (.cells #[.int .i64 0, .slice none 0 0, .slice none 0 0] 26 (0, 0)) by rw [← hW0]; exact box_new2 w _ _ _)
  have hzr := zr
  have HTU := hide (turns_any key safe o c l W0 ((r.kept HB.out (Nat.le_refl _)).le HB.out.size) hf)
  clear r
  cases hj : journalB key l safe with
  | false =>
    rw [hj] at HTU HPM
    clear HFA hj
    go_enter Try.func31, Try.ntmps31
    go_wp2_with fail
    refine (HTU.out).mono ?_
    rintro e v1 ⟨v9, rfl, _, hb⟩
    replace z0 := bC hb z0 zz
    replace z1 := bC hb z1 zz
    replace z2 := bC hb z2 zz
    replace zz := Nat.lt_of_lt_of_le zz hb.size
    replace r0 := bC hb r0 zr
    replace r1 := bC hb r1 zr
    replace r2 := bC hb r2 zr
    replace fr0 := bF hb fr0 zr
    replace fr1 := bF hb fr1 zr
    replace fr2 := bF hb fr2 zr
    replace zr := Nat.lt_of_lt_of_le zr hb.size
    replace HB := hide (HB.out.trans (hb.mono HB.out.size))
    clear hb
    go_wp2
    refine bodyPost_ret (v := .tuple #[plv 0 (.slice none 0 0) (.slice none 0 0), .bool false]) (by simp [results, Try.results31, go_sem, r0, r1, r2]) rfl ⟨_, rfl, ?_, setQ_below HB.out (Nat.le_succ _) _ _ _⟩
    rw [HPM.out, if_neg (by simp)]
    exact pm0_in _ _ _ (setQ_below HB.out (Nat.le_succ _) _ _ _).size
  | true =>
    obtain ⟨⟨hk, hl, h0, h1⟩, hrun, hse, hfi⟩ := HFA.out hj
    have HSE := hide hse
    have HK := hide hk
    rw [hj] at HTU HPM
    clear HFA hj hse hk hfi hrun
    go_enter Try.func31, Try.ntmps31
    go_wp2_with fail
    refine (HTU.out).mono ?_
    rintro e v1 ⟨v9, rfl, hown9, hb⟩
    obtain ⟨hs, ho9, hs9⟩ := hown9 (by simp)
    have HO9 := hide ho9
    have HS9 := hide hs9
    have hs1 := hb.size
    have HBLK := hide ((hb.block _ hzr).trans HR0.out)
    clear hown9 ho9 hs9
    replace z0 := bC hb z0 zz
    replace z1 := bC hb z1 zz
    replace z2 := bC hb z2 zz
    replace zz := Nat.lt_of_lt_of_le zz hb.size
    replace r0 := bC hb r0 zr
    replace r1 := bC hb r1 zr
    replace r2 := bC hb r2 zr
    replace fr0 := bF hb fr0 zr
    replace fr1 := bF hb fr1 zr
    replace fr2 := bF hb fr2 zr
    replace zr := Nat.lt_of_lt_of_le zr hb.size
    replace HB := hide (HB.out.trans (hb.mono HB.out.size))
    clear hb
    have HLN := hide HS9.out.len
    obtain ⟨g9, c9, e9⟩ := own_someH HO9.out (by rw [HLN.out]; omega)
    subst e9
    have hc9 : hs.length ≤ c9 := (own_roomT HO9.out).1
    have hgl : g9 < v1.heap.size := (HO9.out.lt g9 rfl).2
    have hgb : W0.heap.size ≤ g9 := (HO9.out.lt g9 rfl).1
    obtain ⟨N, hN⟩ : ∃ N, hs.length = N := ⟨_, rfl⟩
    have HN := hide (show N = l.length + 1 by rw [← hN]; exact HLN.out)
    have HNS := hide hN
    rw [hN] at hc9 ⊢
    have hN1 : 1 ≤ N := by have := HN.out; omega
    clear hN
    obtain ⟨a, ha⟩ : ∃ a, N - 3 = a := ⟨_, rfl⟩
    have haN : a < N := by omega
    have haN' : (a : Int) < (N : Int) := by omega
    have hac : ¬ (c9 = a) := by omega
    have hac' : (a : Int) ≤ (c9 : Int) := by omega
    have haN2 : (a : Int) ≤ (N : Int) := by omega
    have hmx : max (0 : Int) ((N : Int) - 3) = (a : Int) := by omega
    have HA := hide ha
    have hN101 : N ≤ 101 := by have := HN.out; omega
    clear ha
    go_wp2
    obtain ⟨W1, hW1⟩ : ∃ W, v1.alloc (.cells #[.int .i64 key, .slice none 0 0, .slice none 0 0] 92) = W := ⟨_, rfl⟩
    rw [hW1]
    have hx1 : W1.heap[v1.heap.size]? = some (.cells #[.int .i64 key, .slice none 0 0, .slice none 0 0] 92 (0, 0)) := by rw [← hW1]; exact World.alloc_heap_new v1 _
    have hb1 : Below v1.heap.size v1 W1 := by rw [← hW1]; exact (Below.refl _ _).alloc (Nat.le_refl _) _
    have HX1 := hide hx1
    have hs2 : v1.heap.size < W1.heap.size := (Array.getElem?_eq_some_iff.1 HX1.out).1
    have HB1 := hide hb1
    clear hx1 hb1 hW1 z0 z1 z2 r0 r1 r2 fr0 fr1 fr2
    obtain ⟨M, hM⟩ : ∃ M, N - a = M := ⟨_, rfl⟩
    rw [hM]
    have HM := hide hM
    have hM3 : M ≤ 3 := by have := HA.out; omega
    have hM1 : 1 ≤ M := by omega
    have haM : a + M = N := by omega
    clear hM hmx
    go_loopw [27] (fun iv wr => ∃ (j : Nat) (oR : Option Addr) (cR : Nat) (ob : Option Addr) (nb cb : Nat), j ≤ M ∧ iv = .int .i64 (j : Int) ∧ Hid (wr.heap[v1.heap.size]? = some (.cells #[.int .i64 key, .slice ob nb cb, .slice oR j cR] 92 (0, 0))) ∧ Hid (bvS hs a j = .slice ob nb cb) ∧ Hid (ownL layT 108 wr W1.heap.size (.slice oR j cR) ((lastS l a j).map (newF key))) ∧ Hid (Stp v1.heap.size (v1.heap.size + 1) W1 wr) ∧ W1.heap.size ≤ wr.heap.size)
      (fun iv _ => M - (intOf iv).toNat)
    case atStart => exact ⟨0, none, 0, none, 0, 0, Nat.zero_le _, rfl, HX1.out, rfl, World.ownsRow_nil _ _ _ _, Stp.refl _, Nat.le_refl _⟩
    case round =>
      obtain ⟨j, oR, cR, ob, nb, cb, hj, rfl, HBX, HBV, HOW, HST, hsr⟩ := hrel
      have HBV1 := hide (HB1.out.trans (HST.out.below (Nat.le_refl _) (Nat.le_of_lt hs2)))
      have p0 : wr.cell? ⟨v1.heap.size, 0, none⟩ = some (.int .i64 key) := bx_cell HBX.out 0 _ rfl
      have p1 : wr.cell? ⟨v1.heap.size, 1, none⟩ = some (.slice ob nb cb) := bx_cell HBX.out 1 _ rfl
      have p2 : wr.cell? ⟨v1.heap.size, 2, none⟩ = some (.slice oR j cR) := bx_cell HBX.out 2 _ rfl
      have hroom := own_roomT HOW.out
      rw [List.length_map, lastS_len] at hroom
      by_cases hlt : j < M
      · skip
        have hlt' : (j : Int) < (M : Int) := by omega
        have haj : a + j < l.length + 1 := by have := HN.out; omega
        have hrow := HS9.out.row (a + j) haj
        obtain ⟨oK, cK, eK, rK⟩ := ownL.open (L := layK) hrow
        have hcap := own_capK (eK ▸ hrow)
        have hcl := bC HBV1.out (head_cell HO9.out (a + j) (by rw [HLN.out]; exact haj)) hgl
        rw [eK] at hcl
        have HEK := hide eK
        have hsv := HSE.out (a + j) haj
        have hw := with_any key ob nb cb oR cR oK cK (servedOf l (a + j)) wr ((lastS l a j).map (newF key)) (by rw [List.length_map, lastS_len]; omega) (ownL.rds (L := layT) HOW.out) (by rw [List.length_map, lastS_len]; exact hroom.1) hroom.2 ((rK.kept HBV1.out (Nat.le_refl _)).le (Nat.le_trans (Nat.le_of_lt hs2) hsr)) (by omega) HK.out hsv.1
        rw [lastS_step l a j key (by omega)] at hw
        simp only [List.length_map, lastS_len] at hw
        have HW := hide hw
        clear hw hsv rK hrow eK
        obtain ⟨nk, hnk⟩ : ∃ n, (servedOf l (a + j)).length = n := ⟨_, rfl⟩
        rw [hnk] at hcl HW HEK
        clear hnk
        go_wp2_with fail
        refine HW.out.mono ?_
        rintro e v2 ⟨o2, c2, rfl, ow2, hb2⟩
        have hsz2 := hb2.size
        have hx2 := (hb2.block _ (show v1.heap.size < wr.heap.size by omega)).trans HBX.out
        have a0 : v2.cell? ⟨v1.heap.size, 0, none⟩ = some (.int .i64 key) := bx_cell hx2 0 _ rfl
        have f0 := bx_frozen hx2 0
        have a1 : v2.cell? ⟨v1.heap.size, 1, none⟩ = some (.slice ob nb cb) := bx_cell hx2 1 _ rfl
        have f1 := bx_frozen hx2 1
        have a2 : v2.cell? ⟨v1.heap.size, 2, none⟩ = some (.slice oR j cR) := bx_cell hx2 2 _ rfl
        have f2 := bx_frozen hx2 2
        have HX9 : Hid ((setP v2 v1.heap.size (.int .i64 key) (.slice oK nk cK) (.slice o2 (j + 1) c2)).heap[v1.heap.size]? = some (.cells #[.int .i64 key, .slice oK nk cK, .slice o2 (j + 1) c2] 92 (0, 0))) := box_put (box_put (box_put hx2 0 _) 1 _) 2 _
        have HO9' := hide (own_low (own_low (own_low (own_mono ow2 hsr) hs2 0 (.int .i64 key)) hs2 1 (.slice oK nk cK)) hs2 2 (.slice o2 (j + 1) c2))
        have HS9' := hide ((HST.out.trans (Stp.of hb2)).trans (stp_setQ v2 v1.heap.size (.int .i64 key) (.slice oK nk cK) (.slice o2 (j + 1) c2)))
        have hs9 : W1.heap.size ≤ v2.heap.size := by omega
        clear ow2 hb2 hx2 p0 p1 p2
        go_wp2
        go_roundw
        case rel => exact ⟨j + 1, o2, c2, oK, nk, cK, by omega, by go_num, HX9.out, HEK.out, HO9'.out, HS9'.out, by simpa using hs9⟩
        case measure => simp [intOf]; omega
      · skip
        have e : j = M := by omega
        subst e
        have hln : a + (j - 1) = l.length := by have := HN.out; omega
        have hrow := HS9.out.row l.length (by omega)
        obtain ⟨oK, cK, eK, rK⟩ := ownL.open (L := layK) hrow
        have hcap := own_capK (eK ▸ hrow)
        have hbv := bvS_last hs a j l.length hM1 hln
        rw [HBV.out, eK] at hbv
        injection hbv with e1 e2 e3
        subst e1 e2 e3
        have hsv := HSE.out l.length (by omega)
        have hp := plain_any key ob cb (servedOf l l.length) oR cR ((lastS l a j).map (newF key)) wr ((rK.kept HBV1.out (Nat.le_refl _)).le (Nat.le_trans (Nat.le_of_lt hs2) hsr)) hcap (by omega) (ownL.rds (L := layT) HOW.out) (by rw [List.length_map, lastS_len]; omega)
        rw [last_tabs (lastS_ok (fun q hq => (HSE.out q hq).1) j (by have := HN.out; omega))] at hp
        simp only [List.length_map, lastS_len] at hp
        have hring : lastS l a j = ringR l l.length := by rw [ringR_last, ← HN.out, HA.out, HM.out]
        rw [hring] at hp
        have HP := hide hp
        clear hp hring hrow eK rK hsv
        obtain ⟨sv, hsv⟩ : ∃ s, servedOf l l.length = s := ⟨_, rfl⟩
        rw [hsv] at HP HPM p1
        obtain ⟨rg, hrg⟩ : ∃ s, ringT key (ringR l l.length) = s := ⟨_, rfl⟩
        rw [hrg] at HP HPM
        clear hsv hrg
        go_wp2_with fail
        refine HP.out.mono ?_
        rintro e v3 ⟨v9, rfl, hin, hb3⟩
        have HIN := hide hin
        have hs4 := hb3.size
        clear hin
        obtain ⟨o9, c9', oR9, cR9, e9⟩ : ∃ (o9 : Option Addr) (c9 : Nat) (oR9 : Option Addr) (cR9 : Nat), v9 = plv key (.slice o9 sv.length c9) (.slice oR9 rg.length cR9) := HIN.out.opn
        subst e9
        have hrb := (hb3.block _ (show w.heap.size + 1 < wr.heap.size by omega)).trans ((HBV1.out.block _ (show w.heap.size + 1 < v1.heap.size by omega)).trans HBLK.out)
        have r0 : v3.cell? ⟨w.heap.size + 1, 0, none⟩ = some (.int .i64 0) := bx_cell hrb 0 _ rfl
        have fr0 := bx_frozen hrb 0
        have r1 : v3.cell? ⟨w.heap.size + 1, 1, none⟩ = some (.slice none 0 0) := bx_cell hrb 1 _ rfl
        have fr1 := bx_frozen hrb 1
        have r2 : v3.cell? ⟨w.heap.size + 1, 2, none⟩ = some (.slice none 0 0) := bx_cell hrb 2 _ rfl
        have fr2 := bx_frozen hrb 2
        have HBF := hide ((HB.out.trans (HBV1.out.mono HB.out.size)).trans (hb3.mono (by omega)))
        clear hb3 hrb
        go_wp2
        refine bodyPost_ret (v := .tuple #[plv key (.slice o9 sv.length c9') (.slice oR9 rg.length cR9), .bool true]) (by simp [results, Try.results31, go_sem, r0, r1, r2]) rfl ⟨_, rfl, ?_, setQ_below HBF.out (Nat.le_succ _) _ _ _⟩
        rw [HPM.out, if_pos trivial, setQ_size]
        exact InPm.mono (HIN.out.step (stp_setQ v3 (w.heap.size + 1) _ _ _) (.inl (by omega))) (by omega)

end Go.Proofs.Ytldjaapbkihibaa

