/- The model's l4replay: the pool that commands come to. -/
import Derived.Test.YtflakpmcgopdaaaGrCut4
import Derived.Deep.RegionHeld3
namespace Go.Proofs.Ytflakpmcgopdaaa
open Go.ChangeShapes Go.WideShapes Go.ChangeAt Go.RowKit Go.Joins
set_option linter.unusedVariables false
set_option linter.unusedSimpArgs false

/-- Tables of the call's own: each is the one of a list of those who serve. -/
def PTabs (w : World) (base : Nat) (key : Int) (hs : List Hd) (R : List (List Bk)) : Prop := hs.length = R.length ∧ ∀ i, i < R.length → ∃ o3 c3 hs8, hs.getD i (none, 0, 0) = (o3, 8, c3) ∧ ownL layH 43 w base (.slice o3 8 c3) hs8 ∧ Tab (fun b => pairI key b (R.getD i [])) 8 w base hs8
theorem PTabs.kept {w w' : World} {base : Nat} {key : Int} {hs : List Hd} {R : List (List Bk)} (h : PTabs w base key hs R) (hb : Below w.heap.size w w') : PTabs w' base key hs R :=
  ⟨h.1, fun i hi => by obtain ⟨o3, c3, hs8, e, h1, h2⟩ := h.2 i hi; exact ⟨o3, c3, hs8, e, own_kept h1 hb, h2.kept hb⟩⟩
theorem PTabs.putB {w : World} {base : Nat} {key : Int} {hs : List Hd} {R : List (List Bk)} {B : Nat} {c : Array Value} (h : PTabs w base key hs R) (hB : w.heap[B]? = some (.cells c 26 (0, 0))) (j : Nat) (u : Value) : PTabs (w.setCell ⟨B, j, none⟩ u) base key hs R :=
  ⟨h.1, fun i hi => by obtain ⟨o3, c3, hs8, e, h1, h2⟩ := h.2 i hi; exact ⟨o3, c3, hs8, e, own_putB h1 hB neP2 j u, h2.grown (grown_set w B j u) (fun q hq => own_box (h2.row q hq) hB neP3)⟩⟩
theorem PTabs.setP {w : World} {base : Nat} {key : Int} {hs : List Hd} {R : List (List Bk)} {B : Nat} {c : Array Value} (h : PTabs w base key hs R) (hB : w.heap[B]? = some (.cells c 26 (0, 0))) (x y z : Value) : PTabs (Go.Proofs.Ytflakpmcgopdaaa.setP w B x y z) base key hs R :=
  ((h.putB hB 0 x).putB (box_put hB 0 x) 1 y).putB (box_put (box_put hB 0 x) 1 y) 2 z
theorem PTabs.low {w : World} {base : Nat} {key : Int} {hs : List Hd} {R : List (List Bk)} {B : Nat} (h : PTabs w base key hs R) (hB : B < base) (j : Nat) (u : Value) : PTabs (w.setCell ⟨B, j, none⟩ u) base key hs R :=
  ⟨h.1, fun i hi => by
    obtain ⟨o3, c3, hs8, e, h1, h2⟩ := h.2 i hi
    refine ⟨o3, c3, hs8, e, own_low h1 hB j u, h2.grown (grown_set w B j u) (fun q hq => ?_)⟩
    cases hob : (hv hs8 q).ownBlock with
    | none => exact .inl rfl
    | some b => exact .inr (fun e => by have := ((h2.row q hq).lt b hob).1; injection e with e; omega)⟩
theorem PTabs.mono {w : World} {base b2 : Nat} {key : Int} {hs : List Hd} {R : List (List Bk)} (h : PTabs w base key hs R) (hb : b2 ≤ base) : PTabs w b2 key hs R :=
  ⟨h.1, fun i hi => by obtain ⟨o3, c3, hs8, e, h1, h2⟩ := h.2 i hi; exact ⟨o3, c3, hs8, e, own_mono h1 hb, Tab.mono h2 hb⟩⟩
theorem PTabs.cons {w : World} {base : Nat} {key : Int} {hs hs8 : List Hd} {R : List (List Bk)} {m : List Bk} {o3 : Option Addr} {c3 : Nat} (h : PTabs w base key hs R) (h1 : ownL layH 43 w base (.slice o3 8 c3) hs8) (h2 : Tab (fun b => pairI key b m) 8 w base hs8) : PTabs w base key ((o3, 8, c3) :: hs) (m :: R) :=
  ⟨by simp [h.1], fun i hi => by
    cases i with
    | zero => exact ⟨o3, c3, hs8, rfl, h1, h2⟩
    | succ i => simpa using h.2 i (by simpa using hi)⟩
theorem PTabs.take {w : World} {base : Nat} {key : Int} {hs : List Hd} {R : List (List Bk)} (n : Nat) (h : PTabs w base key hs R) : PTabs w base key (hs.take n) (R.take n) :=
  ⟨by simp [h.1], fun i hi => by
    have h1 : i < n := by simp at hi; omega
    have h2 : i < R.length := by simp at hi; omega
    have e1 : (hs.take n).getD i (none, 0, 0) = hs.getD i (none, 0, 0) := by simp [List.getD_eq_getElem?_getD, List.getElem?_take, h1]
    have e2 : (R.take n).getD i [] = R.getD i [] := by simp [List.getD_eq_getElem?_getD, List.getElem?_take, h1]
    rw [e1, e2]; exact h.2 i h2⟩
theorem ptabs_next {w x : World} {base b2 : Nat} {key : Int} {hs hs8 : List Hd} {R : List (List Bk)} {m : List Bk} {o3 : Option Addr} {c3 : Nat} (h : PTabs w base key hs R) (hb : Below w.heap.size w x) (h1 : ownL layH 43 x b2 (.slice o3 8 c3) hs8) (h2 : Tab (fun b => pairI key b m) 8 x b2 hs8) (hle : base ≤ b2) : PTabs x base key (((o3, 8, c3) :: hs).take 3) ((m :: R).take 3) :=
  ((h.kept hb).cons (own_mono h1 hle) (Tab.mono h2 hle)).take 3
/-- Those who served at the last times, the latest first. -/
def ringR (cs : List Cd) : Nat → List (List Bk)
  | 0 => [[]]
  | t + 1 => (servedOf cs (t + 1) :: ringR cs t).take 3
theorem runTo_back {cs : List Cd} {t : Nat} (h : (runTo cs cs.length).isSome = true) (ht : t ≤ cs.length) : ∃ l, runTo cs t = some l := by
  cases hr : runTo cs t with
  | some l => exact ⟨l, rfl⟩
  | none => rw [runTo_none hr ht] at h; cases h
theorem runTo_step {cs : List Cd} {t : Nat} {l : List Bk} (h : (runTo cs cs.length).isSome = true) (ht : t < cs.length) (hl : runTo cs t = some l) : ∃ m, cmdOkB (cs.getD t (0, 0, 0)).1 (cs.getD t (0, 0, 0)).2.1 (cs.getD t (0, 0, 0)).2.2 = true ∧ doL l (cs.getD t (0, 0, 0)).1 (cs.getD t (0, 0, 0)).2.1 (cs.getD t (0, 0, 0)).2.2 = some m ∧ runTo cs (t + 1) = some m := by
  obtain ⟨m, hm⟩ := runTo_back h (show t + 1 ≤ cs.length by omega)
  have hs := runTo_succ ht
  rw [hm, hl] at hs
  simp only [stepO, Option.bind_some] at hs
  split at hs
  · next hc => exact ⟨m, hc, hs.symm, hm⟩
  · cases hs

set_option maxRecDepth 100000 in
set_option maxHeartbeats 16000000 in
theorem l4replay_go (key : Int) (b off cap : Nat) (cs : List Cd) (w : World) (hbl : cs.length ≠ 0 → b < w.heap.size) (hcell : ∀ i, i < cs.length → ∀ j, j < layC.k → w.cell? ⟨b, off + i * layC.k + j, none⟩ = (layC.cs (cs.getD i layC.d))[j]?) (hk : keyB key = true) (hl : cs.length ≤ 100) (hrun : (runTo cs cs.length).isSome = true) (ob : Option Addr) (hob : cs.length ≠ 0 → ob = some ⟨b, off, none⟩) :
    Calls Try.prog 113 #[.int .i64 key, .slice ob cs.length cap] w fun e w' => ∃ o c oR cR hs, e = .returned (plv key (.slice o (servedOf cs cs.length).length c) (.slice oR hs.length cR)) ∧ ownK w' w.heap.size (.slice o (servedOf cs cs.length).length c) (servedOf cs cs.length) ∧ ownL layH 37 w' w.heap.size (.slice oR hs.length cR) hs ∧ PTabs w' w.heap.size key hs (ringR cs cs.length) ∧ hs.length ≤ 3 ∧ Below w.heap.size w w' := by
  have HC := hide hcell
  have HOB := hide hob
  have HBL := hide hbl
  have HN := hide hl
  have HRUN := hide hrun
  clear hcell hob hbl hrun
  obtain ⟨W0, hW0⟩ : ∃ W, (w.alloc (.cells #[.int .i64 0, .slice none 0 0, .slice none 0 0] 26)) = W := ⟨_, rfl⟩
  have hb_W0 : Below w.heap.size w W0 := by rw [← hW0]; exact ((Below.refl _ _).alloc (Nat.le_refl _) _)
  have HB := hide hb_W0
  clear hb_W0
  have zr : w.heap.size < W0.heap.size := by rw [← hW0]; simp
  have r0 : W0.cell? ⟨w.heap.size, 0, none⟩ = some (.int .i64 0) := by rw [← hW0]; simp [go_sem]
  have r1 : W0.cell? ⟨w.heap.size, 1, none⟩ = some (.slice none 0 0) := by rw [← hW0]; simp [go_sem]
  have r2 : W0.cell? ⟨w.heap.size, 2, none⟩ = some (.slice none 0 0) := by rw [← hW0]; simp [go_sem]
  have fr0 : W0.frozen? ⟨w.heap.size, 0, none⟩ = false := by rw [← hW0]; simp [go_sem]
  have fr1 : W0.frozen? ⟨w.heap.size, 1, none⟩ = false := by rw [← hW0]; simp [go_sem]
  have fr2 : W0.frozen? ⟨w.heap.size, 2, none⟩ = false := by rw [← hW0]; simp [go_sem]
  have hz0 := zr
  have HL := hide (l4new_any key W0 hk)
  go_enter Try.func113, Try.ntmps113
  go_wp2_with fail
  refine (HL.out).mono ?_
  rintro e v1 ⟨gR, rfl, hring, hb⟩
  have HRG := hide hring
  have hs1 := hb.size
  clear hring
  replace r0 := bC hb r0 zr
  replace r1 := bC hb r1 zr
  replace r2 := bC hb r2 zr
  replace fr0 := bF hb fr0 zr
  replace fr1 := bF hb fr1 zr
  replace fr2 := bF hb fr2 zr
  replace zr := Nat.lt_of_lt_of_le zr hb.size
  replace HB := hide (HB.out.trans (hb.mono HB.out.size))
  clear hb
  have r0v := r0
  have r1v := r1
  have r2v := r2
  have f0v := fr0
  have f1v := fr1
  have f2v := fr2
  have zrv := zr
  have HB1 := HB
  obtain ⟨W1, hW1⟩ : ∃ W, (v1.alloc (.cells #[.int .i64 key, .slice none 0 0, .slice (some ⟨gR, 0, none⟩) 1 1] 26)) = W := ⟨_, rfl⟩
  have hb_W1 : Below v1.heap.size v1 W1 := by rw [← hW1]; exact ((Below.refl _ _).alloc (Nat.le_refl _) _)
  replace r0 := bC hb_W1 r0 zr
  replace r1 := bC hb_W1 r1 zr
  replace r2 := bC hb_W1 r2 zr
  replace fr0 := bF hb_W1 fr0 zr
  replace fr1 := bF hb_W1 fr1 zr
  replace fr2 := bF hb_W1 fr2 zr
  replace zr := Nat.lt_of_lt_of_le zr hb_W1.size
  replace HB := hide (HB.out.trans (hb_W1.mono HB.out.size))
  clear hb_W1
  have zp : v1.heap.size < W1.heap.size := by rw [← hW1]; simp
  have p0 : W1.cell? ⟨v1.heap.size, 0, none⟩ = some (.int .i64 key) := by rw [← hW1]; simp [go_sem]
  have p1 : W1.cell? ⟨v1.heap.size, 1, none⟩ = some (.slice none 0 0) := by rw [← hW1]; simp [go_sem]
  have p2 : W1.cell? ⟨v1.heap.size, 2, none⟩ = some (.slice (some ⟨gR, 0, none⟩) 1 1) := by rw [← hW1]; simp [go_sem]
  obtain ⟨o3, c3, hs3, rg1, rg2, rg3⟩ := HRG.out
  have hb1 : Below v1.heap.size v1 W1 := by rw [← hW1]; exact (Below.refl _ _).alloc (Nat.le_refl _) _
  have HP : Hid (PBox W1 W0.heap.size v1.heap.size key [] [(o3, 8, c3)] none 0 (some ⟨gR, 0, none⟩) 1) := ⟨by rw [← hW1]; exact World.alloc_heap_new v1 _, World.ownsRow_nil _ _ _ _, own_kept rg1 hb1⟩
  have HPT : Hid (PTabs W1 W0.heap.size key [(o3, 8, c3)] (ringR cs 0)) := (PTabs.cons (R := []) (hs := []) ⟨rfl, fun i hi => absurd hi (Nat.not_lt_zero _)⟩ rg2 rg3).kept hb1
  clear rg1 rg2 rg3 HRG hb1
  go_wp2
  go_loopw [6] (fun iv wr => ∃ (t : Nat) (l : List Bk) (hs : List Hd) (o : Option Addr) (c : Nat) (oR : Option Addr) (cR : Nat), t ≤ cs.length ∧ iv = .int .i64 (t : Int) ∧ Hid (PBox wr W0.heap.size v1.heap.size key l hs o c oR cR) ∧ Hid (PTabs wr W0.heap.size key hs (ringR cs t)) ∧ Hid (runTo cs t = some l) ∧ Hid (hs.length ≤ 3) ∧ Hid (Below v1.heap.size v1 wr))
    (fun iv _ => cs.length - (intOf iv).toNat)
  case atStart => exact ⟨0, [], _, _, _, _, _, Nat.zero_le _, rfl, HP.out, HPT.out, rfl, (Nat.le_of_ble_eq_true rfl), by rw [← hW1]; exact (Below.refl _ _).alloc (Nat.le_refl _) _⟩
  case round =>
    obtain ⟨t, l, hs, o, c, oR, cR, htl, rfl, HPB, HPTB, HRT, HS3, HBR⟩ := hrel
    have hv1 := HBR.out.size
    clear r0 r1 r2 fr0 fr1 fr2 zr p0 p1 p2 zp hW0 hW1 HP HPT HB
    have HBB : Hid (Below w.heap.size w wr) := HB1.out.trans (HBR.out.mono HB1.out.size)
    have hpz : v1.heap.size < wr.heap.size := (Array.getElem?_eq_some_iff.1 HPB.out.box).1
    by_cases hlt : t < cs.length
    · skip
      have hlt' : (t : Int) < (cs.length : Int) := by omega
      have ht0 : (0 : Int) ≤ (t : Int) := by omega
      have hob := HOB.out (by omega)
      have hbl := HBL.out (by omega)
      subst hob
      obtain ⟨hbo, hll⟩ := runTo_ok t l (by omega) HRT.out
      obtain ⟨m, hc, hdo, hnx⟩ := runTo_step HRUN.out hlt HRT.out
      obtain ⟨c0, c1, c2⟩ := RdL.cmd (C := w.heap.size) HC.out t hlt
      replace c0 := (HBB.out.cell (p := ⟨b, off + t * 3, none⟩) hbl).trans c0
      replace c1 := (HBB.out.cell (p := ⟨b, off + t * 3 + 1, none⟩) hbl).trans c1
      replace c2 := (HBB.out.cell (p := ⟨b, off + t * 3 + 2, none⟩) hbl).trans c2
      obtain ⟨x, y, u, hxyu⟩ : ∃ x y u, cs.getD t (0, 0, 0) = (x, y, u) := ⟨_, _, _, rfl⟩
      rw [hxyu] at c0 c1 c2 hc hdo
      dsimp only at c0 c1 c2 hc hdo
      clear hxyu
      have HNX := hide hnx
      have HRN := hide (show ringR cs (t + 1) = (m :: ringR cs t).take 3 by rw [ringR]; unfold servedOf; rw [hnx]; rfl)
      clear hnx
      have hs3 := HS3.out
      have hbz : b < wr.heap.size := by have := HBB.out.size; omega
      have hbp : b < v1.heap.size := by have := HB1.out.size; omega
      have HRB := hide (ownL.rds (L := layK) HPB.out.backs)
      have HRR := hide (ownL.rds (L := layH) HPB.out.ring)
      have hcr := capH HPB.out.ring
      have HY := hide (fun W (hb : Below wr.heap.size wr W) => l4do_yes key o c l oR cR hs x y u m W hk hbo hc hdo (by have := HN.out; omega) ((HRB.out.kept hb (Nat.le_refl _)).le hb.size) ((HRR.out.kept hb (Nat.le_refl _)).le hb.size) hcr hs3)
      clear hc hdo hcr HRB HRR
      have p0 : wr.cell? ⟨v1.heap.size, 0, none⟩ = some (.int .i64 key) := bx_cell HPB.out.box 0 _ rfl
      have p1 : wr.cell? ⟨v1.heap.size, 1, none⟩ = some (.slice o l.length c) := bx_cell HPB.out.box 1 _ rfl
      have p2 : wr.cell? ⟨v1.heap.size, 2, none⟩ = some (.slice oR hs.length cR) := bx_cell HPB.out.box 2 _ rfl
      have hW0v : W0.heap.size ≤ wr.heap.size := by omega
      go_wp2
      go_region_with (first | (go_at_call 88; have hc_ := HY.out wr.drew (Below.drew (Below.refl _ _)); with_reducible refine hc_.mono ?_; clear hc_; rintro e x0 ⟨o2, d2, oR2, n2, dR2, o3, d3, hs3', rfl, hn2, ow2, owR, ow3, tb3, hb⟩; have hp0 : Below wr.heap.size wr x0 := Below.trans (show Below wr.heap.size wr wr.drew from Below.drew (Below.refl _ _)) (hb.mono (by simp)); have sp0 := hp0.size; have ow2 := own_mono ow2 (show W0.heap.size ≤ _ by (try simp) <;> omega); have owR := own_mono owR (show W0.heap.size ≤ _ by (try simp) <;> omega); have pt := ptabs_next HPTB.out hp0 ow3 tb3 (show W0.heap.size ≤ _ by (try simp) <;> omega); rw [← HRN.out] at pt; have hl3 := List.length_take_le 3 ((o3, 8, d3) :: hs); generalize List.take 3 ((o3, 8, d3) :: hs) = hs2 at hn2 owR hl3 pt; subst hn2; have k0 := bC hp0 c0 hbz; have k1 := bC hp0 c1 hbz; have k2 := bC hp0 c2 hbz; have hbx := (hp0.block v1.heap.size hpz).trans HPB.out.box; have pc0 : x0.cell? ⟨v1.heap.size, 0, none⟩ = some (.int .i64 key) := bx_cell hbx 0 _ rfl; have pf0 := bx_frozen hbx 0; have pc1 : x0.cell? ⟨v1.heap.size, 1, none⟩ = some (.slice o l.length c) := bx_cell hbx 1 _ rfl; have pf1 := bx_frozen hbx 1; have pc2 : x0.cell? ⟨v1.heap.size, 2, none⟩ = some (.slice oR hs.length cR) := bx_cell hbx 2 _ rfl; have pf2 := bx_frozen hbx 2; have s0 : (((x0.setCell ⟨v1.heap.size, 0, none⟩ (.int .i64 key)).setCell ⟨v1.heap.size, 1, none⟩ (.slice o2 m.length d2)).setCell ⟨v1.heap.size, 2, none⟩ (.slice oR2 hs2.length dR2)).cell? ⟨b, off + t * 3, none⟩ = some (.int .i64 x) := setP_cell k0 hbp; have s1 : (((x0.setCell ⟨v1.heap.size, 0, none⟩ (.int .i64 key)).setCell ⟨v1.heap.size, 1, none⟩ (.slice o2 m.length d2)).setCell ⟨v1.heap.size, 2, none⟩ (.slice oR2 hs2.length dR2)).cell? ⟨b, off + t * 3 + 1, none⟩ = some (.int .i64 y) := setP_cell k1 hbp; have s2 : (((x0.setCell ⟨v1.heap.size, 0, none⟩ (.int .i64 key)).setCell ⟨v1.heap.size, 1, none⟩ (.slice o2 m.length d2)).setCell ⟨v1.heap.size, 2, none⟩ (.slice oR2 hs2.length dR2)).cell? ⟨b, off + t * 3 + 2, none⟩ = some (.int .i64 u) := setP_cell k2 hbp; have HPN := hide (PBox.set (key := key) hbx rfl ow2 owR rfl); have HPTN := hide (PTabs.setP pt hbx (.int .i64 key) (.slice o2 m.length d2) (.slice oR2 hs2.length dR2)); have HL3 := hide hl3; have HP0 := hide hp0; clear hb ow2 owR ow3 tb3 pt hl3 hp0 hbx))
      all_goals (have HBN := hide (setP_below (HBR.out.trans (HP0.out.mono hv1)) (Nat.le_refl _) (.int .i64 key) (.slice o2 m.length d2) (.slice oR2 hs2.length dR2)); go_wp2; go_roundw; (case rel => exact ⟨t + 1, m, hs2, o2, d2, oR2, dR2, by omega, by go_num, HPN.out, HPTN.out, HNX.out, HL3.out, HBN.out⟩); (case measure => (simp [intOf]; omega)))
    · have e : t = cs.length := by omega
      subst e
      have hlz : ¬ ((cs.length : Int) < (cs.length : Int)) := by omega
      have hsv : servedOf cs cs.length = l := by unfold servedOf; rw [HRT.out]; rfl
      have HSV := hide hsv
      clear hsv
      have p0 : wr.cell? ⟨v1.heap.size, 0, none⟩ = some (.int .i64 key) := bx_cell HPB.out.box 0 _ rfl
      have p1 : wr.cell? ⟨v1.heap.size, 1, none⟩ = some (.slice o l.length c) := bx_cell HPB.out.box 1 _ rfl
      have p2 : wr.cell? ⟨v1.heap.size, 2, none⟩ = some (.slice oR hs.length cR) := bx_cell HPB.out.box 2 _ rfl
      have q0 := bC HBR.out r0v zrv
      have fq0 := bF HBR.out f0v zrv
      have q1 := bC HBR.out r1v zrv
      have fq1 := bF HBR.out f1v zrv
      have q2 := bC HBR.out r2v zrv
      have fq2 := bF HBR.out f2v zrv
      go_wp2
      refine bodyPost_ret (v := plv key (.slice o l.length c) (.slice oR hs.length cR)) (by simp [results, Try.results113, go_sem, q0, q1, q2]) rfl ⟨o, c, oR, cR, hs, by rw [HSV.out], ?_, ?_, ?_, HS3.out, setP_below HBB.out (Nat.le_refl _) _ _ _⟩
      · rw [HSV.out]; exact own_mono (own_low (own_low (own_low HPB.out.backs hz0 0 _) hz0 1 _) hz0 2 _) (by omega)
      · exact own_mono (own_low (own_low (own_low HPB.out.ring hz0 0 _) hz0 1 _) hz0 2 _) (by omega)
      · exact PTabs.mono (((HPTB.out.low hz0 0 _).low hz0 1 _).low hz0 2 _) (by omega)

end Go.Proofs.Ytflakpmcgopdaaa
