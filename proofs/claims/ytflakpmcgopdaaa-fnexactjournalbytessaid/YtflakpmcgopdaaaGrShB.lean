/- Several texts in one: SRep, LBytes, LMark, ShB. -/
import Derived.Test.YtflakpmcgopdaaaGrSJCut
import Derived.Deep.RegionHeld3
import Derived.Test.YtflakpmcgopdaaaBytes
import Derived.Test.YtflakpmcgopdaaaGrPlaceMath
/- The model's l4replay: the pool that commands come to. -/
namespace Go.Proofs.Ytflakpmcgopdaaa
open Go.ChangeShapes Go.WideShapes Go.ChangeAt Go.RowKit Go.Joins
set_option linter.unusedVariables false
set_option linter.unusedSimpArgs false

/-- Tables of the call's own: each is the one of a list of those who serve. -/
def PTabs (w : World) (base : Nat) (key : Int) (hs : List Hd) (R : List (List Bk)) : Prop := hs.length = R.length ∧ ∀ i, i < R.length → ∃ o3 c3 hs8, hs.getD i (none, 0, 0) = (o3, 8, c3) ∧ ownL layH 43 w base (.slice o3 8 c3) hs8 ∧ Tab (fun b => pairI key b (R.getD i [])) 8 w base hs8
theorem PTabs.kept {w w' : World} {base : Nat} {key : Int} {hs : List Hd} {R : List (List Bk)} (h : PTabs w base key hs R) (hb : Below w.heap.size w w') : PTabs w' base key hs R :=
  ⟨h.1, fun i hi => by obtain ⟨o3, c3, hs8, e, h1, h2⟩ := h.2 i hi; exact ⟨o3, c3, hs8, e, own_kept h1 hb, h2.kept hb⟩⟩
theorem PTabs.putB {w : World} {base : Nat} {key : Int} {hs : List Hd} {R : List (List Bk)} {B : Nat} {c : Array Value} (h : PTabs w base key hs R) (hB : w.heap[B]? = some (.cells c 26 (0, 0))) (j : Nat) (u : Value) : PTabs (w.setCell ⟨B, j, none⟩ u) base key hs R :=
  ⟨h.1, fun i hi => by obtain ⟨o3, c3, hs8, e, h1, h2⟩ := h.2 i hi; exact ⟨o3, c3, hs8, e, own_putB h1 hB neP2 j u, h2.grown (grown_set w B j u) (fun q hq => own_box (h2.row q hq) hB neP3)⟩⟩
theorem PTabs.setP {w : World} {base : Nat} {key : Int} {hs : List Hd} {R : List (List Bk)} {B : Nat} {c : Array Value} (h : PTabs w base key hs R) (hB : w.heap[B]? = some (.cells c 26 (0, 0))) (x y z : Value) : PTabs (Go.Proofs.Ytflakpmcgopdaaa.setP w B x y z) base key hs R :=
  ((h.putB hB 0 x).putB (box_put hB 0 x) 1 y).putB (box_put (box_put hB 0 x) 1 y) 2 z
theorem PTabs.low {w : World} {base : Nat} {key : Int} {hs : List Hd} {R : List (List Bk)} {B : Nat} (h : PTabs w base key hs R) (hB : B < base) (j : Nat) (u : Value) : PTabs (w.setCell ⟨B, j, none⟩ u) base key hs R :=
  ⟨h.1, fun i hi => by
    obtain ⟨o3, c3, hs8, e, h1, h2⟩ := h.2 i hi
    refine ⟨o3, c3, hs8, e, own_low h1 hB j u, h2.grown (grown_set w B j u) (fun q hq => ?_)⟩
    cases hob : (hv hs8 q).ownBlock with
    | none => exact .inl rfl
    | some b => exact .inr (fun e => by have := ((h2.row q hq).lt b hob).1; injection e with e; omega)⟩
theorem PTabs.mono {w : World} {base b2 : Nat} {key : Int} {hs : List Hd} {R : List (List Bk)} (h : PTabs w base key hs R) (hb : b2 ≤ base) : PTabs w b2 key hs R :=
  ⟨h.1, fun i hi => by obtain ⟨o3, c3, hs8, e, h1, h2⟩ := h.2 i hi; exact ⟨o3, c3, hs8, e, own_mono h1 hb, Tab.mono h2 hb⟩⟩
theorem PTabs.cons {w : World} {base : Nat} {key : Int} {hs hs8 : List Hd} {R : List (List Bk)} {m : List Bk} {o3 : Option Addr} {c3 : Nat} (h : PTabs w base key hs R) (h1 : ownL layH 43 w base (.slice o3 8 c3) hs8) (h2 : Tab (fun b => pairI key b m) 8 w base hs8) : PTabs w base key ((o3, 8, c3) :: hs) (m :: R) :=
  ⟨by simp [h.1], fun i hi => by
    cases i with
    | zero => exact ⟨o3, c3, hs8, rfl, h1, h2⟩
    | succ i => simpa using h.2 i (by simpa using hi)⟩
theorem PTabs.take {w : World} {base : Nat} {key : Int} {hs : List Hd} {R : List (List Bk)} (n : Nat) (h : PTabs w base key hs R) : PTabs w base key (hs.take n) (R.take n) :=
  ⟨by simp [h.1], fun i hi => by
    have h1 : i < n := by simp at hi; omega
    have h2 : i < R.length := by simp at hi; omega
    have e1 : (hs.take n).getD i (none, 0, 0) = hs.getD i (none, 0, 0) := by simp [List.getD_eq_getElem?_getD, List.getElem?_take, h1]
    have e2 : (R.take n).getD i [] = R.getD i [] := by simp [List.getD_eq_getElem?_getD, List.getElem?_take, h1]
    rw [e1, e2]; exact h.2 i h2⟩
theorem ptabs_next {w x : World} {base b2 : Nat} {key : Int} {hs hs8 : List Hd} {R : List (List Bk)} {m : List Bk} {o3 : Option Addr} {c3 : Nat} (h : PTabs w base key hs R) (hb : Below w.heap.size w x) (h1 : ownL layH 43 x b2 (.slice o3 8 c3) hs8) (h2 : Tab (fun b => pairI key b m) 8 x b2 hs8) (hle : base ≤ b2) : PTabs x base key (((o3, 8, c3) :: hs).take 3) ((m :: R).take 3) :=
  ((h.kept hb).cons (own_mono h1 hle) (Tab.mono h2 hle)).take 3
/-- Those who served at the last times, the latest first. -/
def ringR (cs : List Cd) : Nat → List (List Bk)
  | 0 => [[]]
  | t + 1 => (servedOf cs (t + 1) :: ringR cs t).take 3
theorem runTo_back {cs : List Cd} {t : Nat} (h : (runTo cs cs.length).isSome = true) (ht : t ≤ cs.length) : ∃ l, runTo cs t = some l := by
  cases hr : runTo cs t with
  | some l => exact ⟨l, rfl⟩
  | none => rw [runTo_none hr ht] at h; cases h
theorem runTo_step {cs : List Cd} {t : Nat} {l : List Bk} (h : (runTo cs cs.length).isSome = true) (ht : t < cs.length) (hl : runTo cs t = some l) : ∃ m, cmdOkB (cs.getD t (0, 0, 0)).1 (cs.getD t (0, 0, 0)).2.1 (cs.getD t (0, 0, 0)).2.2 = true ∧ doL l (cs.getD t (0, 0, 0)).1 (cs.getD t (0, 0, 0)).2.1 (cs.getD t (0, 0, 0)).2.2 = some m ∧ runTo cs (t + 1) = some m := by
  obtain ⟨m, hm⟩ := runTo_back h (show t + 1 ≤ cs.length by omega)
  have hs := runTo_succ ht
  rw [hm, hl] at hs
  simp only [stepO, Option.bind_some] at hs
  split at hs
  · next hc => exact ⟨m, hc, hs.symm, hm⟩
  · cases hs

set_option maxRecDepth 100000 in
set_option maxHeartbeats 16000000 in
theorem l4replay_go (key : Int) (b off cap : Nat) (cs : List Cd) (w : World) (hbl : cs.length ≠ 0 → b < w.heap.size) (hcell : ∀ i, i < cs.length → ∀ j, j < layC.k → w.cell? ⟨b, off + i * layC.k + j, none⟩ = (layC.cs (cs.getD i layC.d))[j]?) (hk : keyB key = true) (hl : cs.length ≤ 100) (hrun : (runTo cs cs.length).isSome = true) (ob : Option Addr) (hob : cs.length ≠ 0 → ob = some ⟨b, off, none⟩) :
    Calls Try.prog 113 #[.int .i64 key, .slice ob cs.length cap] w fun e w' => ∃ o c oR cR hs, e = .returned (plv key (.slice o (servedOf cs cs.length).length c) (.slice oR hs.length cR)) ∧ ownK w' w.heap.size (.slice o (servedOf cs cs.length).length c) (servedOf cs cs.length) ∧ ownL layH 37 w' w.heap.size (.slice oR hs.length cR) hs ∧ PTabs w' w.heap.size key hs (ringR cs cs.length) ∧ hs.length ≤ 3 ∧ Below w.heap.size w w' := by
  have HC := hide hcell
  have HOB := hide hob
  have HBL := hide hbl
  have HN := hide hl
  have HRUN := hide hrun
  clear hcell hob hbl hrun
  obtain ⟨W0, hW0⟩ : ∃ W, (w.alloc (.cells #[.int .i64 0, .slice none 0 0, .slice none 0 0] 26)) = W := ⟨_, rfl⟩
  have hb_W0 : Below w.heap.size w W0 := by rw [← hW0]; exact ((Below.refl _ _).alloc (Nat.le_refl _) _)
  have HB := hide hb_W0
  clear hb_W0
  have zr : w.heap.size < W0.heap.size := by rw [← hW0]; simp
  have r0 : W0.cell? ⟨w.heap.size, 0, none⟩ = some (.int .i64 0) := by rw [← hW0]; simp [go_sem]
  have r1 : W0.cell? ⟨w.heap.size, 1, none⟩ = some (.slice none 0 0) := by rw [← hW0]; simp [go_sem]
  have r2 : W0.cell? ⟨w.heap.size, 2, none⟩ = some (.slice none 0 0) := by rw [← hW0]; simp [go_sem]
  have fr0 : W0.frozen? ⟨w.heap.size, 0, none⟩ = false := by rw [← hW0]; simp [go_sem]
  have fr1 : W0.frozen? ⟨w.heap.size, 1, none⟩ = false := by rw [← hW0]; simp [go_sem]
  have fr2 : W0.frozen? ⟨w.heap.size, 2, none⟩ = false := by rw [← hW0]; simp [go_sem]
  have hz0 := zr
  have HL := hide (l4new_any key W0 hk)
  go_enter Try.func113, Try.ntmps113
  go_wp2_with fail
  refine (HL.out).mono ?_
  rintro e v1 ⟨gR, rfl, hring, hb⟩
  have HRG := hide hring
  have hs1 := hb.size
  clear hring
  replace r0 := bC hb r0 zr
  replace r1 := bC hb r1 zr
  replace r2 := bC hb r2 zr
  replace fr0 := bF hb fr0 zr
  replace fr1 := bF hb fr1 zr
  replace fr2 := bF hb fr2 zr
  replace zr := Nat.lt_of_lt_of_le zr hb.size
  replace HB := hide (HB.out.trans (hb.mono HB.out.size))
  clear hb
  have r0v := r0
  have r1v := r1
  have r2v := r2
  have f0v := fr0
  have f1v := fr1
  have f2v := fr2
  have zrv := zr
  have HB1 := HB
  obtain ⟨W1, hW1⟩ : ∃ W, (v1.alloc (.cells #[.int .i64 key, .slice none 0 0, .slice (some ⟨gR, 0, none⟩) 1 1] 26)) = W := ⟨_, rfl⟩
  have hb_W1 : Below v1.heap.size v1 W1 := by rw [← hW1]; exact ((Below.refl _ _).alloc (Nat.le_refl _) _)
  replace r0 := bC hb_W1 r0 zr
  replace r1 := bC hb_W1 r1 zr
  replace r2 := bC hb_W1 r2 zr
  replace fr0 := bF hb_W1 fr0 zr
  replace fr1 := bF hb_W1 fr1 zr
  replace fr2 := bF hb_W1 fr2 zr
  replace zr := Nat.lt_of_lt_of_le zr hb_W1.size
  replace HB := hide (HB.out.trans (hb_W1.mono HB.out.size))
  clear hb_W1
  have zp : v1.heap.size < W1.heap.size := by rw [← hW1]; simp
  have p0 : W1.cell? ⟨v1.heap.size, 0, none⟩ = some (.int .i64 key) := by rw [← hW1]; simp [go_sem]
  have p1 : W1.cell? ⟨v1.heap.size, 1, none⟩ = some (.slice none 0 0) := by rw [← hW1]; simp [go_sem]
  have p2 : W1.cell? ⟨v1.heap.size, 2, none⟩ = some (.slice (some ⟨gR, 0, none⟩) 1 1) := by rw [← hW1]; simp [go_sem]
  obtain ⟨o3, c3, hs3, rg1, rg2, rg3⟩ := HRG.out
  have hb1 : Below v1.heap.size v1 W1 := by rw [← hW1]; exact (Below.refl _ _).alloc (Nat.le_refl _) _
  have HP : Hid (PBox W1 W0.heap.size v1.heap.size key [] [(o3, 8, c3)] none 0 (some ⟨gR, 0, none⟩) 1) := ⟨by rw [← hW1]; exact World.alloc_heap_new v1 _, World.ownsRow_nil _ _ _ _, own_kept rg1 hb1⟩
  have HPT : Hid (PTabs W1 W0.heap.size key [(o3, 8, c3)] (ringR cs 0)) := (PTabs.cons (R := []) (hs := []) ⟨rfl, fun i hi => absurd hi (Nat.not_lt_zero _)⟩ rg2 rg3).kept hb1
  clear rg1 rg2 rg3 HRG hb1
  go_wp2
  go_loopw [6] (fun iv wr => ∃ (t : Nat) (l : List Bk) (hs : List Hd) (o : Option Addr) (c : Nat) (oR : Option Addr) (cR : Nat), t ≤ cs.length ∧ iv = .int .i64 (t : Int) ∧ Hid (PBox wr W0.heap.size v1.heap.size key l hs o c oR cR) ∧ Hid (PTabs wr W0.heap.size key hs (ringR cs t)) ∧ Hid (runTo cs t = some l) ∧ Hid (hs.length ≤ 3) ∧ Hid (Below v1.heap.size v1 wr))
    (fun iv _ => cs.length - (intOf iv).toNat)
  case atStart => exact ⟨0, [], _, _, _, _, _, Nat.zero_le _, rfl, HP.out, HPT.out, rfl, (Nat.le_of_ble_eq_true rfl), by rw [← hW1]; exact (Below.refl _ _).alloc (Nat.le_refl _) _⟩
  case round =>
    obtain ⟨t, l, hs, o, c, oR, cR, htl, rfl, HPB, HPTB, HRT, HS3, HBR⟩ := hrel
    have hv1 := HBR.out.size
    clear r0 r1 r2 fr0 fr1 fr2 zr p0 p1 p2 zp hW0 hW1 HP HPT HB
    have HBB : Hid (Below w.heap.size w wr) := HB1.out.trans (HBR.out.mono HB1.out.size)
    have hpz : v1.heap.size < wr.heap.size := (Array.getElem?_eq_some_iff.1 HPB.out.box).1
    by_cases hlt : t < cs.length
    · skip
      have hlt' : (t : Int) < (cs.length : Int) := by omega
      have ht0 : (0 : Int) ≤ (t : Int) := by omega
      have hob := HOB.out (by omega)
      have hbl := HBL.out (by omega)
      subst hob
      obtain ⟨hbo, hll⟩ := runTo_ok t l (by omega) HRT.out
      obtain ⟨m, hc, hdo, hnx⟩ := runTo_step HRUN.out hlt HRT.out
      obtain ⟨c0, c1, c2⟩ := RdL.cmd (C := w.heap.size) HC.out t hlt
      replace c0 := (HBB.out.cell (p := ⟨b, off + t * 3, none⟩) hbl).trans c0
      replace c1 := (HBB.out.cell (p := ⟨b, off + t * 3 + 1, none⟩) hbl).trans c1
      replace c2 := (HBB.out.cell (p := ⟨b, off + t * 3 + 2, none⟩) hbl).trans c2
      obtain ⟨x, y, u, hxyu⟩ : ∃ x y u, cs.getD t (0, 0, 0) = (x, y, u) := ⟨_, _, _, rfl⟩
      rw [hxyu] at c0 c1 c2 hc hdo
      dsimp only at c0 c1 c2 hc hdo
      clear hxyu
      have HNX := hide hnx
      have HRN := hide (show ringR cs (t + 1) = (m :: ringR cs t).take 3 by rw [ringR]; unfold servedOf; rw [hnx]; rfl)
      clear hnx
      have hs3 := HS3.out
      have hbz : b < wr.heap.size := by have := HBB.out.size; omega
      have hbp : b < v1.heap.size := by have := HB1.out.size; omega
      have HRB := hide (ownL.rds (L := layK) HPB.out.backs)
      have HRR := hide (ownL.rds (L := layH) HPB.out.ring)
      have hcr := capH HPB.out.ring
      have HY := hide (fun W (hb : Below wr.heap.size wr W) => l4do_yes key o c l oR cR hs x y u m W hk hbo hc hdo (by have := HN.out; omega) ((HRB.out.kept hb (Nat.le_refl _)).le hb.size) ((HRR.out.kept hb (Nat.le_refl _)).le hb.size) hcr hs3)
      clear hc hdo hcr HRB HRR
      have p0 : wr.cell? ⟨v1.heap.size, 0, none⟩ = some (.int .i64 key) := bx_cell HPB.out.box 0 _ rfl
      have p1 : wr.cell? ⟨v1.heap.size, 1, none⟩ = some (.slice o l.length c) := bx_cell HPB.out.box 1 _ rfl
      have p2 : wr.cell? ⟨v1.heap.size, 2, none⟩ = some (.slice oR hs.length cR) := bx_cell HPB.out.box 2 _ rfl
      have hW0v : W0.heap.size ≤ wr.heap.size := by omega
      go_wp2
      go_region_with (first | (go_at_call 88; have hc_ := HY.out wr.drew (Below.drew (Below.refl _ _)); with_reducible refine hc_.mono ?_; clear hc_; rintro e x0 ⟨o2, d2, oR2, n2, dR2, o3, d3, hs3', rfl, hn2, ow2, owR, ow3, tb3, hb⟩; have hp0 : Below wr.heap.size wr x0 := Below.trans (show Below wr.heap.size wr wr.drew from Below.drew (Below.refl _ _)) (hb.mono (by simp)); have sp0 := hp0.size; have ow2 := own_mono ow2 (show W0.heap.size ≤ _ by (try simp) <;> omega); have owR := own_mono owR (show W0.heap.size ≤ _ by (try simp) <;> omega); have pt := ptabs_next HPTB.out hp0 ow3 tb3 (show W0.heap.size ≤ _ by (try simp) <;> omega); rw [← HRN.out] at pt; have hl3 := List.length_take_le 3 ((o3, 8, d3) :: hs); generalize List.take 3 ((o3, 8, d3) :: hs) = hs2 at hn2 owR hl3 pt; subst hn2; have k0 := bC hp0 c0 hbz; have k1 := bC hp0 c1 hbz; have k2 := bC hp0 c2 hbz; have hbx := (hp0.block v1.heap.size hpz).trans HPB.out.box; have pc0 : x0.cell? ⟨v1.heap.size, 0, none⟩ = some (.int .i64 key) := bx_cell hbx 0 _ rfl; have pf0 := bx_frozen hbx 0; have pc1 : x0.cell? ⟨v1.heap.size, 1, none⟩ = some (.slice o l.length c) := bx_cell hbx 1 _ rfl; have pf1 := bx_frozen hbx 1; have pc2 : x0.cell? ⟨v1.heap.size, 2, none⟩ = some (.slice oR hs.length cR) := bx_cell hbx 2 _ rfl; have pf2 := bx_frozen hbx 2; have s0 : (((x0.setCell ⟨v1.heap.size, 0, none⟩ (.int .i64 key)).setCell ⟨v1.heap.size, 1, none⟩ (.slice o2 m.length d2)).setCell ⟨v1.heap.size, 2, none⟩ (.slice oR2 hs2.length dR2)).cell? ⟨b, off + t * 3, none⟩ = some (.int .i64 x) := setP_cell k0 hbp; have s1 : (((x0.setCell ⟨v1.heap.size, 0, none⟩ (.int .i64 key)).setCell ⟨v1.heap.size, 1, none⟩ (.slice o2 m.length d2)).setCell ⟨v1.heap.size, 2, none⟩ (.slice oR2 hs2.length dR2)).cell? ⟨b, off + t * 3 + 1, none⟩ = some (.int .i64 y) := setP_cell k1 hbp; have s2 : (((x0.setCell ⟨v1.heap.size, 0, none⟩ (.int .i64 key)).setCell ⟨v1.heap.size, 1, none⟩ (.slice o2 m.length d2)).setCell ⟨v1.heap.size, 2, none⟩ (.slice oR2 hs2.length dR2)).cell? ⟨b, off + t * 3 + 2, none⟩ = some (.int .i64 u) := setP_cell k2 hbp; have HPN := hide (PBox.set (key := key) hbx rfl ow2 owR rfl); have HPTN := hide (PTabs.setP pt hbx (.int .i64 key) (.slice o2 m.length d2) (.slice oR2 hs2.length dR2)); have HL3 := hide hl3; have HP0 := hide hp0; clear hb ow2 owR ow3 tb3 pt hl3 hp0 hbx))
      all_goals (have HBN := hide (setP_below (HBR.out.trans (HP0.out.mono hv1)) (Nat.le_refl _) (.int .i64 key) (.slice o2 m.length d2) (.slice oR2 hs2.length dR2)); go_wp2; go_roundw; (case rel => exact ⟨t + 1, m, hs2, o2, d2, oR2, dR2, by omega, by go_num, HPN.out, HPTN.out, HNX.out, HL3.out, HBN.out⟩); (case measure => (simp [intOf]; omega)))
    · have e : t = cs.length := by omega
      subst e
      have hlz : ¬ ((cs.length : Int) < (cs.length : Int)) := by omega
      have hsv : servedOf cs cs.length = l := by unfold servedOf; rw [HRT.out]; rfl
      have HSV := hide hsv
      clear hsv
      have p0 : wr.cell? ⟨v1.heap.size, 0, none⟩ = some (.int .i64 key) := bx_cell HPB.out.box 0 _ rfl
      have p1 : wr.cell? ⟨v1.heap.size, 1, none⟩ = some (.slice o l.length c) := bx_cell HPB.out.box 1 _ rfl
      have p2 : wr.cell? ⟨v1.heap.size, 2, none⟩ = some (.slice oR hs.length cR) := bx_cell HPB.out.box 2 _ rfl
      have q0 := bC HBR.out r0v zrv
      have fq0 := bF HBR.out f0v zrv
      have q1 := bC HBR.out r1v zrv
      have fq1 := bF HBR.out f1v zrv
      have q2 := bC HBR.out r2v zrv
      have fq2 := bF HBR.out f2v zrv
      go_wp2
      refine bodyPost_ret (v := plv key (.slice o l.length c) (.slice oR hs.length cR)) (by simp [results, Try.results113, go_sem, q0, q1, q2]) rfl ⟨o, c, oR, cR, hs, by rw [HSV.out], ?_, ?_, ?_, HS3.out, setP_below HBB.out (Nat.le_refl _) _ _ _⟩
      · rw [HSV.out]; exact own_mono (own_low (own_low (own_low HPB.out.backs hz0 0 _) hz0 1 _) hz0 2 _) (by omega)
      · exact own_mono (own_low (own_low (own_low HPB.out.ring hz0 0 _) hz0 1 _) hz0 2 _) (by omega)
      · exact PTabs.mono (((HPTB.out.low hz0 0 _).low hz0 1 _).low hz0 2 _) (by omega)

end Go.Proofs.Ytflakpmcgopdaaa

/- Contracts of the laws' own helpers over bytes: szByteS, toByteS, eqByteS. -/
namespace Go.Proofs.Ytflakpmcgopdaaa
open Go.ChangeShapes Go.WideShapes Go.ChangeAt Go.RowKit Go.Joins
set_option linter.unusedVariables false
set_option linter.unusedSimpArgs false

def fillTo (l : List Int) (k : Nat) : List Int := l.take k ++ List.replicate (l.length - k) 0
theorem fillTo_length (l : List Int) (k : Nat) (h : k ≤ l.length) : (fillTo l k).length = l.length := by simp [fillTo]; omega
theorem fillTo_zero (l : List Int) : fillTo l 0 = List.replicate l.length 0 := by simp [fillTo]
theorem fillTo_all (l : List Int) : fillTo l l.length = l := by simp [fillTo]
theorem fillTo_set (l : List Int) (k : Nat) (h : k < l.length) : ((fillTo l k).map (Value.int .u8)).set k (.int .u8 (l.getD k 0)) = (fillTo l (k + 1)).map (Value.int .u8) := by
  rw [← List.map_set]
  congr 1
  have e1 : l.length - k = (l.length - (k + 1)) + 1 := by omega
  have e2 : (l.take k).length = k := by simp; omega
  unfold fillTo
  rw [e1, List.replicate_succ, List.set_append_right _ _ (by omega), e2, Nat.sub_self, List.set_cons_zero, List.take_succ_eq_append_getElem h]
  have e3 : l.getD k 0 = l[k] := by simp [h]
  rw [e3, List.append_assoc]
  rfl

/-- The row that is filled, at its (k+1)st store. -/
theorem fill_step {w wr : World} {g : Nat} {l : List Int} {k : Nat} (hk : k < l.length) (hg : w.heap.size ≤ g) (hown : wr.ownsRow w.heap.size 5 1 (.slice (some ⟨g, 0, none⟩) l.length l.length) l.length ((fillTo l k).map (Value.int .u8)))
    (hB : Below w.heap.size w wr) : (wr.setCell ⟨g, k, none⟩ (.int .u8 (l.getD k 0))).ownsRow w.heap.size 5 1 (.slice (some ⟨g, 0, none⟩) l.length l.length) l.length ((fillTo l (k + 1)).map (Value.int .u8)) ∧
      Below w.heap.size w (wr.setCell ⟨g, k, none⟩ (.int .u8 (l.getD k 0))) := by
  have h := (hown.stored k (.int .u8 (l.getD k 0))).1
  rw [fillTo_set l k hk] at h
  exact ⟨h, hB.setCell hg _⟩

set_option maxHeartbeats 1000000 in
theorem toByteS_any (o : Option Addr) (cap : Nat) (l : List Int) (w : World) (hR : Rd w o l) (hB8 : isB l) (hlen : l.length ≤ 1048576) :
    Calls Try.prog 65 #[.slice o l.length cap] w fun e w' => ∃ g, e = .returned (.slice (some ⟨g, 0, none⟩) l.length l.length) ∧ ownB w' w.heap.size (.slice (some ⟨g, 0, none⟩) l.length l.length) l ∧ Below w.heap.size w w' := by
  obtain ⟨i0, hi, hz0, hz1, hz2⟩ := info_parts infoU8
  have hB : Below w.heap.size w w := Below.refl _ _
  go_enter Try.func65, Try.ntmps65
  go_wp2_with (at_make; refine wpList_make_full _ rfl _ _ 22 rfl w.heap.size 5 i0 (.int .u8 0) 1 Try.underlying22 hi hz0 hz1 _ _ _ _ l.length rfl rfl rfl rfl ?b2 ?b3 ?b4 ?_)
  case b2 => rw [hz2]; omega
  case b3 => unfold maxLen; omega
  case b4 => simp
  intro w1 hown hgrow
  have hB1 : Below w.heap.size w w1 := hB.grown hgrow (Nat.le_refl _) (fun k h => by cases h)
  have hown1 : w1.ownsRow w.heap.size 5 1 (.slice (some ⟨w.heap.size, 0, none⟩) l.length l.length) l.length ((fillTo l 0).map (Value.int .u8)) := by
    rw [fillTo_zero]; simpa [toList_madeCells_one, Value.cells] using hown
  clear hown hgrow hB
  go_wp2
  go_loopw [4] (fun i wr => ∃ k : Nat, k ≤ l.length ∧ i = .int .i64 k ∧ wr.ownsRow w.heap.size 5 1 (.slice (some ⟨w.heap.size, 0, none⟩) l.length l.length) l.length ((fillTo l k).map (Value.int .u8)) ∧ Below w.heap.size w wr)
    (fun i _ => l.length - (intOf i).toNat)
  case atStart => exact ⟨0, Nat.zero_le _, rfl, hown1, hB1⟩
  case round =>
    obtain ⟨k, hk, rfl, hown, hBr⟩ := hrel
    by_cases hlt : k < l.length
    · rcases hR with hR | ⟨b, off, rfl, hbl, hcell⟩
      · subst hR; simp at hlt
      have hc : wr.cell? ⟨b, off + k, none⟩ = some (.int .u8 (l.getD k 0)) := (hBr.cell (p := ⟨b, off + k, none⟩) hbl).trans (hcell k hlt)
      have hcl := hown.cellAt k (by omega)
      have hfr := hown.frozenAt k
      obtain ⟨u, hu⟩ : ∃ u, wr.cell? ⟨w.heap.size, k, none⟩ = some u := ⟨_, hcl.trans (List.getElem?_eq_getElem (by simp [fillTo_length l k hk]; omega))⟩
      have R := fill_step (g := w.heap.size) hlt (Nat.le_refl _) hown hBr
      have HR := hide R
      clear R hown hBr hcl hB1 hown1
      generalize hx : l.getD k 0 = x at *
      go_wp2
      go_roundw
      case rel => exact ⟨k + 1, by omega, by go_num, HR.out.1, HR.out.2⟩
      case measure => simp [intOf]; omega
    · have e : k = l.length := by omega
      subst e
      rw [fillTo_all] at hown
      go_wp2
      go_ret
      exact ⟨w.heap.size, rfl, hown, hBr⟩

set_option maxHeartbeats 1000000 in
theorem eqByteS_any (o1 o2 : Option Addr) (c1 c2 : Nat) (l1 l2 : List Int) (w : World) (h1 : Rd w o1 l1) (h2 : Rd w o2 l2) (hl1 : l1.length ≤ 1048576) (hl2 : l2.length ≤ 1048576) :
    Calls Try.prog 61 #[.slice o1 l1.length c1, .slice o2 l2.length c2] w fun e w' => e = .returned (.bool (decide (l1 = l2))) ∧ Below w.heap.size w w' := by
  by_cases hlen : l1.length = l2.length
  · have hne : ((l1.length : Int) != (l2.length : Int)) = false := by simp [hlen]
    have HL := hide hlen
    have hle : l1.length ≤ l2.length := by omega
    have hge : l2.length ≤ l1.length := by omega
    clear hlen
    go_enter Try.func61, Try.ntmps61
    go_wp2
    go_loopw [5] (fun i wr => ∃ k : Nat, k ≤ l1.length ∧ i = .int .i64 k ∧ l1.take k = l2.take k ∧ Below w.heap.size w wr)
      (fun i _ => l1.length - (intOf i).toNat)
    case atStart => exact ⟨0, Nat.zero_le _, rfl, rfl, Below.refl _ _⟩
    case round =>
      obtain ⟨k, hk, rfl, htk, hBr⟩ := hrel
      have HT := hide htk
      by_cases hlt : k < l1.length
      · rcases h1 with h1 | ⟨b1, off1, rfl, hb1, hcell1⟩
        · subst h1; simp at hlt
        rcases h2 with h2 | ⟨b2, off2, rfl, hb2, hcell2⟩
        · subst h2; simp at hle; simp [hle] at hlt
        have hlt2 : k < l2.length := by omega
        have hc1 : wr.cell? ⟨b1, off1 + k, none⟩ = some (.int .u8 (l1.getD k 0)) := (hBr.cell (p := ⟨b1, off1 + k, none⟩) hb1).trans (hcell1 k hlt)
        have hc2 : wr.cell? ⟨b2, off2 + k, none⟩ = some (.int .u8 (l2.getD k 0)) := (hBr.cell (p := ⟨b2, off2 + k, none⟩) hb2).trans (hcell2 k (by omega))
        have HB := hide hBr
        have t1 := hide (take_succ_getD l1 k hlt)
        have t2 := hide (take_succ_getD l2 k hlt2)
        have n12 : l1 = l2 → l1.getD k 0 = l2.getD k 0 := fun h => by rw [h]
        have N12 := hide n12
        clear n12 hcell1 hcell2
        have i1 : (k : Int) < (l1.length : Int) := by omega
        have i2 : (k : Int) < (l2.length : Int) := by omega
        generalize l1.getD k 0 = x at *
        generalize l2.getD k 0 = y at *
        clear htk hBr
        by_cases hxy : x = y
        · have hb : (x != y) = false := by simp [hxy]
          have HX := hide hxy
          clear hxy N12
          go_wp2
          go_quiet (fail)
          go_wp2
          go_roundw
          case rel =>
            refine ⟨k + 1, by omega, by go_num, ?_, ?_⟩
            · rw [t1.out, t2.out, HT.out, HX.out]
            · exact below_drewN HB.out _
          case measure => simp [intOf]; omega
        · have hb : (x != y) = true := by simp [hxy]
          have HX : Hid (l1 ≠ l2) := fun h => hxy (N12.out h)
          clear hxy N12 t1 t2
          go_wp2
          go_quiet (fail)
          go_wp2
          go_ret
          exact ⟨ret_bool (decide_eq_false HX.out).symm, below_drewN HB.out _⟩
      · have e : l1 = l2 := by
          have := htk; rw [List.take_of_length_le (by omega), List.take_of_length_le (by omega)] at this; exact this
        have HE := hide e
        have HB := hide hBr
        clear e htk hBr
        go_wp2
        go_ret
        exact ⟨ret_bool (decide_eq_true HE.out).symm, HB.out⟩
  · have hne : ((l1.length : Int) != (l2.length : Int)) = true := by simp; omega
    have HE : Hid (l1 ≠ l2) := fun h => hlen (by rw [h])
    go_enter Try.func61, Try.ntmps61
    go_wp2
    go_ret
    exact ⟨ret_bool (decide_eq_false HE.out).symm, Below.refl _ _⟩

theorem eqByteS_same (o1 o2 : Option Addr) (c1 c2 : Nat) (l : List Int) (w : World) (h1 : Rd w o1 l) (h2 : Rd w o2 l) (hl : l.length ≤ 1048576) :
    Calls Try.prog 61 #[.slice o1 l.length c1, .slice o2 l.length c2] w fun e w' => e = .returned (.bool true) ∧ Below w.heap.size w w' := by
  have := eqByteS_any o1 o2 c1 c2 l l w h1 h2 hl hl
  simpa using this

end Go.Proofs.Ytflakpmcgopdaaa

/- The laws' marks: a row is filled with numbers that go up, and held against them. -/
namespace Go.Proofs.Ytflakpmcgopdaaa
open Go.ChangeShapes Go.WideShapes Go.ChangeAt Go.RowKit Go.Joins
set_option linter.unusedVariables false
set_option linter.unusedSimpArgs false

def markL (k : Int) (n : Nat) : List Int := (List.range n).map (fun (i : Nat) => (k + (i : Int)) % 256)
theorem markL_length (k : Int) (n : Nat) : (markL k n).length = n := by simp [markL]
theorem markL_get (k : Int) (n i : Nat) (h : i < n) : (markL k n).getD i 0 = (k + (i : Int)) % 256 := by simp [markL, h]
def markTo (l : List Int) (k : Int) (i : Nat) : List Int := markL k i ++ l.drop i
theorem markTo_zero (l : List Int) (k : Int) : markTo l k 0 = l := by simp [markTo, markL]
theorem markTo_all (l : List Int) (k : Int) : markTo l k l.length = markL k l.length := by simp [markTo]
theorem markTo_length (l : List Int) (k : Int) (i : Nat) (h : i ≤ l.length) : (markTo l k i).length = l.length := by simp [markTo, markL]; omega
theorem markTo_set (l : List Int) (k : Int) (i : Nat) (h : i < l.length) : ((markTo l k i).map (Value.int .u8)).set i (.int .u8 ((k + (i : Int)) % 256)) = (markTo l k (i + 1)).map (Value.int .u8) := by
  rw [← List.map_set]
  congr 1
  have e2 : (markL k i).length = i := markL_length k i
  unfold markTo
  rw [List.drop_eq_getElem_cons h, List.set_append_right _ _ (by omega), e2, Nat.sub_self, List.set_cons_zero]
  have e3 : markL k (i + 1) = markL k i ++ [(k + (i : Int)) % 256] := by simp [markL, List.range_succ]
  rw [e3, List.append_assoc]
  rfl

theorem mark_step {w wr : World} {base g cap : Nat} {l : List Int} {k : Int} {i : Nat} (hi : i < l.length) (hown : wr.ownsRow base 5 1 (.slice (some ⟨g, 0, none⟩) l.length cap) l.length ((markTo l k i).map (Value.int .u8)))
    (hg : w.grownBy wr (some g)) : (wr.setCell ⟨g, i, none⟩ (.int .u8 ((k + (i : Int)) % 256))).ownsRow base 5 1 (.slice (some ⟨g, 0, none⟩) l.length cap) l.length ((markTo l k (i + 1)).map (Value.int .u8)) ∧
      w.grownBy (wr.setCell ⟨g, i, none⟩ (.int .u8 ((k + (i : Int)) % 256))) (some g) := by
  have h := hown.stored i (.int .u8 ((k + (i : Int)) % 256))
  rw [markTo_set l k i hi] at h
  exact ⟨h.1, ⟨hg.os, hg.tape, hg.output, by have := h.2.size; have := hg.size; omega, fun j hj hne => (h.2.block j (Nat.lt_of_lt_of_le hj hg.size) hne).trans (hg.block j hj hne)⟩⟩

set_option maxHeartbeats 1000000 in
theorem markByteS_any (base : Nat) (v : Value) (l : List Int) (k : Int) (w : World) (hv : ownB w base v l) (h0 : 0 ≤ k) (h1 : k ≤ 1073741824) (hlen : l.length ≤ 1048576) :
    Calls Try.prog 62 #[v, .int .i64 k] w fun e w' => e = .returned (.int .i64 (k + l.length)) ∧ ownB w' base v (markL k l.length) ∧ w.grownBy w' v.ownBlock := by
  rcases hv.2 with ⟨rfl, h2⟩ | ⟨g, cap, cur, rfl, hg, _⟩
  · have e : l = [] := List.eq_nil_of_length_eq_zero h2
    subst e
    go_enter Try.func62, Try.ntmps62
    go_wp2
    refine wp_loop_rounds 1 ?_
    rw [rounds_succ]
    go_wp2
    go_ret
    exact ⟨by simp, by simpa [markL] using hv, World.grownBy.refl _ _⟩
  · go_enter Try.func62, Try.ntmps62
    go_wp2
    have hv0 : w.ownsRow base 5 1 (.slice (some ⟨g, 0, none⟩) l.length cap) l.length ((markTo l k 0).map (Value.int .u8)) := by rw [markTo_zero]; exact hv
    go_loopw [1, 5] (fun m j wr => ∃ i : Nat, i ≤ l.length ∧ j = .int .i64 i ∧ m = .int .i64 (k + (i : Int)) ∧ wr.ownsRow base 5 1 (.slice (some ⟨g, 0, none⟩) l.length cap) l.length ((markTo l k i).map (Value.int .u8)) ∧ w.grownBy wr (some g))
      (fun _ j _ => l.length - (intOf j).toNat)
    case atStart => exact ⟨0, Nat.zero_le _, rfl, by simp, hv0, World.grownBy.refl _ _⟩
    case round =>
      obtain ⟨i, hi, rfl, rfl, hown, hgr⟩ := hrel
      by_cases hlt : i < l.length
      · have hcl := hown.cellAt i (by omega)
        have hfr := hown.frozenAt i
        obtain ⟨u, hu⟩ : ∃ u, wr.cell? ⟨g, i, none⟩ = some u := ⟨_, hcl.trans (List.getElem?_eq_getElem (by simp [markTo_length l k i hi]; omega))⟩
        have R := hide (mark_step hlt hown hgr)
        clear hcl hown hgr hv hv0
        go_wp2
        go_roundw
        case rel => exact ⟨i + 1, by omega, by go_num, by go_num, R.out.1, R.out.2⟩
        case measure => simp [intOf]; omega
      · have e : i = l.length := by omega
        subst e
        rw [markTo_all] at hown
        have HO := hide hown
        clear hown
        go_wp2
        go_ret
        exact ⟨rfl, by unfold ownB; rw [markL_length]; exact HO.out, hgr⟩

set_option maxHeartbeats 1000000 in
theorem heldByteS_any (o : Option Addr) (cap n : Nat) (k : Int) (w : World) (hR : Rd w o (markL k n)) (h0 : 0 ≤ k) (h1 : k ≤ 1073741824) (hlen : n ≤ 1048576) :
    Calls Try.prog 63 #[.slice o n cap, .int .i64 k] w fun e w' => e = .returned (.int .i64 (k + n)) ∧ w = w' := by
  go_enter Try.func63, Try.ntmps63
  go_wp2
  go_loop [1, 5] (fun m j => ∃ i : Nat, i ≤ n ∧ j = .int .i64 i ∧ m = .int .i64 (k + (i : Int)))
    (fun _ j => n - (intOf j).toNat)
  case atStart => exact ⟨0, Nat.zero_le _, rfl, by simp⟩
  case round =>
    obtain ⟨i, hi, rfl, rfl⟩ := hrel
    by_cases hlt : i < n
    · rcases hR with hR | ⟨b, off, rfl, hbl, hcell⟩
      · have := markL_length k n; rw [hR] at this; simp at this; omega
      have hc := hcell i (by rw [markL_length]; exact hlt)
      rw [markL_get k n i hlt] at hc
      clear hcell
      go_wp2
      go_round
      case rel => exact ⟨i + 1, by omega, by go_num, by go_num⟩
      case measure => simp [intOf]; omega
    · have e : i = n := by omega
      subst e
      go_wp2
      go_ret
      exact ⟨rfl, rfl⟩

end Go.Proofs.Ytflakpmcgopdaaa

/- Bytes by layout, and the laws' own helpers over them, in the words of Fr. -/
namespace Go.Proofs.Ytflakpmcgopdaaa
open Go.ChangeShapes Go.WideShapes Go.ChangeAt Go.RowKit Go.Joins
set_option linter.unusedVariables false
set_option linter.unusedSimpArgs false

def layB : Lay Int := ⟨1, fun a => [.int .u8 a], 0, fun _ => rfl⟩
theorem flat_bytes : ∀ l : List Int, l.flatMap layB.cs = l.map (Value.int .u8)
  | [] => rfl
  | a :: l => by rw [List.flatMap_cons, flat_bytes l]; rfl
theorem ownB_lay {w : World} {base : Nat} {v : Value} {l : List Int} : ownB w base v l ↔ ownL layB 5 w base v l := by
  unfold ownB ownL; rw [flat_bytes]; exact Iff.rfl
theorem RdB_lay {C : Nat} {w : World} {o : Option Addr} {l : List Int} : RdB C w o l ↔ RdL layB C w o l := by
  constructor
  · rintro (h | ⟨b, off, ho, hb, r⟩)
    · exact .inl h
    · refine .inr ⟨b, off, ho, hb, fun i hi j hj => ?_⟩
      have hj0 : j = 0 := by have : j < 1 := hj; omega
      subst hj0
      have := r i hi
      rw [show layB.k = 1 from rfl, Nat.mul_one, Nat.add_zero]
      exact this
  · rintro (h | ⟨b, off, ho, hb, r⟩)
    · exact .inl h
    · refine .inr ⟨b, off, ho, hb, fun i hi => ?_⟩
      have := r i hi 0 (by decide)
      rw [show layB.k = 1 from rfl, Nat.mul_one, Nat.add_zero] at this
      exact this
theorem RdB_rd {w : World} {o : Option Addr} {l : List Int} : RdL layB w.heap.size w o l ↔ Rd w o l := RdB_lay.symm
abbrev InB := InL layB 5
theorem InB.of {w : World} {base : Nat} {v : Value} {l : List Int} (h : ownB w base v l) : InB base w.heap.size w v l := InRow.of (ownB_lay.1 h)

theorem toByteS_sh (v : Value) (l : List Int) (w : World) (hR : RdV layB w.heap.size w v l) (hB8 : isB l) (hlen : l.length ≤ 1048576) :
    Calls Try.prog 65 #[v] w fun e w' => ∃ v', e = .returned v' ∧ InB w.heap.size w'.heap.size w' v' l ∧ Below w.heap.size w w' := by
  obtain ⟨o, c, rfl, r⟩ := hR
  refine (toByteS_any o c l w (RdB_rd.1 r) hB8 hlen).mono ?_
  rintro e w' ⟨g, rfl, ho, hb⟩
  exact ⟨_, rfl, InB.of ho, hb⟩
theorem eqByteS_sh (v1 v2 : Value) (l : List Int) (w : World) (h1 : RdV layB w.heap.size w v1 l) (h2 : RdV layB w.heap.size w v2 l) (hl : l.length ≤ 1048576) :
    Calls Try.prog 61 #[v1, v2] w fun e w' => e = .returned (.bool true) ∧ Below w.heap.size w w' := by
  obtain ⟨o, c, rfl, r⟩ := h1
  obtain ⟨o2, c2, rfl, r2⟩ := h2
  exact eqByteS_same o o2 c c2 l w (RdB_rd.1 r) (RdB_rd.1 r2) hl
theorem markByteS_sh (lo hi : Nat) (v : Value) (l : List Int) (k : Int) (w : World) (hv : InB lo hi w v l) (h0 : 0 ≤ k) (h1 : k ≤ 1073741824) (hlen : l.length ≤ 1048576) :
    Calls Try.prog 62 #[v, .int .i64 k] w fun e w' => e = .returned (.int .i64 (k + l.length)) ∧ InB lo hi w' v (markL k l.length) ∧ w.grownBy w' v.ownBlock := by
  refine (markByteS_any lo v l k w (ownB_lay.2 hv.1) h0 h1 hlen).mono ?_
  rintro e w' ⟨rfl, ho, hg⟩
  exact ⟨rfl, ⟨ownB_lay.1 ho, hv.2⟩, hg⟩
theorem heldByteS_sh (v : Value) (n C : Nat) (k : Int) (w : World) (hR : RdV layB C w v (markL k n)) (hn : (markL k n).length = n) (hC : C ≤ w.heap.size) (h0 : 0 ≤ k) (h1 : k ≤ 1073741824) (hlen : n ≤ 1048576) :
    Calls Try.prog 63 #[v, .int .i64 k] w fun e w' => e = .returned (.int .i64 (k + n)) ∧ w = w' := by
  obtain ⟨o, c, rfl, r⟩ := hR
  rw [hn]
  exact heldByteS_any o c n k w (RdB_rd.1 (r.le hC)) h0 h1 hlen

end Go.Proofs.Ytflakpmcgopdaaa

