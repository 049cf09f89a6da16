/- Hint, on both sides. -/
import Derived.Test.YtajfkcpifnpkeaaGreatGrOpenB
import Derived.Test.YtajfkcpifnpkeaaGreatGrSGet
namespace Go.Proofs.YtajfkcpifnpkeaaGreat
open Go.ChangeShapes Go.WideShapes Go.ChangeAt Go.RowKit Go.Joins
set_option linter.unusedVariables false
set_option linter.unusedSimpArgs false


def hintL (l : List Sl) (a p : Int) : Int := if (endL l a p).2 = true then (getL l a p).v else -1
theorem hintL_yes {l : List Sl} {a p : Int} (h : (endL l a p).2 = true) : hintL l a p = (getL l a p).v := if_pos h
theorem hintL_no {l : List Sl} {a p : Int} (h : (endL l a p).2 = false) : hintL l a p = -1 := if_neg (by rw [h]; decide)
/-- What Hint tells. -/
def hintM (m : Bm) (a p : Int) : Int := if (balB m && flowOkB a p) = true then hintL m.t a p else -1
theorem balB_tab {m : Bm} (h : balB m = true) : tableOkB m.t = true := by
  rw [balB_spec] at h
  simp only [Bool.and_eq_true] at h
  exact h.2.1
theorem balB_pos {m : Bm} (h : balB m = true) : 0 < m.t.length := (tableOkB_iff.1 (balB_tab h)).1
theorem rdS_some {C : Nat} {w : World} {o : Option Addr} {l : List Sl} (h : RdS C w o l) (hn : 0 < l.length) : ∃ b off, o = some ⟨b, off, none⟩ ∧ b < C ∧ ∀ i, i < l.length → ∀ j, j < layS.k → w.cell? ⟨b, off + i * layS.k + j, none⟩ = (layS.cs (l.getD i layS.d))[j]? := by
  rcases h with h | ⟨b, off, e, hb, r⟩
  · subst h; simp at hn
  · exact ⟨b, off, e, hb, r⟩
theorem inBl_open {lo hi : Nat} {w : World} {xo : Option Addr} {xn xc : Nat} {kq : Int} {yo : Option Addr} {yn yc : Nat} {sq kr : Int} {uo : Option Addr} {un uc : Nat} {vo : Option Addr} {vn vc : Nat} {j : Jm} {p : Pm} {t : List Sl} (h : InBl lo hi w (balr (.slice xo xn xc) kq (.slice yo yn yc) sq kr (.slice uo un uc) (.slice vo vn vc)) j p t) (ht : 0 < t.length) :
    ∃ g a b, lo ≤ a ∧ a ≤ g ∧ g < b ∧ b ≤ hi ∧ kq = j.key ∧ sq = j.safe ∧ kr = p.key ∧ xo = some ⟨g, 0, none⟩ ∧ xn = t.length ∧ InPm lo a w (plv p.key (.slice uo un uc) (.slice vo vn vc)) p ∧ w.ownsRow a CellT 5 (.slice (some ⟨g, 0, none⟩) t.length xc) t.length (t.flatMap layS.cs) ∧ InJm b hi w (jrn j.key (.slice yo yn yc) j.safe) j := by
  obtain ⟨vt, vl, vb, vr, a, b, e, k1, k2, k3, i1, i2, i3⟩ := h
  simp only [Value.agg.injEq, Array.mk.injEq, List.cons.injEq, and_true, Value.int.injEq, true_and] at e
  obtain ⟨e1, e2, e3, e4, e5, e6, e7⟩ := e
  subst e1 e3 e6 e7
  have i2' := i2
  rcases i2'.1.2 with ⟨h1, h2⟩ | ⟨g, cap, cur, hv, hg, r⟩
  · exact absurd h2 (by omega)
  · injection hv with h4 h5 h6
    subst h4 h5 h6
    exact ⟨g, a, b, k1, hg, i2.2 g rfl, k3, e2, e4, e5, rfl, rfl, i1, i2.1, i3⟩

set_option maxHeartbeats 2000000 in
theorem hintOf_any (b off c : Nat) (l : List Sl) (a p : Int) (w : World) (hn : 0 < l.length) (hl : l.length ≤ 1048576) (hf : flowOkB a p = true) (hbl : b < w.heap.size) (hc : ∀ i, i < l.length → ∀ j, j < layS.k → w.cell? ⟨b, off + i * layS.k + j, none⟩ = (layS.cs (l.getD i layS.d))[j]?) :
    Calls Tryz.prog 96 #[tab (.slice (some ⟨b, off, none⟩) l.length c), flow a p] w fun e w' => e = .returned (.int .i64 (hintL l a p)) ∧ Below w.heap.size w w' := by
  have HC := hide hc
  clear hc
  obtain ⟨W0, hW0⟩ : ∃ W, ((w.alloc (.cells #[.slice (some ⟨b, off, none⟩) l.length c] 107)).alloc (.cells #[.int .i64 a, .int .i64 p] 66)) = W := ⟨_, rfl⟩
  have hb_W0 : Below w.heap.size w W0 := by rw [← hW0]; exact (((Below.refl _ _).alloc (Nat.le_refl _) _).alloc (by simp <;> omega) _)
  have HB := hide hb_W0
  clear hb_W0
  have zct : w.heap.size < W0.heap.size := by rw [← hW0]; simp <;> omega
  have ct0 : W0.cell? ⟨w.heap.size, 0, none⟩ = some (.slice (some ⟨b, off, none⟩) l.length c) := by rw [← hW0]; simp [go_sem]
  have zcf : w.heap.size + 1 < W0.heap.size := by rw [← hW0]; simp
  have cf0 : W0.cell? ⟨w.heap.size + 1, 0, none⟩ = some (.int .i64 a) := by rw [← hW0]; simp [go_sem]
  have cf1 : W0.cell? ⟨w.heap.size + 1, 1, none⟩ = some (.int .i64 p) := by rw [← hW0]; simp [go_sem]
  have hg := get_any b off c l a p W0 hn hl hf (Nat.lt_of_lt_of_le hbl HB.out.size) (fun i hi j hj => (HB.out.cell (p := ⟨b, off + i * layS.k + j, none⟩) hbl).trans (HC.out i hi j hj))
  obtain ⟨r, hr⟩ : ∃ r, hintL l a p = r := ⟨_, rfl⟩
  rw [hr]
  obtain ⟨q, hq⟩ : ∃ q, getL l a p = q := ⟨_, rfl⟩
  obtain ⟨f, hff⟩ : ∃ f, (endL l a p).2 = f := ⟨_, rfl⟩
  rw [hq, hff] at hg
  have HV : Hid (r = if f = true then q.v else -1) := by unfold Hid; rw [← hr, ← hq, ← hff]; rfl
  clear hq hff hr
  go_enter Tryz.func96, Tryz.ntmps96
  go_wp2_with fail
  refine (hg).mono ?_
  rintro e v1 ⟨rfl, hb⟩
  replace ct0 := bC hb ct0 zct
  replace zct := Nat.lt_of_lt_of_le zct hb.size
  replace cf0 := bC hb cf0 zcf
  replace cf1 := bC hb cf1 zcf
  replace zcf := Nat.lt_of_lt_of_le zcf hb.size
  replace HB := hide (HB.out.trans (hb.mono HB.out.size))
  clear hb
  clear hg
  obtain ⟨W2, hW2⟩ : ∃ W, (v1.alloc (.cells #[.bool q.u, .int .i64 q.a, .int .i64 q.p, .int .i64 q.v, .int .i64 q.t] 197)) = W := ⟨_, rfl⟩
  have hb_W2 : Below v1.heap.size v1 W2 := by rw [← hW2]; exact ((Below.refl _ _).alloc (Nat.le_refl _) _)
  replace ct0 := bC hb_W2 ct0 zct
  replace zct := Nat.lt_of_lt_of_le zct hb_W2.size
  replace cf0 := bC hb_W2 cf0 zcf
  replace cf1 := bC hb_W2 cf1 zcf
  replace zcf := Nat.lt_of_lt_of_le zcf hb_W2.size
  replace HB := hide (HB.out.trans (hb_W2.mono HB.out.size))
  clear hb_W2
  have zcq : v1.heap.size < W2.heap.size := by rw [← hW2]; simp
  have cq0 : W2.cell? ⟨v1.heap.size, 0, none⟩ = some (.bool q.u) := by rw [← hW2]; simp [go_sem]
  have cq1 : W2.cell? ⟨v1.heap.size, 1, none⟩ = some (.int .i64 q.a) := by rw [← hW2]; simp [go_sem]
  have cq2 : W2.cell? ⟨v1.heap.size, 2, none⟩ = some (.int .i64 q.p) := by rw [← hW2]; simp [go_sem]
  have cq3 : W2.cell? ⟨v1.heap.size, 3, none⟩ = some (.int .i64 q.v) := by rw [← hW2]; simp [go_sem]
  have cq4 : W2.cell? ⟨v1.heap.size, 4, none⟩ = some (.int .i64 q.t) := by rw [← hW2]; simp [go_sem]
  cases f with
  | false =>
    go_wp2
    go_ret
    exact ⟨ret_int (by rw [HV.out]; rfl), HB.out⟩
  | true =>
    go_wp2
    go_ret
    exact ⟨ret_int (by rw [HV.out]; rfl), HB.out⟩

set_option maxRecDepth 100000 in
set_option maxHeartbeats 4000000 in
theorem specHint_any (kj : Int) (o : Option Addr) (nj c : Nat) (sj kp : Int) (ob : Option Addr) (np cb : Nat) (oR : Option Addr) (nr cR : Nat) (ot : Option Addr) (nt ct : Nat) (lj : List Cd) (lb : List Bk) (lr : List (List (List Int))) (lt : List Sl) (a p : Int) (w : World)
    (hnj : nj = lj.length) (hnt : nt = lt.length) (h1 : RdC w.heap.size w o lj) (h1c : o = none → c = 0) (h2 : RdPm w.heap.size w (plv kp (.slice ob np cb) (.slice oR nr cR)) ⟨kp, lb, lr⟩) (h4 : RdS w.heap.size w ot lt) (hf : fitB0 ⟨⟨kj, lj, sj⟩, ⟨kp, lb, lr⟩, lt⟩) :
    Calls Tryz.prog 42 #[balv kj (.slice o nj c) sj kp (.slice ob np cb) (.slice oR nr cR) (.slice ot nt ct), flow a p] w fun e w' => e = .returned (.int .i64 (hintM ⟨⟨kj, lj, sj⟩, ⟨kp, lb, lr⟩, lt⟩ a p)) ∧ Below w.heap.size w w' := by
  have HBO := hide (fun W (hb : Below w.heap.size w W) => specBalOk_any kj o nj c sj kp ob np cb oR nr cR ot nt ct lj lb lr lt W hnj hnt ((h1.kept hb (Nat.le_refl _)).le hb.size) h1c ((h2.kept hb (Nat.le_refl _)).le hb.size) ((h4.kept hb (Nat.le_refl _)).le hb.size) hf)
  have HRT := hide h4
  have f7 : lt.length ≤ 1048576 := hf.2.2
  have HNT := hide hnt
  have HBP := hide (fun h => balB_pos (m := ⟨⟨kj, lj, sj⟩, ⟨kp, lb, lr⟩, lt⟩) h)
  have HM := hide (show hintM ⟨⟨kj, lj, sj⟩, ⟨kp, lb, lr⟩, lt⟩ a p = if (balB ⟨⟨kj, lj, sj⟩, ⟨kp, lb, lr⟩, lt⟩ && flowOkB a p) = true then hintL lt a p else -1 from rfl)
  clear h1 h2 h4 hnj hnt hf
  obtain ⟨bb, hbb⟩ : ∃ x, balB ⟨⟨kj, lj, sj⟩, ⟨kp, lb, lr⟩, lt⟩ = x := ⟨_, rfl⟩
  obtain ⟨r, hr⟩ : ∃ r, hintM ⟨⟨kj, lj, sj⟩, ⟨kp, lb, lr⟩, lt⟩ a p = r := ⟨_, rfl⟩
  rw [hr]
  rw [hbb] at HBO HBP HM
  rw [hr] at HM
  clear hbb hr
  obtain ⟨fo, hfo⟩ : ∃ x, flowOkB a p = x := ⟨_, rfl⟩
  have HFO := hide hfo
  rw [hfo] at HM
  clear hfo
  obtain ⟨W0, hW0⟩ : ∃ W, ((w.alloc (.cells #[.int .i64 kj, .slice o nj c, .int .i64 sj, .int .i64 kp, .slice ob np cb, .slice oR nr cR, .slice ot nt ct] 46)).alloc (.cells #[.int .i64 a, .int .i64 p] 66)) = W := ⟨_, rfl⟩
  have hb_W0 : Below w.heap.size w W0 := by rw [← hW0]; exact (((Below.refl _ _).alloc (Nat.le_refl _) _).alloc (by simp <;> omega) _)
  have HB := hide hb_W0
  clear hb_W0
  have zz : w.heap.size < W0.heap.size := by rw [← hW0]; simp <;> omega
  have z0 : W0.cell? ⟨w.heap.size, 0, none⟩ = some (.int .i64 kj) := by rw [← hW0]; simp [go_sem]
  have z1 : W0.cell? ⟨w.heap.size, 1, none⟩ = some (.slice o nj c) := by rw [← hW0]; simp [go_sem]
  have z2 : W0.cell? ⟨w.heap.size, 2, none⟩ = some (.int .i64 sj) := by rw [← hW0]; simp [go_sem]
  have z3 : W0.cell? ⟨w.heap.size, 3, none⟩ = some (.int .i64 kp) := by rw [← hW0]; simp [go_sem]
  have z4 : W0.cell? ⟨w.heap.size, 4, none⟩ = some (.slice ob np cb) := by rw [← hW0]; simp [go_sem]
  have z5 : W0.cell? ⟨w.heap.size, 5, none⟩ = some (.slice oR nr cR) := by rw [← hW0]; simp [go_sem]
  have z6 : W0.cell? ⟨w.heap.size, 6, none⟩ = some (.slice ot nt ct) := by rw [← hW0]; simp [go_sem]
  have zf : w.heap.size + 1 < W0.heap.size := by rw [← hW0]; simp
  have f0 : W0.cell? ⟨w.heap.size + 1, 0, none⟩ = some (.int .i64 a) := by rw [← hW0]; simp [go_sem]
  have f1 : W0.cell? ⟨w.heap.size + 1, 1, none⟩ = some (.int .i64 p) := by rw [← hW0]; simp [go_sem]
  cases bb with
  | false =>
    go_enter Tryz.func42, Tryz.ntmps42
    go_wp2_with fail
    refine (HBO.out W0 HB.out).mono ?_
    rintro e v1 ⟨rfl, hb⟩
    replace z0 := bC hb z0 zz
    replace z1 := bC hb z1 zz
    replace z2 := bC hb z2 zz
    replace z3 := bC hb z3 zz
    replace z4 := bC hb z4 zz
    replace z5 := bC hb z5 zz
    replace z6 := bC hb z6 zz
    replace zz := Nat.lt_of_lt_of_le zz hb.size
    replace f0 := bC hb f0 zf
    replace f1 := bC hb f1 zf
    replace zf := Nat.lt_of_lt_of_le zf hb.size
    replace HB := hide (HB.out.trans (hb.mono HB.out.size))
    clear hb
    go_wp2
    go_ret
    exact ⟨ret_int (by rw [HM.out]; rfl), HB.out⟩
  | true =>
    cases fo with
    | false =>
      go_enter Tryz.func42, Tryz.ntmps42
      go_wp2_with fail
      refine (HBO.out W0 HB.out).mono ?_
      rintro e v1 ⟨rfl, hb⟩
      replace z0 := bC hb z0 zz
      replace z1 := bC hb z1 zz
      replace z2 := bC hb z2 zz
      replace z3 := bC hb z3 zz
      replace z4 := bC hb z4 zz
      replace z5 := bC hb z5 zz
      replace z6 := bC hb z6 zz
      replace zz := Nat.lt_of_lt_of_le zz hb.size
      replace f0 := bC hb f0 zf
      replace f1 := bC hb f1 zf
      replace zf := Nat.lt_of_lt_of_le zf hb.size
      replace HB := hide (HB.out.trans (hb.mono HB.out.size))
      clear hb
      have hfl := specFlowOk_any a p v1
      rw [HFO.out] at hfl
      go_wp2_with fail
      refine (hfl).mono ?_
      rintro e v2 ⟨rfl, hb⟩
      replace z0 := bC hb z0 zz
      replace z1 := bC hb z1 zz
      replace z2 := bC hb z2 zz
      replace z3 := bC hb z3 zz
      replace z4 := bC hb z4 zz
      replace z5 := bC hb z5 zz
      replace z6 := bC hb z6 zz
      replace zz := Nat.lt_of_lt_of_le zz hb.size
      replace f0 := bC hb f0 zf
      replace f1 := bC hb f1 zf
      replace zf := Nat.lt_of_lt_of_le zf hb.size
      replace HB := hide (HB.out.trans (hb.mono HB.out.size))
      clear hb
      clear hfl
      go_wp2
      go_ret
      exact ⟨ret_int (by rw [HM.out]; rfl), HB.out⟩
    | true =>
      have hn := HBP.out rfl
      (try dsimp only at hn)
      obtain ⟨bt, ft, rfl, hbt, hcell⟩ := rdS_some HRT.out hn
      have HG := hide (fun W (hb : Below w.heap.size w W) => l5get_any bt ft ct lt a p W hn f7 HFO.out (Nat.lt_of_lt_of_le hbt hb.size) (fun i hi j hj => (hb.cell (p := ⟨bt, ft + i * layS.k + j, none⟩) hbt).trans (hcell i hi j hj)))
      rw [← HNT.out] at HG
      clear hcell HRT
      obtain ⟨q, hq⟩ : ∃ q, getL lt a p = q := ⟨_, rfl⟩
      obtain ⟨f, hff⟩ : ∃ f, (endL lt a p).2 = f := ⟨_, rfl⟩
      rw [hq, hff] at HG
      replace HM : Hid (r = if f = true then q.v else -1) := by unfold Hid; rw [HM.out, ← hq, ← hff]; rfl
      clear hq hff hn HNT f7 HBP
      go_enter Tryz.func42, Tryz.ntmps42
      go_wp2_with fail
      refine (HBO.out W0 HB.out).mono ?_
      rintro e v1 ⟨rfl, hb⟩
      replace z0 := bC hb z0 zz
      replace z1 := bC hb z1 zz
      replace z2 := bC hb z2 zz
      replace z3 := bC hb z3 zz
      replace z4 := bC hb z4 zz
      replace z5 := bC hb z5 zz
      replace z6 := bC hb z6 zz
      replace zz := Nat.lt_of_lt_of_le zz hb.size
      replace f0 := bC hb f0 zf
      replace f1 := bC hb f1 zf
      replace zf := Nat.lt_of_lt_of_le zf hb.size
      replace HB := hide (HB.out.trans (hb.mono HB.out.size))
      clear hb
      have hfl := specFlowOk_any a p v1
      rw [HFO.out] at hfl
      go_wp2_with fail
      refine (hfl).mono ?_
      rintro e v2 ⟨rfl, hb⟩
      replace z0 := bC hb z0 zz
      replace z1 := bC hb z1 zz
      replace z2 := bC hb z2 zz
      replace z3 := bC hb z3 zz
      replace z4 := bC hb z4 zz
      replace z5 := bC hb z5 zz
      replace z6 := bC hb z6 zz
      replace zz := Nat.lt_of_lt_of_le zz hb.size
      replace f0 := bC hb f0 zf
      replace f1 := bC hb f1 zf
      replace zf := Nat.lt_of_lt_of_le zf hb.size
      replace HB := hide (HB.out.trans (hb.mono HB.out.size))
      clear hb
      clear hfl HFO HBO
      go_wp2_with fail
      refine (HG.out v2 HB.out).mono ?_
      rintro e v3 ⟨rfl, hb⟩
      replace z0 := bC hb z0 zz
      replace z1 := bC hb z1 zz
      replace z2 := bC hb z2 zz
      replace z3 := bC hb z3 zz
      replace z4 := bC hb z4 zz
      replace z5 := bC hb z5 zz
      replace z6 := bC hb z6 zz
      replace zz := Nat.lt_of_lt_of_le zz hb.size
      replace f0 := bC hb f0 zf
      replace f1 := bC hb f1 zf
      replace zf := Nat.lt_of_lt_of_le zf hb.size
      replace HB := hide (HB.out.trans (hb.mono HB.out.size))
      clear hb
      clear HG
      obtain ⟨W3, hW3⟩ : ∃ W, (v3.alloc (.cells #[.bool q.u, .int .i64 q.a, .int .i64 q.p, .int .i64 q.v, .int .i64 q.t] 99)) = W := ⟨_, rfl⟩
      have hb_W3 : Below v3.heap.size v3 W3 := by rw [← hW3]; exact ((Below.refl _ _).alloc (Nat.le_refl _) _)
      replace z0 := bC hb_W3 z0 zz
      replace z1 := bC hb_W3 z1 zz
      replace z2 := bC hb_W3 z2 zz
      replace z3 := bC hb_W3 z3 zz
      replace z4 := bC hb_W3 z4 zz
      replace z5 := bC hb_W3 z5 zz
      replace z6 := bC hb_W3 z6 zz
      replace zz := Nat.lt_of_lt_of_le zz hb_W3.size
      replace f0 := bC hb_W3 f0 zf
      replace f1 := bC hb_W3 f1 zf
      replace zf := Nat.lt_of_lt_of_le zf hb_W3.size
      replace HB := hide (HB.out.trans (hb_W3.mono HB.out.size))
      clear hb_W3
      have zcq : v3.heap.size < W3.heap.size := by rw [← hW3]; simp
      have cq0 : W3.cell? ⟨v3.heap.size, 0, none⟩ = some (.bool q.u) := by rw [← hW3]; simp [go_sem]
      have cq1 : W3.cell? ⟨v3.heap.size, 1, none⟩ = some (.int .i64 q.a) := by rw [← hW3]; simp [go_sem]
      have cq2 : W3.cell? ⟨v3.heap.size, 2, none⟩ = some (.int .i64 q.p) := by rw [← hW3]; simp [go_sem]
      have cq3 : W3.cell? ⟨v3.heap.size, 3, none⟩ = some (.int .i64 q.v) := by rw [← hW3]; simp [go_sem]
      have cq4 : W3.cell? ⟨v3.heap.size, 4, none⟩ = some (.int .i64 q.t) := by rw [← hW3]; simp [go_sem]
      cases f with
      | false =>
        go_wp2
        go_ret
        exact ⟨ret_int (by rw [HM.out]; rfl), HB.out⟩
      | true =>
        go_wp2
        go_ret
        exact ⟨ret_int (by rw [HM.out]; rfl), HB.out⟩

set_option maxRecDepth 100000 in
set_option maxHeartbeats 4000000 in
theorem implHint_any (kj : Int) (o : Option Addr) (nj c : Nat) (sj kp : Int) (ob : Option Addr) (np cb : Nat) (oR : Option Addr) (nr cR : Nat) (ot : Option Addr) (nt ct : Nat) (lj : List Cd) (lb : List Bk) (lr : List (List (List Int))) (lt : List Sl) (a p : Int) (w : World)
    (hnj : nj = lj.length) (hnt : nt = lt.length) (h1 : RdC w.heap.size w o lj) (h1c : o = none → c = 0) (h2 : RdPm w.heap.size w (plv kp (.slice ob np cb) (.slice oR nr cR)) ⟨kp, lb, lr⟩) (h4 : RdS w.heap.size w ot lt) (hf : fitB0 ⟨⟨kj, lj, sj⟩, ⟨kp, lb, lr⟩, lt⟩) :
    Calls Tryz.prog 43 #[balv kj (.slice o nj c) sj kp (.slice ob np cb) (.slice oR nr cR) (.slice ot nt ct), flow a p] w fun e w' => e = .returned (.int .i64 (hintM ⟨⟨kj, lj, sj⟩, ⟨kp, lb, lr⟩, lt⟩ a p)) ∧ Below w.heap.size w w' := by
  have HBF := hide (fun W (hb : Below w.heap.size w W) => balFrom_any kj o nj c sj kp ob np cb oR nr cR ot nt ct lj lb lr lt W hnj hnt ((h1.kept hb (Nat.le_refl _)).le hb.size) h1c ((h2.kept hb (Nat.le_refl _)).le hb.size) ((h4.kept hb (Nat.le_refl _)).le hb.size) hf)
  have f7 : lt.length ≤ 1048576 := hf.2.2
  have HBP := hide (fun h => balB_pos (m := ⟨⟨kj, lj, sj⟩, ⟨kp, lb, lr⟩, lt⟩) h)
  have HM := hide (show hintM ⟨⟨kj, lj, sj⟩, ⟨kp, lb, lr⟩, lt⟩ a p = if (balB ⟨⟨kj, lj, sj⟩, ⟨kp, lb, lr⟩, lt⟩ && flowOkB a p) = true then hintL lt a p else -1 from rfl)
  clear h1 h2 h4 hnj hnt hf
  obtain ⟨bb, hbb⟩ : ∃ x, balB ⟨⟨kj, lj, sj⟩, ⟨kp, lb, lr⟩, lt⟩ = x := ⟨_, rfl⟩
  obtain ⟨r, hr⟩ : ∃ r, hintM ⟨⟨kj, lj, sj⟩, ⟨kp, lb, lr⟩, lt⟩ a p = r := ⟨_, rfl⟩
  rw [hr]
  rw [hbb] at HBF HBP HM
  rw [hr] at HM
  clear hbb hr
  obtain ⟨fo, hfo⟩ : ∃ x, flowOkB a p = x := ⟨_, rfl⟩
  have HFO := hide hfo
  rw [hfo] at HM
  clear hfo
  obtain ⟨W0, hW0⟩ : ∃ W, ((w.alloc (.cells #[.int .i64 kj, .slice o nj c, .int .i64 sj, .int .i64 kp, .slice ob np cb, .slice oR nr cR, .slice ot nt ct] 46)).alloc (.cells #[.int .i64 a, .int .i64 p] 66)) = W := ⟨_, rfl⟩
  have hb_W0 : Below w.heap.size w W0 := by rw [← hW0]; exact (((Below.refl _ _).alloc (Nat.le_refl _) _).alloc (by simp <;> omega) _)
  have HB := hide hb_W0
  clear hb_W0
  have zz : w.heap.size < W0.heap.size := by rw [← hW0]; simp <;> omega
  have z0 : W0.cell? ⟨w.heap.size, 0, none⟩ = some (.int .i64 kj) := by rw [← hW0]; simp [go_sem]
  have z1 : W0.cell? ⟨w.heap.size, 1, none⟩ = some (.slice o nj c) := by rw [← hW0]; simp [go_sem]
  have z2 : W0.cell? ⟨w.heap.size, 2, none⟩ = some (.int .i64 sj) := by rw [← hW0]; simp [go_sem]
  have z3 : W0.cell? ⟨w.heap.size, 3, none⟩ = some (.int .i64 kp) := by rw [← hW0]; simp [go_sem]
  have z4 : W0.cell? ⟨w.heap.size, 4, none⟩ = some (.slice ob np cb) := by rw [← hW0]; simp [go_sem]
  have z5 : W0.cell? ⟨w.heap.size, 5, none⟩ = some (.slice oR nr cR) := by rw [← hW0]; simp [go_sem]
  have z6 : W0.cell? ⟨w.heap.size, 6, none⟩ = some (.slice ot nt ct) := by rw [← hW0]; simp [go_sem]
  have zf : w.heap.size + 1 < W0.heap.size := by rw [← hW0]; simp
  have f0 : W0.cell? ⟨w.heap.size + 1, 0, none⟩ = some (.int .i64 a) := by rw [← hW0]; simp [go_sem]
  have f1 : W0.cell? ⟨w.heap.size + 1, 1, none⟩ = some (.int .i64 p) := by rw [← hW0]; simp [go_sem]
  go_enter Tryz.func43, Tryz.ntmps43
  go_wp2_with fail
  refine (HBF.out W0 HB.out).mono ?_
  rintro e v1 ⟨xo, xn, xc, kq, yo, yn, yc, sq, kr, uo, un, uc, vo, vn, vc, rfl, hin, hb⟩
  have HIN := hide hin
  clear hin HBF
  replace z0 := bC hb z0 zz
  replace z1 := bC hb z1 zz
  replace z2 := bC hb z2 zz
  replace z3 := bC hb z3 zz
  replace z4 := bC hb z4 zz
  replace z5 := bC hb z5 zz
  replace z6 := bC hb z6 zz
  replace zz := Nat.lt_of_lt_of_le zz hb.size
  replace f0 := bC hb f0 zf
  replace f1 := bC hb f1 zf
  replace zf := Nat.lt_of_lt_of_le zf hb.size
  replace HB := hide (HB.out.trans (hb.mono HB.out.size))
  clear hb
  cases bb with
  | false =>
    obtain ⟨W2, hW2⟩ : ∃ W, (v1.alloc (.cells #[.slice xo xn xc, .int .i64 kq, .slice yo yn yc, .int .i64 sq, .int .i64 kr, .slice uo un uc, .slice vo vn vc] 109)) = W := ⟨_, rfl⟩
    have hb_W2 : Below v1.heap.size v1 W2 := by rw [← hW2]; exact ((Below.refl _ _).alloc (Nat.le_refl _) _)
    replace z0 := bC hb_W2 z0 zz
    replace z1 := bC hb_W2 z1 zz
    replace z2 := bC hb_W2 z2 zz
    replace z3 := bC hb_W2 z3 zz
    replace z4 := bC hb_W2 z4 zz
    replace z5 := bC hb_W2 z5 zz
    replace z6 := bC hb_W2 z6 zz
    replace zz := Nat.lt_of_lt_of_le zz hb_W2.size
    replace f0 := bC hb_W2 f0 zf
    replace f1 := bC hb_W2 f1 zf
    replace zf := Nat.lt_of_lt_of_le zf hb_W2.size
    replace HB := hide (HB.out.trans (hb_W2.mono HB.out.size))
    clear hb_W2
    have zx : v1.heap.size < W2.heap.size := by rw [← hW2]; simp
    have x0 : W2.cell? ⟨v1.heap.size, 0, none⟩ = some (.slice xo xn xc) := by rw [← hW2]; simp [go_sem]
    have x1 : W2.cell? ⟨v1.heap.size, 1, none⟩ = some (.int .i64 kq) := by rw [← hW2]; simp [go_sem]
    have x2 : W2.cell? ⟨v1.heap.size, 2, none⟩ = some (.slice yo yn yc) := by rw [← hW2]; simp [go_sem]
    have x3 : W2.cell? ⟨v1.heap.size, 3, none⟩ = some (.int .i64 sq) := by rw [← hW2]; simp [go_sem]
    have x4 : W2.cell? ⟨v1.heap.size, 4, none⟩ = some (.int .i64 kr) := by rw [← hW2]; simp [go_sem]
    have x5 : W2.cell? ⟨v1.heap.size, 5, none⟩ = some (.slice uo un uc) := by rw [← hW2]; simp [go_sem]
    have x6 : W2.cell? ⟨v1.heap.size, 6, none⟩ = some (.slice vo vn vc) := by rw [← hW2]; simp [go_sem]
    clear HIN
    go_wp2
    go_ret
    exact ⟨ret_int (by rw [HM.out]; rfl), HB.out⟩
  | true =>
    have hn := HBP.out rfl
    (try dsimp only at hn)
    obtain ⟨g, a2, b2, k1, k2, k3, k4, e1, e2, e3, rfl, rfl, i1, i2, i3⟩ := inBl_open (HIN.out rfl) hn
    have HO := hide i2
    clear i1 i2 i3 HIN e1 e2 e3
    obtain ⟨W2, hW2⟩ : ∃ W, (v1.alloc (.cells #[.slice (some ⟨g, 0, none⟩) lt.length xc, .int .i64 kq, .slice yo yn yc, .int .i64 sq, .int .i64 kr, .slice uo un uc, .slice vo vn vc] 109)) = W := ⟨_, rfl⟩
    have hb_W2 : Below v1.heap.size v1 W2 := by rw [← hW2]; exact ((Below.refl _ _).alloc (Nat.le_refl _) _)
    replace z0 := bC hb_W2 z0 zz
    replace z1 := bC hb_W2 z1 zz
    replace z2 := bC hb_W2 z2 zz
    replace z3 := bC hb_W2 z3 zz
    replace z4 := bC hb_W2 z4 zz
    replace z5 := bC hb_W2 z5 zz
    replace z6 := bC hb_W2 z6 zz
    replace zz := Nat.lt_of_lt_of_le zz hb_W2.size
    replace f0 := bC hb_W2 f0 zf
    replace f1 := bC hb_W2 f1 zf
    replace zf := Nat.lt_of_lt_of_le zf hb_W2.size
    replace HO := hide (own_kept HO.out hb_W2)
    replace HB := hide (HB.out.trans (hb_W2.mono HB.out.size))
    clear hb_W2
    have zx : v1.heap.size < W2.heap.size := by rw [← hW2]; simp
    have x0 : W2.cell? ⟨v1.heap.size, 0, none⟩ = some (.slice (some ⟨g, 0, none⟩) lt.length xc) := by rw [← hW2]; simp [go_sem]
    have x1 : W2.cell? ⟨v1.heap.size, 1, none⟩ = some (.int .i64 kq) := by rw [← hW2]; simp [go_sem]
    have x2 : W2.cell? ⟨v1.heap.size, 2, none⟩ = some (.slice yo yn yc) := by rw [← hW2]; simp [go_sem]
    have x3 : W2.cell? ⟨v1.heap.size, 3, none⟩ = some (.int .i64 sq) := by rw [← hW2]; simp [go_sem]
    have x4 : W2.cell? ⟨v1.heap.size, 4, none⟩ = some (.int .i64 kr) := by rw [← hW2]; simp [go_sem]
    have x5 : W2.cell? ⟨v1.heap.size, 5, none⟩ = some (.slice uo un uc) := by rw [← hW2]; simp [go_sem]
    have x6 : W2.cell? ⟨v1.heap.size, 6, none⟩ = some (.slice vo vn vc) := by rw [← hW2]; simp [go_sem]
    cases fo with
    | false =>
      have hfl := implFlowOk_any a p W2
      rw [HFO.out] at hfl
      go_wp2_with fail
      refine (hfl).mono ?_
      rintro e v2 ⟨rfl, hb⟩
      replace z0 := bC hb z0 zz
      replace z1 := bC hb z1 zz
      replace z2 := bC hb z2 zz
      replace z3 := bC hb z3 zz
      replace z4 := bC hb z4 zz
      replace z5 := bC hb z5 zz
      replace z6 := bC hb z6 zz
      replace zz := Nat.lt_of_lt_of_le zz hb.size
      replace f0 := bC hb f0 zf
      replace f1 := bC hb f1 zf
      replace zf := Nat.lt_of_lt_of_le zf hb.size
      replace x0 := bC hb x0 zx
      replace x1 := bC hb x1 zx
      replace x2 := bC hb x2 zx
      replace x3 := bC hb x3 zx
      replace x4 := bC hb x4 zx
      replace x5 := bC hb x5 zx
      replace x6 := bC hb x6 zx
      replace zx := Nat.lt_of_lt_of_le zx hb.size
      replace HO := hide (own_kept HO.out hb)
      replace HB := hide (HB.out.trans (hb.mono HB.out.size))
      clear hb
      clear hfl HO
      go_wp2
      go_ret
      exact ⟨ret_int (by rw [HM.out]; rfl), HB.out⟩
    | true =>
      have hfl := implFlowOk_any a p W2
      rw [HFO.out] at hfl
      go_wp2_with fail
      refine (hfl).mono ?_
      rintro e v2 ⟨rfl, hb⟩
      replace z0 := bC hb z0 zz
      replace z1 := bC hb z1 zz
      replace z2 := bC hb z2 zz
      replace z3 := bC hb z3 zz
      replace z4 := bC hb z4 zz
      replace z5 := bC hb z5 zz
      replace z6 := bC hb z6 zz
      replace zz := Nat.lt_of_lt_of_le zz hb.size
      replace f0 := bC hb f0 zf
      replace f1 := bC hb f1 zf
      replace zf := Nat.lt_of_lt_of_le zf hb.size
      replace x0 := bC hb x0 zx
      replace x1 := bC hb x1 zx
      replace x2 := bC hb x2 zx
      replace x3 := bC hb x3 zx
      replace x4 := bC hb x4 zx
      replace x5 := bC hb x5 zx
      replace x6 := bC hb x6 zx
      replace zx := Nat.lt_of_lt_of_le zx hb.size
      replace HO := hide (own_kept HO.out hb)
      replace HB := hide (HB.out.trans (hb.mono HB.out.size))
      clear hb
      clear hfl
      go_wp2_with fail
      refine (hintOf_any g 0 xc lt a p v2 hn f7 HFO.out (HO.out.lt g rfl).2 (rd_of_own HO.out rfl)).mono ?_
      rintro e v3 ⟨rfl, hb⟩
      replace z0 := bC hb z0 zz
      replace z1 := bC hb z1 zz
      replace z2 := bC hb z2 zz
      replace z3 := bC hb z3 zz
      replace z4 := bC hb z4 zz
      replace z5 := bC hb z5 zz
      replace z6 := bC hb z6 zz
      replace zz := Nat.lt_of_lt_of_le zz hb.size
      replace f0 := bC hb f0 zf
      replace f1 := bC hb f1 zf
      replace zf := Nat.lt_of_lt_of_le zf hb.size
      replace x0 := bC hb x0 zx
      replace x1 := bC hb x1 zx
      replace x2 := bC hb x2 zx
      replace x3 := bC hb x3 zx
      replace x4 := bC hb x4 zx
      replace x5 := bC hb x5 zx
      replace x6 := bC hb x6 zx
      replace zx := Nat.lt_of_lt_of_le zx hb.size
      replace HO := hide (own_kept HO.out hb)
      replace HB := hide (HB.out.trans (hb.mono HB.out.size))
      clear hb
      clear HO
      obtain ⟨y, hy⟩ : ∃ y, hintL lt a p = y := ⟨_, rfl⟩
      simp only [hy]
      rw [hy] at HM
      clear hy
      go_wp2
      go_ret
      exact ⟨ret_int (by rw [HM.out]; rfl), HB.out⟩

end Go.Proofs.YtajfkcpifnpkeaaGreat
