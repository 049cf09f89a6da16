/- Several texts in one: SBNew, SBPlain, SBOwn, SCrash. -/
import Derived.Laws.MakeOwn
import Derived.Deep.RegionHeld3
import Derived.Deep.RegionLaw
import Derived.Test.YtpjkcgaohoinaaaGreatQLearn30
import Derived.Test.YtpjkcgaohoinaaaGreatQLearn32
import Derived.Test.YtpjkcgaohoinaaaGreatQLearn28
import Derived.Test.YtpjkcgaohoinaaaGreatQLearn33
namespace Go.Proofs.YtpjkcgaohoinaaaGreat
open Go.ChangeShapes Go.WideShapes Go.ChangeAt Go.RowKit Go.Joins
set_option linter.unusedVariables false
set_option linter.unusedSimpArgs false


def bm0 : Bm := ⟨jm0, pm0, []⟩
theorem bm0_in (lo hi : Nat) (w : World) (h : lo ≤ hi) : InBm lo hi w (balv 0 (.slice none 0 0) 0 0 (.slice none 0 0) (.slice none 0 0) (.slice none 0 0)) bm0 := InBm.asc (m := bm0) (a := lo) (b := lo) (Nat.le_refl _) (Nat.le_refl _) h ⟨_, rfl, World.ownsRow_nil _ _ _ _, fun b e => by cases e⟩ (pm0_in lo lo w (Nat.le_refl _)) ⟨_, rfl, World.ownsRow_nil _ _ _ _, fun b e => by cases e⟩
end Go.Proofs.YtpjkcgaohoinaaaGreat

namespace Go.Proofs.YtpjkcgaohoinaaaGreat
open Go.ChangeShapes Go.WideShapes Go.ChangeAt Go.RowKit Go.Joins
set_option linter.unusedVariables false
set_option linter.unusedSimpArgs false


structure Bx (lo : Nat) (w : World) (g xc : Nat) (kj : Int) (vl : Value) (sj kp : Int) (vb vr : Value) (m : Bm) : Prop where
 ek : kj = m.j.key
 es : sj = m.j.safe
 ep : kp = m.p.key
 row : ∃ base, lo ≤ base ∧ w.ownsRow base CellT 5 (.slice (some ⟨g, 0, none⟩) m.t.length xc) m.t.length (m.t.flatMap layS.cs)
 mem : ∃ j0 j1 p0 p1, lo ≤ j0 ∧ j1 ≤ w.heap.size ∧ lo ≤ p0 ∧ p1 ≤ w.heap.size ∧ (j1 ≤ p0 ∨ p1 ≤ j0) ∧ (g < j0 ∨ j1 ≤ g) ∧ (g < p0 ∨ p1 ≤ g) ∧ InJm j0 j1 w (jrn m.j.key vl m.j.safe) m.j ∧ InPm p0 p1 w (plv m.p.key vb vr) m.p
theorem Bx.kept {lo : Nat} {w w' : World} {g xc : Nat} {kj : Int} {vl : Value} {sj kp : Int} {vb vr : Value} {m : Bm} (h : Bx lo w g xc kj vl sj kp vb vr m) (hb : Below w.heap.size w w') : Bx lo w' g xc kj vl sj kp vb vr m := by
 obtain ⟨h1, h2, h3, ⟨base, h4, h5⟩, ⟨j0, j1, p0, p1, k1, k2, k3, k4, k5, k6, k7, i1, i2⟩⟩ := h
 have hs := hb.size
 exact ⟨h1, h2, h3, ⟨base, h4, own_kept h5 hb⟩, ⟨j0, j1, p0, p1, k1, by omega, k3, by omega, k5, k6, k7, i1.step (Stp.of (lo := 0) (hi := 0) hb) (.inl (Nat.zero_le _)), i2.step (Stp.of (lo := 0) (hi := 0) hb) (.inl (Nat.zero_le _))⟩⟩
theorem Bx.of {lo : Nat} {w : World} {xo : Option Addr} {xn xc : Nat} {kq : Int} {yo : Option Addr} {yn yc : Nat} {sq kr : Int} {uo : Option Addr} {un uc : Nat} {vo : Option Addr} {vn vc : Nat} {j : Jm} {p : Pm} {t : List Sl} (h : InBl lo w.heap.size w (balr (.slice xo xn xc) kq (.slice yo yn yc) sq kr (.slice uo un uc) (.slice vo vn vc)) j p t) (ht : 0 < t.length) :
  ∃ g, xo = some ⟨g, 0, none⟩ ∧ xn = t.length ∧ lo ≤ g ∧ Bx lo w g xc kq (.slice yo yn yc) sq kr (.slice uo un uc) (.slice vo vn vc) ⟨j, p, t⟩ := by
 obtain ⟨g, a, b, k1, k2, k3, k4, e1, e2, e3, e4, e5, i1, i2, i3⟩ := inBl_open h ht
 exact ⟨g, e4, e5, by omega, e1, e2, e3, ⟨a, by omega, i2⟩, ⟨b, w.heap.size, lo, a, by omega, Nat.le_refl _, Nat.le_refl _, by omega, by omega, by omega, by omega, i3, i1⟩⟩

set_option maxRecDepth 100000 in
set_option maxHeartbeats 8000000 in
theorem plainB_any (lo g nt xc : Nat) (kq : Int) (yo : Option Addr) (yn yc : Nat) (sq kr : Int) (uo : Option Addr) (un uc : Nat) (vo : Option Addr) (vn vc : Nat) (m : Bm) (w : World) (hnt : nt = m.t.length) (hl : m.t.length ≤ 1048576) (hlo : lo ≤ w.heap.size) (h : Bx lo w g xc kq (.slice yo yn yc) sq kr (.slice uo un uc) (.slice vo vn vc) m) :
  Calls Tryz.prog 31 #[balr (.slice (some ⟨g, 0, none⟩) nt xc) kq (.slice yo yn yc) sq kr (.slice uo un uc) (.slice vo vn vc)] w fun e w' => ∃ tO tn tc, e = .returned (balv kq (.slice yo yn yc) sq kr (.slice uo un uc) (.slice vo vn vc) (.slice tO tn tc)) ∧ InBm lo w'.heap.size w' (balv kq (.slice yo yn yc) sq kr (.slice uo un uc) (.slice vo vn vc) (.slice tO tn tc)) m ∧ Below w.heap.size w w' := by
 obtain ⟨base, hbs, ho⟩ := h.row
 have HPT := hide (fun W (hb : Below w.heap.size w W) => plainTable_any g 0 xc m.t W (Nat.lt_of_lt_of_le (ho.lt g rfl).2 hb.size) (rd_of_own (own_kept ho hb) rfl) hl)
 rw [← hnt] at HPT
 have HNT := hide hnt
 have HX := hide h
 have HMM := hide (show ∀ W : World, Below w.heap.size w W → ∃ j0 j1 p0 p1, lo ≤ j0 ∧ j1 ≤ w.heap.size ∧ lo ≤ p0 ∧ p1 ≤ w.heap.size ∧ (j1 ≤ p0 ∨ p1 ≤ j0) ∧ (g < j0 ∨ j1 ≤ g) ∧ (g < p0 ∨ p1 ≤ g) ∧ InJm j0 j1 W (jrn m.j.key (.slice yo yn yc) m.j.safe) m.j ∧ InPm p0 p1 W (plv m.p.key (.slice uo un uc) (.slice vo vn vc)) m.p from fun W hb => by
  obtain ⟨j0, j1, p0, p1, k1, k2, k3, k4, k5, k6, k7, i1, i2⟩ := h.mem
  exact ⟨j0, j1, p0, p1, k1, k2, k3, k4, k5, k6, k7, i1.step (Stp.of (lo := 0) (hi := 0) hb) (.inl (Nat.zero_le _)), i2.step (Stp.of (lo := 0) (hi := 0) hb) (.inl (Nat.zero_le _))⟩)
 clear ho h hnt
 obtain ⟨W0, hW0⟩ : ∃ W, ((w.alloc (.cells #[.slice (some ⟨g, 0, none⟩) nt xc, .int .i64 kq, .slice yo yn yc, .int .i64 sq, .int .i64 kr, .slice uo un uc, .slice vo vn vc] 76)).alloc (.cells #[.int .i64 0, .slice none 0 0, .int .i64 0, .int .i64 0, .slice none 0 0, .slice none 0 0, .slice none 0 0] 47)) = W := ⟨_, rfl⟩
 have hb_W0 : Below w.heap.size w W0 := by rw [← hW0]; exact (((Below.refl _ _).alloc (Nat.le_refl _) _).alloc (by simp <;> omega) _)
 have HB := hide hb_W0
 clear hb_W0
 have zx : w.heap.size < W0.heap.size := by rw [← hW0]; simp <;> omega
 have x0 : W0.cell? ⟨w.heap.size, 0, none⟩ = some (.slice (some ⟨g, 0, none⟩) nt xc) := by rw [← hW0]; simp [go_sem]
 have x1 : W0.cell? ⟨w.heap.size, 1, none⟩ = some (.int .i64 kq) := by rw [← hW0]; simp [go_sem]
 have x2 : W0.cell? ⟨w.heap.size, 2, none⟩ = some (.slice yo yn yc) := by rw [← hW0]; simp [go_sem]
 have x3 : W0.cell? ⟨w.heap.size, 3, none⟩ = some (.int .i64 sq) := by rw [← hW0]; simp [go_sem]
 have x4 : W0.cell? ⟨w.heap.size, 4, none⟩ = some (.int .i64 kr) := by rw [← hW0]; simp [go_sem]
 have x5 : W0.cell? ⟨w.heap.size, 5, none⟩ = some (.slice uo un uc) := by rw [← hW0]; simp [go_sem]
 have x6 : W0.cell? ⟨w.heap.size, 6, none⟩ = some (.slice vo vn vc) := by rw [← hW0]; simp [go_sem]
 have zr : w.heap.size + 1 < W0.heap.size := by rw [← hW0]; simp
 have r0 : W0.cell? ⟨w.heap.size + 1, 0, none⟩ = some (.int .i64 0) := by rw [← hW0]; simp [go_sem]
 have r1 : W0.cell? ⟨w.heap.size + 1, 1, none⟩ = some (.slice none 0 0) := by rw [← hW0]; simp [go_sem]
 have r2 : W0.cell? ⟨w.heap.size + 1, 2, none⟩ = some (.int .i64 0) := by rw [← hW0]; simp [go_sem]
 have r3 : W0.cell? ⟨w.heap.size + 1, 3, none⟩ = some (.int .i64 0) := by rw [← hW0]; simp [go_sem]
 have r4 : W0.cell? ⟨w.heap.size + 1, 4, none⟩ = some (.slice none 0 0) := by rw [← hW0]; simp [go_sem]
 have r5 : W0.cell? ⟨w.heap.size + 1, 5, none⟩ = some (.slice none 0 0) := by rw [← hW0]; simp [go_sem]
 have r6 : W0.cell? ⟨w.heap.size + 1, 6, none⟩ = some (.slice none 0 0) := by rw [← hW0]; simp [go_sem]
 have fr0 : W0.frozen? ⟨w.heap.size + 1, 0, none⟩ = false := by rw [← hW0]; simp [go_sem]
 have fr1 : W0.frozen? ⟨w.heap.size + 1, 1, none⟩ = false := by rw [← hW0]; simp [go_sem]
 have fr2 : W0.frozen? ⟨w.heap.size + 1, 2, none⟩ = false := by rw [← hW0]; simp [go_sem]
 have fr3 : W0.frozen? ⟨w.heap.size + 1, 3, none⟩ = false := by rw [← hW0]; simp [go_sem]
 have fr4 : W0.frozen? ⟨w.heap.size + 1, 4, none⟩ = false := by rw [← hW0]; simp [go_sem]
 have fr5 : W0.frozen? ⟨w.heap.size + 1, 5, none⟩ = false := by rw [← hW0]; simp [go_sem]
 have fr6 : W0.frozen? ⟨w.heap.size + 1, 6, none⟩ = false := by rw [← hW0]; simp [go_sem]
 have hne0 : w.heap.size ≠ w.heap.size + 1 := by omega
 have hsw : w.heap.size + 1 < W0.heap.size := zr
 go_enter Tryz.func31, Tryz.ntmps31
 go_wp2
 go_region_held3 (fun w' => w'.cell? ⟨w.heap.size, 0, none⟩ = some (.slice (some ⟨g, 0, none⟩) nt xc) ∧ w'.cell? ⟨w.heap.size, 1, none⟩ = some (.int .i64 kq) ∧ w'.cell? ⟨w.heap.size, 2, none⟩ = some (.slice yo yn yc) ∧ w'.cell? ⟨w.heap.size, 3, none⟩ = some (.int .i64 sq) ∧ w'.cell? ⟨w.heap.size, 4, none⟩ = some (.int .i64 kr) ∧ w'.cell? ⟨w.heap.size, 5, none⟩ = some (.slice uo un uc) ∧ w'.cell? ⟨w.heap.size, 6, none⟩ = some (.slice vo vn vc)) (first | with_reducible exact ⟨x0, x1, x2, x3, x4, x5, x6⟩ | with_reducible exact ⟨kx0, kx1, kx2, kx3, kx4, kx5, kx6⟩ | with_reducible exact hks _ _ _ _ _ _ _ | go_keep) (first | (go_at_call 69; (with_reducible refine (HPT.out W0.drew (Below.drew HB.out)).mono ?_); rintro e v4 ⟨tg, rfl, ow2, hq0⟩; have hx : Below W0.heap.size W0 v4 := (Below.drew (Below.refl _ _)).trans hq0; have kx0 := bC hx x0 zx; have kx1 := bC hx x1 zx; have kx2 := bC hx x2 zx; have kx3 := bC hx x3 zx; have kx4 := bC hx x4 zx; have kx5 := bC hx x5 zx; have kx6 := bC hx x6 zx; have rr0 := bC hx r0 zr; have rf0 := bF hx fr0 zr; have rr1 := bC hx r1 zr; have rf1 := bF hx fr1 zr; have rr2 := bC hx r2 zr; have rf2 := bF hx fr2 zr; have rr3 := bC hx r3 zr; have rf3 := bF hx fr3 zr; have rr4 := bC hx r4 zr; have rf4 := bF hx fr4 zr; have rr5 := bC hx r5 zr; have rf5 := bF hx fr5 zr; have rr6 := bC hx r6 zr; have rf6 := bF hx fr6 zr; have hks := (fun x0 x1 x2 x3 x4 x5 x6 => (And.intro (setB_cell kx0 hne0 x0 x1 x2 x3 x4 x5 x6) (And.intro (setB_cell kx1 hne0 x0 x1 x2 x3 x4 x5 x6) (And.intro (setB_cell kx2 hne0 x0 x1 x2 x3 x4 x5 x6) (And.intro (setB_cell kx3 hne0 x0 x1 x2 x3 x4 x5 x6) (And.intro (setB_cell kx4 hne0 x0 x1 x2 x3 x4 x5 x6) (And.intro (setB_cell kx5 hne0 x0 x1 x2 x3 x4 x5 x6) (setB_cell kx6 hne0 x0 x1 x2 x3 x4 x5 x6)))))))); have HBc := HB.out.trans (hx.mono HB.out.size)))
 have hs6 : W0.heap.size ≤ v4.heap.size := hx.size
 have HO := hide ow2
 replace HB := hide HBc
 replace HX := hide (HX.out.kept HBc)
 have HFI : Hid (InBm lo (setB v4 (w.heap.size + 1) (.int .i64 kq) (.slice yo yn yc) (.int .i64 sq) (.int .i64 kr) (.slice uo un uc) (.slice vo vn vc) (.slice (some ⟨tg, 0, none⟩) nt nt)).heap.size (setB v4 (w.heap.size + 1) (.int .i64 kq) (.slice yo yn yc) (.int .i64 sq) (.int .i64 kr) (.slice uo un uc) (.slice vo vn vc) (.slice (some ⟨tg, 0, none⟩) nt nt)) (balv kq (.slice yo yn yc) sq kr (.slice uo un uc) (.slice vo vn vc) (.slice (some ⟨tg, 0, none⟩) nt nt)) m) := by
  have s9 := stp_setB v4 (w.heap.size + 1) (.int .i64 kq) (.slice yo yn yc) (.int .i64 sq) (.int .i64 kr) (.slice uo un uc) (.slice vo vn vc) (.slice (some ⟨tg, 0, none⟩) nt nt)
  obtain ⟨e1, e2, e3, _, _⟩ := HX.out
  obtain ⟨j0, j1, p0, p1, k1, k2, k3, k4, k5, k6, k7, i1, i2⟩ : ∃ j0 j1 p0 p1, lo ≤ j0 ∧ j1 ≤ w.heap.size ∧ lo ≤ p0 ∧ p1 ≤ w.heap.size ∧ (j1 ≤ p0 ∨ p1 ≤ j0) ∧ (g < j0 ∨ j1 ≤ g) ∧ (g < p0 ∨ p1 ≤ g) ∧ InJm j0 j1 v4 (jrn m.j.key (.slice yo yn yc) m.j.safe) m.j ∧ InPm p0 p1 v4 (plv m.p.key (.slice uo un uc) (.slice vo vn vc)) m.p := HMM.out v4 HB.out
  refine ⟨_, _, _, _, j0, j1, p0, p1, W0.heap.size, v4.heap.size, by rw [e1, e2, e3], by rw [setB_size]; omega, i1.step s9 (by omega), i2.step s9 (by omega), ⟨_, rfl, ?_⟩⟩
  have t9 := InRow.step (InRow.of HO.out) s9 (.inl (show w.heap.size + 1 + 1 ≤ W0.heap.size by omega))
  rw [HNT.out] at t9 ⊢
  exact t9
 clear hks hx hq0 HBc ow2 x0 kx0 x1 kx1 x2 kx2 x3 kx3 x4 kx4 x5 kx5 x6 kx6 r0 fr0 r1 fr1 r2 fr2 r3 fr3 r4 fr4 r5 fr5 r6 fr6
 go_wp2
 refine bodyPost_ret (v := balv kq (.slice yo yn yc) sq kr (.slice uo un uc) (.slice vo vn vc) (.slice (some ⟨tg, 0, none⟩) nt nt)) (by simp [results, Tryz.results31, go_sem, rr0, rr1, rr2, rr3, rr4, rr5, rr6]) rfl ⟨_, _, _, rfl, HFI.out, setB_below HB.out (Nat.le_succ _) _ _ _ _ _ _ _⟩

end Go.Proofs.YtpjkcgaohoinaaaGreat

namespace Go.Proofs.YtpjkcgaohoinaaaGreat
open Go.ChangeShapes Go.WideShapes Go.ChangeAt Go.RowKit Go.Joins
set_option linter.unusedVariables false
set_option linter.unusedSimpArgs false


def OwBm (lo hi : Nat) (w : World) (v : Value) (m : Bm) : Prop := ∃ vl vb vr vt, v = balv m.j.key vl m.j.safe m.p.key vb vr vt ∧ InJm lo hi w (jrn m.j.key vl m.j.safe) m.j ∧ RcPm lo hi w (plv m.p.key vb vr) m.p ∧ InTb lo hi w (tab vt) m.t
theorem OwBm.step {x y lo hi : Nat} {w w' : World} {v : Value} {m : Bm} (h : OwBm x y w v m) (s : Stp lo hi w w') (hd : hi ≤ x ∨ y ≤ lo) : OwBm x y w' v m := by
 obtain ⟨vl, vb, vr, vt, e, h1, h2, h3⟩ := h
 exact ⟨vl, vb, vr, vt, e, h1.step s hd, h2.step s hd, h3.step s hd⟩
theorem OwBm.rd {x y : Nat} {w : World} {v : Value} {m : Bm} (h : OwBm x y w v m) : RdBm y w v m := by
 obtain ⟨vl, vb, vr, vt, e, h1, h2, h3⟩ := h
 exact ⟨vl, vb, vr, vt, e, h1.rd, h2.rd, h3.rd⟩
theorem OwBm.mono {x y x' y' : Nat} {w : World} {v : Value} {m : Bm} (h : OwBm x y w v m) (h1 : x' ≤ x) (h2 : y ≤ y') : OwBm x' y' w v m := by
 obtain ⟨vl, vb, vr, vt, e, ⟨vl', e1, i1⟩, i2, ⟨vt', e3, i3⟩⟩ := h
 exact ⟨vl, vb, vr, vt, e, ⟨vl', e1, InRow.mono i1 h1 h2⟩, i2.mono h1 h2, ⟨vt', e3, InRow.mono i3 h1 h2⟩⟩
theorem pm0_rc (lo hi : Nat) (w : World) : RcPm lo hi w (plv 0 (.slice none 0 0) (.slice none 0 0)) pm0 := ⟨_, _, rfl, ⟨none, 0, rfl, .inl rfl⟩, fun n c e => by injection e with _ _ e3; exact e3.symm, ⟨[], rfl, ⟨none, 0, rfl, .inl rfl⟩, fun i h => absurd h (Nat.not_lt_zero _)⟩, fun n c e => by injection e with _ _ e3; exact e3.symm⟩
theorem InBm.ow {lo hi : Nat} {w : World} {v : Value} {m : Bm} (h : InBm lo hi w v m) : OwBm 0 hi w v m := by
 obtain ⟨vl, vb, vr, vt, j0, j1, p0, p1, t0, t1, e, k, ⟨vl', e1, i1⟩, i2, ⟨vt', e3, i3⟩⟩ := h
 exact ⟨vl, vb, vr, vt, e, ⟨vl', e1, InRow.mono i1 (Nat.zero_le _) (by omega)⟩, i2.rc.mono (Nat.le_refl _) (by omega), ⟨vt', e3, InRow.mono i3 (Nat.zero_le _) (by omega)⟩⟩
theorem bm0_ow (lo hi : Nat) (w : World) : OwBm lo hi w (balv 0 (.slice none 0 0) 0 0 (.slice none 0 0) (.slice none 0 0) (.slice none 0 0)) bm0 := ⟨_, _, _, _, rfl, ⟨_, rfl, World.ownsRow_nil _ _ _ _, fun b e => by cases e⟩, pm0_rc lo hi w, ⟨_, rfl, World.ownsRow_nil _ _ _ _, fun b e => by cases e⟩⟩
theorem own7_opn {kp : Int} {lb : List Bk} {lr : List (List (List Int))} {np nr a b : Nat} {w : World} {v : Value} (h1 : np = lb.length) (h2 : nr = lr.length) (h : RcPm a b w v ⟨kp, lb, lr⟩) : ∃ (o : Option Addr) (c : Nat) (oR : Option Addr) (cR : Nat), v = plv kp (.slice o np c) (.slice oR nr cR) := by
 obtain ⟨o, c, oR, cR, e⟩ := h.opn
 exact ⟨o, c, oR, cR, by rw [e, h1, h2]⟩
theorem own7_keep {x : World} {B : Nat} {u0 u1 u2 u3 u4 u5 u6 : Value} (h0 : x.cell? ⟨B, 0, none⟩ = some u0) (h1 : x.cell? ⟨B, 1, none⟩ = some u1) (h2 : x.cell? ⟨B, 2, none⟩ = some u2) (h3 : x.cell? ⟨B, 3, none⟩ = some u3) (h4 : x.cell? ⟨B, 4, none⟩ = some u4) (h5 : x.cell? ⟨B, 5, none⟩ = some u5) (h6 : x.cell? ⟨B, 6, none⟩ = some u6) (x0 x1 x2 x3 x4 x5 x6 : Value) : (setB x (B + 1) x0 x1 x2 x3 x4 x5 x6).cell? ⟨B, 0, none⟩ = some u0 ∧ (setB x (B + 1) x0 x1 x2 x3 x4 x5 x6).cell? ⟨B, 1, none⟩ = some u1 ∧ (setB x (B + 1) x0 x1 x2 x3 x4 x5 x6).cell? ⟨B, 2, none⟩ = some u2 ∧ (setB x (B + 1) x0 x1 x2 x3 x4 x5 x6).cell? ⟨B, 3, none⟩ = some u3 ∧ (setB x (B + 1) x0 x1 x2 x3 x4 x5 x6).cell? ⟨B, 4, none⟩ = some u4 ∧ (setB x (B + 1) x0 x1 x2 x3 x4 x5 x6).cell? ⟨B, 5, none⟩ = some u5 ∧ (setB x (B + 1) x0 x1 x2 x3 x4 x5 x6).cell? ⟨B, 6, none⟩ = some u6 :=
 have s := stp_setB x (B + 1) x0 x1 x2 x3 x4 x5 x6
 ⟨s.cellP h0 (.inl (Nat.lt_succ_self _)), s.cellP h1 (.inl (Nat.lt_succ_self _)), s.cellP h2 (.inl (Nat.lt_succ_self _)), s.cellP h3 (.inl (Nat.lt_succ_self _)), s.cellP h4 (.inl (Nat.lt_succ_self _)), s.cellP h5 (.inl (Nat.lt_succ_self _)), s.cellP h6 (.inl (Nat.lt_succ_self _))⟩

set_option maxRecDepth 100000 in
set_option maxHeartbeats 8000000 in
theorem l7own_go (kj : Int) (o : Option Addr) (nj c : Nat) (sj kp : Int) (ob : Option Addr) (np cb : Nat) (oR : Option Addr) (nr cR : Nat) (bt ft nt ct : Nat) (lj : List Cd) (lb : List Bk) (lr : List (List (List Int))) (lt : List Sl) (w : World)
  (hnj : nj = lj.length) (hnp : np = lb.length) (hnr : nr = lr.length) (hnt : nt = lt.length) (h1 : RdC w.heap.size w o lj) (h1c : o = none → c = 0) (h2 : RdK w.heap.size w ob lb) (h2c : ob = none → cb = 0) (h3 : RcR 0 w.heap.size w (.slice oR nr cR) lr) (h4 : bt < w.heap.size) (h5 : ∀ i, i < lt.length → ∀ j, j < layS.k → w.cell? ⟨bt, ft + i * layS.k + j, none⟩ = (layS.cs (lt.getD i layS.d))[j]?) (hf : fitBm ⟨⟨kj, lj, sj⟩, ⟨kp, lb, lr⟩, lt⟩) :
  Calls Tryz.prog 21 #[balv kj (.slice o nj c) sj kp (.slice ob np cb) (.slice oR nr cR) (.slice (some ⟨bt, ft, none⟩) nt ct)] w fun e w' => ∃ v, e = .returned v ∧ OwBm w.heap.size w'.heap.size w' v ⟨⟨kj, lj, sj⟩, ⟨kp, lb, lr⟩, lt⟩ ∧ Below w.heap.size w w' := by
 obtain ⟨f1, ⟨f2, f3, f4, f5, f6⟩, f7⟩ := hf
 dsimp only at f1 f2 f3 f4 f5 f6 f7
 have HJ := hide (fun W (hb : Below w.heap.size w W) => l4ownJ_any kj sj o c lj nj hnj W ((h1.kept hb (Nat.le_refl _)).le hb.size) h1c (by omega))
 have HP := hide (fun W (hb : Below w.heap.size w W) => l4own_rc kp ob cb lb oR cR lr nr hnr W ((h2.kept hb (Nat.le_refl _)).le hb.size) h2c f2 (RcR.mon.go (RcR.stp.go h3 (Stp.of (lo := 0) (hi := 0) hb) (.inl (Nat.zero_le _))) (Nat.le_refl _) hb.size) (by omega) f5 f6)
 have HT := hide (fun W (hb : Below w.heap.size w W) => l5own_any bt ft ct lt W (Nat.lt_of_lt_of_le h4 hb.size) (fun i hi j hj => (hb.cell (p := ⟨bt, ft + i * layS.k + j, none⟩) h4).trans (h5 i hi j hj)) f7)
 rw [← hnp] at HP
 rw [← hnt] at HT
 have HNJ := hide hnj
 have HNP := hide hnp
 have HNR := hide hnr
 have HNT := hide hnt
 clear h1 h2 h3 h5 f5 f6 f4 f2 f3 f7 f1 hnj hnp hnr hnt
 obtain ⟨W0, hW0⟩ : ∃ W, ((w.alloc (.cells #[.int .i64 kj, .slice o nj c, .int .i64 sj, .int .i64 kp, .slice ob np cb, .slice oR nr cR, .slice (some ⟨bt, ft, none⟩) nt ct] 47)).alloc (.cells #[.int .i64 0, .slice none 0 0, .int .i64 0, .int .i64 0, .slice none 0 0, .slice none 0 0, .slice none 0 0] 47)) = W := ⟨_, rfl⟩
 have hb_W0 : Below w.heap.size w W0 := by rw [← hW0]; exact (((Below.refl _ _).alloc (Nat.le_refl _) _).alloc (by simp <;> omega) _)
 have HB := hide hb_W0
 clear hb_W0
 have zz : w.heap.size < W0.heap.size := by rw [← hW0]; simp <;> omega
 have z0 : W0.cell? ⟨w.heap.size, 0, none⟩ = some (.int .i64 kj) := by rw [← hW0]; simp [go_sem]
 have z1 : W0.cell? ⟨w.heap.size, 1, none⟩ = some (.slice o nj c) := by rw [← hW0]; simp [go_sem]
 have z2 : W0.cell? ⟨w.heap.size, 2, none⟩ = some (.int .i64 sj) := by rw [← hW0]; simp [go_sem]
 have z3 : W0.cell? ⟨w.heap.size, 3, none⟩ = some (.int .i64 kp) := by rw [← hW0]; simp [go_sem]
 have z4 : W0.cell? ⟨w.heap.size, 4, none⟩ = some (.slice ob np cb) := by rw [← hW0]; simp [go_sem]
 have z5 : W0.cell? ⟨w.heap.size, 5, none⟩ = some (.slice oR nr cR) := by rw [← hW0]; simp [go_sem]
 have z6 : W0.cell? ⟨w.heap.size, 6, none⟩ = some (.slice (some ⟨bt, ft, none⟩) nt ct) := by rw [← hW0]; simp [go_sem]
 have zr : w.heap.size + 1 < W0.heap.size := by rw [← hW0]; simp
 have r0 : W0.cell? ⟨w.heap.size + 1, 0, none⟩ = some (.int .i64 0) := by rw [← hW0]; simp [go_sem]
 have r1 : W0.cell? ⟨w.heap.size + 1, 1, none⟩ = some (.slice none 0 0) := by rw [← hW0]; simp [go_sem]
 have r2 : W0.cell? ⟨w.heap.size + 1, 2, none⟩ = some (.int .i64 0) := by rw [← hW0]; simp [go_sem]
 have r3 : W0.cell? ⟨w.heap.size + 1, 3, none⟩ = some (.int .i64 0) := by rw [← hW0]; simp [go_sem]
 have r4 : W0.cell? ⟨w.heap.size + 1, 4, none⟩ = some (.slice none 0 0) := by rw [← hW0]; simp [go_sem]
 have r5 : W0.cell? ⟨w.heap.size + 1, 5, none⟩ = some (.slice none 0 0) := by rw [← hW0]; simp [go_sem]
 have r6 : W0.cell? ⟨w.heap.size + 1, 6, none⟩ = some (.slice none 0 0) := by rw [← hW0]; simp [go_sem]
 have fr0 : W0.frozen? ⟨w.heap.size + 1, 0, none⟩ = false := by rw [← hW0]; simp [go_sem]
 have fr1 : W0.frozen? ⟨w.heap.size + 1, 1, none⟩ = false := by rw [← hW0]; simp [go_sem]
 have fr2 : W0.frozen? ⟨w.heap.size + 1, 2, none⟩ = false := by rw [← hW0]; simp [go_sem]
 have fr3 : W0.frozen? ⟨w.heap.size + 1, 3, none⟩ = false := by rw [← hW0]; simp [go_sem]
 have fr4 : W0.frozen? ⟨w.heap.size + 1, 4, none⟩ = false := by rw [← hW0]; simp [go_sem]
 have fr5 : W0.frozen? ⟨w.heap.size + 1, 5, none⟩ = false := by rw [← hW0]; simp [go_sem]
 have fr6 : W0.frozen? ⟨w.heap.size + 1, 6, none⟩ = false := by rw [← hW0]; simp [go_sem]
 have HR0 := hide (show W0.heap[w.heap.size + 1]? = some (.cells #[.int .i64 0, .slice none 0 0, .int .i64 0, .int .i64 0, .slice none 0 0, .slice none 0 0, .slice none 0 0] 47 (0, 0)) by rw [← hW0]; exact box_new2 w _ _ _)
 have hbw := HB.out.size
 go_enter Tryz.func21, Tryz.ntmps21
 go_wp2
 go_region_held3 (fun w' => w'.cell? ⟨w.heap.size, 0, none⟩ = some (.int .i64 kj) ∧ w'.cell? ⟨w.heap.size, 1, none⟩ = some (.slice o nj c) ∧ w'.cell? ⟨w.heap.size, 2, none⟩ = some (.int .i64 sj) ∧ w'.cell? ⟨w.heap.size, 3, none⟩ = some (.int .i64 kp) ∧ w'.cell? ⟨w.heap.size, 4, none⟩ = some (.slice ob np cb) ∧ w'.cell? ⟨w.heap.size, 5, none⟩ = some (.slice oR nr cR) ∧ w'.cell? ⟨w.heap.size, 6, none⟩ = some (.slice (some ⟨bt, ft, none⟩) nt ct)) (first | with_reducible exact ⟨z0, z1, z2, z3, z4, z5, z6⟩ | with_reducible exact ⟨ka0, ka1, ka2, ka3, ka4, ka5, ka6⟩ | with_reducible exact ⟨kb0, kb1, kb2, kb3, kb4, kb5, kb6⟩ | with_reducible exact ⟨kc0, kc1, kc2, kc3, kc4, kc5, kc6⟩ | with_reducible exact hks _ _ _ _ _ _ _ | go_keep) (first | (go_at_call 51; (with_reducible refine (HJ.out W0.drew (Below.drew HB.out)).mono ?_); rintro e x0 ⟨o7, c7, rfl, ow7, hq0⟩; have hx0 : Below W0.heap.size W0 x0 := (Below.drew (Below.refl _ _)).trans hq0; have ka0 := bC hx0 z0 zz; have ka1 := bC hx0 z1 zz; have ka2 := bC hx0 z2 zz; have ka3 := bC hx0 z3 zz; have ka4 := bC hx0 z4 zz; have ka5 := bC hx0 z5 zz; have ka6 := bC hx0 z6 zz; have HBa := HB.out.trans (hx0.mono hbw); clear hq0) | (go_at_call 52; (with_reducible refine (HP.out x0 HBa).mono ?_); rintro e x1 ⟨v8, rfl, in8, hq1⟩; have hx1 : Below W0.heap.size W0 x1 := hx0.trans (hq1.mono hx0.size); have ow7' := own_kept ow7 hq1; obtain ⟨o8, c8, oR8, cR8, e8⟩ := own7_opn HNP.out HNR.out in8; subst e8; have kb0 := bC hx1 z0 zz; have kb1 := bC hx1 z1 zz; have kb2 := bC hx1 z2 zz; have kb3 := bC hx1 z3 zz; have kb4 := bC hx1 z4 zz; have kb5 := bC hx1 z5 zz; have kb6 := bC hx1 z6 zz; have HBb := HB.out.trans (hx1.mono hbw)) | (go_at_call 53; (with_reducible refine (HT.out x1 HBb).mono ?_); rintro e x2 ⟨o9, c9, rfl, ow9, hq2⟩; have hx2 : Below W0.heap.size W0 x2 := hx1.trans (hq2.mono hx1.size); have ow7'' := own_kept ow7' hq2; have in8' := in8.kept hq2 (Nat.le_refl _); have kc0 := bC hx2 z0 zz; have kc1 := bC hx2 z1 zz; have kc2 := bC hx2 z2 zz; have kc3 := bC hx2 z3 zz; have kc4 := bC hx2 z4 zz; have kc5 := bC hx2 z5 zz; have kc6 := bC hx2 z6 zz; have rr0 := bC hx2 r0 zr; have rf0 := bF hx2 fr0 zr; have rr1 := bC hx2 r1 zr; have rf1 := bF hx2 fr1 zr; have rr2 := bC hx2 r2 zr; have rf2 := bF hx2 fr2 zr; have rr3 := bC hx2 r3 zr; have rf3 := bF hx2 fr3 zr; have rr4 := bC hx2 r4 zr; have rf4 := bF hx2 fr4 zr; have rr5 := bC hx2 r5 zr; have rf5 := bF hx2 fr5 zr; have rr6 := bC hx2 r6 zr; have rf6 := bF hx2 fr6 zr; have hks := own7_keep (x := x2) kc0 kc1 kc2 kc3 kc4 kc5 kc6; have HBc := HB.out.trans (hx2.mono hbw)))
 have hq0 := hx0.size
 have hq1' := hq1.size
 have hq2' := hq2.size
 have HFI : Hid (OwBm w.heap.size (setB x2 (w.heap.size + 1) (.int .i64 kj) (.slice o7 nj c7) (.int .i64 sj) (.int .i64 kp) (.slice o8 np c8) (.slice oR8 nr cR8) (.slice o9 nt c9)).heap.size (setB x2 (w.heap.size + 1) (.int .i64 kj) (.slice o7 nj c7) (.int .i64 sj) (.int .i64 kp) (.slice o8 np c8) (.slice oR8 nr cR8) (.slice o9 nt c9)) (balv kj (.slice o7 nj c7) sj kp (.slice o8 np c8) (.slice oR8 nr cR8) (.slice o9 nt c9)) ⟨⟨kj, lj, sj⟩, ⟨kp, lb, lr⟩, lt⟩ ∧ Below w.heap.size w (setB x2 (w.heap.size + 1) (.int .i64 kj) (.slice o7 nj c7) (.int .i64 sj) (.int .i64 kp) (.slice o8 np c8) (.slice oR8 nr cR8) (.slice o9 nt c9))) := by
  have s9 := stp_setB x2 (w.heap.size + 1) (.int .i64 kj) (.slice o7 nj c7) (.int .i64 sj) (.int .i64 kp) (.slice o8 np c8) (.slice oR8 nr cR8) (.slice o9 nt c9)
  have j9 := InRow.step (InRow.of ow7'') s9 (.inl (show w.heap.size + 1 + 1 ≤ W0.heap.size by omega))
  have p9 := (in8'.step s9 (.inl (show w.heap.size + 1 + 1 ≤ x0.heap.size by omega)))
  have t9 := InRow.step (InRow.of ow9) s9 (.inl (show w.heap.size + 1 + 1 ≤ x1.heap.size by omega))
  refine ⟨⟨_, _, _, _, rfl, ⟨_, rfl, InRow.mono j9 (show w.heap.size ≤ W0.heap.size by omega) (by rw [setB_size]; exact Nat.le_refl _)⟩, p9.mono (by omega) (by rw [setB_size]; exact hq2'), ⟨_, rfl, InRow.mono t9 (by omega) (by rw [setB_size]; exact Nat.le_refl _)⟩⟩, setB_below HBc (Nat.le_succ _) _ _ _ _ _ _ _⟩
 clear ow7 ow7' ow7'' in8 in8' ow9 hks hx0 hx1 hx2 hq1 hq2 HBa HBb HBc ka0 kb0 ka1 kb1 ka2 kb2 ka3 kb3 ka4 kb4 ka5 kb5 ka6 kb6
 go_wp2
 refine bodyPost_ret (v := balv kj (.slice o7 nj c7) sj kp (.slice o8 np c8) (.slice oR8 nr cR8) (.slice o9 nt c9)) (by simp [results, Tryz.results21, go_sem, rr0, rr1, rr2, rr3, rr4, rr5, rr6]) rfl ⟨_, rfl, HFI.out.1, HFI.out.2⟩

end Go.Proofs.YtpjkcgaohoinaaaGreat

namespace Go.Proofs.YtpjkcgaohoinaaaGreat
open Go.ChangeShapes Go.WideShapes Go.ChangeAt Go.RowKit Go.Joins
set_option linter.unusedVariables false
set_option linter.unusedSimpArgs false


theorem InBm.mono {lo hi lo' hi' : Nat} {w : World} {v : Value} {m : Bm} (h : InBm lo hi w v m) (h1 : lo' ≤ lo) (h2 : hi ≤ hi') : InBm lo' hi' w v m := by
 obtain ⟨vl, vb, vr, vt, j0, j1, p0, p1, t0, t1, e, k, i1, i2, i3⟩ := h
 exact ⟨vl, vb, vr, vt, j0, j1, p0, p1, t0, t1, e, by omega, i1, i2, i3⟩
end Go.Proofs.YtpjkcgaohoinaaaGreat

