/- Several texts in one: SBNew, SBPlain. -/
import Derived.Laws.MakeOwn
import Derived.Deep.RegionHeld3
import Derived.Deep.RegionLaw
import Derived.Test.YtmmhgkkcpjhiiaaGreatQLearn32
import Derived.Test.YtmmhgkkcpjhiiaaGreatQLearn35
namespace Go.Proofs.YtmmhgkkcpjhiiaaGreat
open Go.ChangeShapes Go.WideShapes Go.ChangeAt Go.RowKit Go.Joins
set_option linter.unusedVariables false
set_option linter.unusedSimpArgs false


def bm0 : Bm := ⟨jm0, pm0, []⟩
theorem bm0_in (lo hi : Nat) (w : World) (h : lo ≤ hi) : InBm lo hi w (balv 0 (.slice none 0 0) 0 0 (.slice none 0 0) (.slice none 0 0) (.slice none 0 0)) bm0 := InBm.asc (m := bm0) (a := lo) (b := lo) (Nat.le_refl _) (Nat.le_refl _) h ⟨_, rfl, World.ownsRow_nil _ _ _ _, fun b e => by cases e⟩ (pm0_in lo lo w (Nat.le_refl _)) ⟨_, rfl, World.ownsRow_nil _ _ _ _, fun b e => by cases e⟩
end Go.Proofs.YtmmhgkkcpjhiiaaGreat

namespace Go.Proofs.YtmmhgkkcpjhiiaaGreat
open Go.ChangeShapes Go.WideShapes Go.ChangeAt Go.RowKit Go.Joins
set_option linter.unusedVariables false
set_option linter.unusedSimpArgs false


structure Bx (lo : Nat) (w : World) (g xc : Nat) (kj : Int) (vl : Value) (sj kp : Int) (vb vr : Value) (m : Bm) : Prop where
 ek : kj = m.j.key
 es : sj = m.j.safe
 ep : kp = m.p.key
 row : ∃ base, lo ≤ base ∧ w.ownsRow base CellT 5 (.slice (some ⟨g, 0, none⟩) m.t.length xc) m.t.length (m.t.flatMap layS.cs)
 mem : ∃ j0 j1 p0 p1, lo ≤ j0 ∧ j1 ≤ w.heap.size ∧ lo ≤ p0 ∧ p1 ≤ w.heap.size ∧ (j1 ≤ p0 ∨ p1 ≤ j0) ∧ (g < j0 ∨ j1 ≤ g) ∧ (g < p0 ∨ p1 ≤ g) ∧ InJm j0 j1 w (jrn m.j.key vl m.j.safe) m.j ∧ InPm p0 p1 w (plv m.p.key vb vr) m.p
theorem Bx.kept {lo : Nat} {w w' : World} {g xc : Nat} {kj : Int} {vl : Value} {sj kp : Int} {vb vr : Value} {m : Bm} (h : Bx lo w g xc kj vl sj kp vb vr m) (hb : Below w.heap.size w w') : Bx lo w' g xc kj vl sj kp vb vr m := by
 obtain ⟨h1, h2, h3, ⟨base, h4, h5⟩, ⟨j0, j1, p0, p1, k1, k2, k3, k4, k5, k6, k7, i1, i2⟩⟩ := h
 have hs := hb.size
 exact ⟨h1, h2, h3, ⟨base, h4, own_kept h5 hb⟩, ⟨j0, j1, p0, p1, k1, by omega, k3, by omega, k5, k6, k7, i1.step (Stp.of (lo := 0) (hi := 0) hb) (.inl (Nat.zero_le _)), i2.step (Stp.of (lo := 0) (hi := 0) hb) (.inl (Nat.zero_le _))⟩⟩
theorem Bx.of {lo : Nat} {w : World} {xo : Option Addr} {xn xc : Nat} {kq : Int} {yo : Option Addr} {yn yc : Nat} {sq kr : Int} {uo : Option Addr} {un uc : Nat} {vo : Option Addr} {vn vc : Nat} {j : Jm} {p : Pm} {t : List Sl} (h : InBl lo w.heap.size w (balr (.slice xo xn xc) kq (.slice yo yn yc) sq kr (.slice uo un uc) (.slice vo vn vc)) j p t) (ht : 0 < t.length) :
  ∃ g, xo = some ⟨g, 0, none⟩ ∧ xn = t.length ∧ lo ≤ g ∧ Bx lo w g xc kq (.slice yo yn yc) sq kr (.slice uo un uc) (.slice vo vn vc) ⟨j, p, t⟩ := by
 obtain ⟨g, a, b, k1, k2, k3, k4, e1, e2, e3, e4, e5, i1, i2, i3⟩ := inBl_open h ht
 exact ⟨g, e4, e5, by omega, e1, e2, e3, ⟨a, by omega, i2⟩, ⟨b, w.heap.size, lo, a, by omega, Nat.le_refl _, Nat.le_refl _, by omega, by omega, by omega, by omega, i3, i1⟩⟩

set_option maxRecDepth 100000 in
set_option maxHeartbeats 8000000 in
theorem plainB_any (lo g nt xc : Nat) (kq : Int) (yo : Option Addr) (yn yc : Nat) (sq kr : Int) (uo : Option Addr) (un uc : Nat) (vo : Option Addr) (vn vc : Nat) (m : Bm) (w : World) (hnt : nt = m.t.length) (hl : m.t.length ≤ 1048576) (hlo : lo ≤ w.heap.size) (h : Bx lo w g xc kq (.slice yo yn yc) sq kr (.slice uo un uc) (.slice vo vn vc) m) :
  Calls Tryz.prog 116 #[balr (.slice (some ⟨g, 0, none⟩) nt xc) kq (.slice yo yn yc) sq kr (.slice uo un uc) (.slice vo vn vc)] w fun e w' => ∃ tO tn tc, e = .returned (balv kq (.slice yo yn yc) sq kr (.slice uo un uc) (.slice vo vn vc) (.slice tO tn tc)) ∧ InBm lo w'.heap.size w' (balv kq (.slice yo yn yc) sq kr (.slice uo un uc) (.slice vo vn vc) (.slice tO tn tc)) m ∧ Below w.heap.size w w' := by
 obtain ⟨base, hbs, ho⟩ := h.row
 have HPT := hide (fun W (hb : Below w.heap.size w W) => plainTable_any g 0 xc m.t W (Nat.lt_of_lt_of_le (ho.lt g rfl).2 hb.size) (rd_of_own (own_kept ho hb) rfl) hl)
 rw [← hnt] at HPT
 have HNT := hide hnt
 have HX := hide h
 have HMM := hide (show ∀ W : World, Below w.heap.size w W → ∃ j0 j1 p0 p1, lo ≤ j0 ∧ j1 ≤ w.heap.size ∧ lo ≤ p0 ∧ p1 ≤ w.heap.size ∧ (j1 ≤ p0 ∨ p1 ≤ j0) ∧ (g < j0 ∨ j1 ≤ g) ∧ (g < p0 ∨ p1 ≤ g) ∧ InJm j0 j1 W (jrn m.j.key (.slice yo yn yc) m.j.safe) m.j ∧ InPm p0 p1 W (plv m.p.key (.slice uo un uc) (.slice vo vn vc)) m.p from fun W hb => by
  obtain ⟨j0, j1, p0, p1, k1, k2, k3, k4, k5, k6, k7, i1, i2⟩ := h.mem
  exact ⟨j0, j1, p0, p1, k1, k2, k3, k4, k5, k6, k7, i1.step (Stp.of (lo := 0) (hi := 0) hb) (.inl (Nat.zero_le _)), i2.step (Stp.of (lo := 0) (hi := 0) hb) (.inl (Nat.zero_le _))⟩)
 clear ho h hnt
 obtain ⟨W0, hW0⟩ : ∃ W, ((w.alloc (.cells #[.slice (some ⟨g, 0, none⟩) nt xc, .int .i64 kq, .slice yo yn yc, .int .i64 sq, .int .i64 kr, .slice uo un uc, .slice vo vn vc] 152)).alloc (.cells #[.int .i64 0, .slice none 0 0, .int .i64 0, .int .i64 0, .slice none 0 0, .slice none 0 0, .slice none 0 0] 34)) = W := ⟨_, rfl⟩
 have hb_W0 : Below w.heap.size w W0 := by rw [← hW0]; exact (((Below.refl _ _).alloc (Nat.le_refl _) _).alloc (by simp <;> omega) _)
 have HB := hide hb_W0
 clear hb_W0
 have zx : w.heap.size < W0.heap.size := by rw [← hW0]; simp <;> omega
 have x0 : W0.cell? ⟨w.heap.size, 0, none⟩ = some (.slice (some ⟨g, 0, none⟩) nt xc) := by rw [← hW0]; simp [go_sem]
 have x1 : W0.cell? ⟨w.heap.size, 1, none⟩ = some (.int .i64 kq) := by rw [← hW0]; simp [go_sem]
 have x2 : W0.cell? ⟨w.heap.size, 2, none⟩ = some (.slice yo yn yc) := by rw [← hW0]; simp [go_sem]
 have x3 : W0.cell? ⟨w.heap.size, 3, none⟩ = some (.int .i64 sq) := by rw [← hW0]; simp [go_sem]
 have x4 : W0.cell? ⟨w.heap.size, 4, none⟩ = some (.int .i64 kr) := by rw [← hW0]; simp [go_sem]
 have x5 : W0.cell? ⟨w.heap.size, 5, none⟩ = some (.slice uo un uc) := by rw [← hW0]; simp [go_sem]
 have x6 : W0.cell? ⟨w.heap.size, 6, none⟩ = some (.slice vo vn vc) := by rw [← hW0]; simp [go_sem]
 have zr : w.heap.size + 1 < W0.heap.size := by rw [← hW0]; simp
 have r0 : W0.cell? ⟨w.heap.size + 1, 0, none⟩ = some (.int .i64 0) := by rw [← hW0]; simp [go_sem]
 have r1 : W0.cell? ⟨w.heap.size + 1, 1, none⟩ = some (.slice none 0 0) := by rw [← hW0]; simp [go_sem]
 have r2 : W0.cell? ⟨w.heap.size + 1, 2, none⟩ = some (.int .i64 0) := by rw [← hW0]; simp [go_sem]
 have r3 : W0.cell? ⟨w.heap.size + 1, 3, none⟩ = some (.int .i64 0) := by rw [← hW0]; simp [go_sem]
 have r4 : W0.cell? ⟨w.heap.size + 1, 4, none⟩ = some (.slice none 0 0) := by rw [← hW0]; simp [go_sem]
 have r5 : W0.cell? ⟨w.heap.size + 1, 5, none⟩ = some (.slice none 0 0) := by rw [← hW0]; simp [go_sem]
 have r6 : W0.cell? ⟨w.heap.size + 1, 6, none⟩ = some (.slice none 0 0) := by rw [← hW0]; simp [go_sem]
 have fr0 : W0.frozen? ⟨w.heap.size + 1, 0, none⟩ = false := by rw [← hW0]; simp [go_sem]
 have fr1 : W0.frozen? ⟨w.heap.size + 1, 1, none⟩ = false := by rw [← hW0]; simp [go_sem]
 have fr2 : W0.frozen? ⟨w.heap.size + 1, 2, none⟩ = false := by rw [← hW0]; simp [go_sem]
 have fr3 : W0.frozen? ⟨w.heap.size + 1, 3, none⟩ = false := by rw [← hW0]; simp [go_sem]
 have fr4 : W0.frozen? ⟨w.heap.size + 1, 4, none⟩ = false := by rw [← hW0]; simp [go_sem]
 have fr5 : W0.frozen? ⟨w.heap.size + 1, 5, none⟩ = false := by rw [← hW0]; simp [go_sem]
 have fr6 : W0.frozen? ⟨w.heap.size + 1, 6, none⟩ = false := by rw [← hW0]; simp [go_sem]
 have hne0 : w.heap.size ≠ w.heap.size + 1 := by omega
 have hsw : w.heap.size + 1 < W0.heap.size := zr
 go_enter Tryz.func116, Tryz.ntmps116
 go_wp2
 go_region_held3 (fun w' => w'.cell? ⟨w.heap.size, 0, none⟩ = some (.slice (some ⟨g, 0, none⟩) nt xc) ∧ w'.cell? ⟨w.heap.size, 1, none⟩ = some (.int .i64 kq) ∧ w'.cell? ⟨w.heap.size, 2, none⟩ = some (.slice yo yn yc) ∧ w'.cell? ⟨w.heap.size, 3, none⟩ = some (.int .i64 sq) ∧ w'.cell? ⟨w.heap.size, 4, none⟩ = some (.int .i64 kr) ∧ w'.cell? ⟨w.heap.size, 5, none⟩ = some (.slice uo un uc) ∧ w'.cell? ⟨w.heap.size, 6, none⟩ = some (.slice vo vn vc)) (first | with_reducible exact ⟨x0, x1, x2, x3, x4, x5, x6⟩ | with_reducible exact ⟨kx0, kx1, kx2, kx3, kx4, kx5, kx6⟩ | with_reducible exact hks _ _ _ _ _ _ _ | go_keep) (first | (go_at_call 230; (with_reducible refine (HPT.out W0.drew (Below.drew HB.out)).mono ?_); rintro e v4 ⟨tg, rfl, ow2, hq0⟩; have hx : Below W0.heap.size W0 v4 := (Below.drew (Below.refl _ _)).trans hq0; have kx0 := bC hx x0 zx; have kx1 := bC hx x1 zx; have kx2 := bC hx x2 zx; have kx3 := bC hx x3 zx; have kx4 := bC hx x4 zx; have kx5 := bC hx x5 zx; have kx6 := bC hx x6 zx; have rr0 := bC hx r0 zr; have rf0 := bF hx fr0 zr; have rr1 := bC hx r1 zr; have rf1 := bF hx fr1 zr; have rr2 := bC hx r2 zr; have rf2 := bF hx fr2 zr; have rr3 := bC hx r3 zr; have rf3 := bF hx fr3 zr; have rr4 := bC hx r4 zr; have rf4 := bF hx fr4 zr; have rr5 := bC hx r5 zr; have rf5 := bF hx fr5 zr; have rr6 := bC hx r6 zr; have rf6 := bF hx fr6 zr; have hks := (fun x0 x1 x2 x3 x4 x5 x6 => (And.intro (setB_cell kx0 hne0 x0 x1 x2 x3 x4 x5 x6) (And.intro (setB_cell kx1 hne0 x0 x1 x2 x3 x4 x5 x6) (And.intro (setB_cell kx2 hne0 x0 x1 x2 x3 x4 x5 x6) (And.intro (setB_cell kx3 hne0 x0 x1 x2 x3 x4 x5 x6) (And.intro (setB_cell kx4 hne0 x0 x1 x2 x3 x4 x5 x6) (And.intro (setB_cell kx5 hne0 x0 x1 x2 x3 x4 x5 x6) (setB_cell kx6 hne0 x0 x1 x2 x3 x4 x5 x6)))))))); have HBc := HB.out.trans (hx.mono HB.out.size)))
 have hs6 : W0.heap.size ≤ v4.heap.size := hx.size
 have HO := hide ow2
 replace HB := hide HBc
 replace HX := hide (HX.out.kept HBc)
 have HFI : Hid (InBm lo (setB v4 (w.heap.size + 1) (.int .i64 kq) (.slice yo yn yc) (.int .i64 sq) (.int .i64 kr) (.slice uo un uc) (.slice vo vn vc) (.slice (some ⟨tg, 0, none⟩) nt nt)).heap.size (setB v4 (w.heap.size + 1) (.int .i64 kq) (.slice yo yn yc) (.int .i64 sq) (.int .i64 kr) (.slice uo un uc) (.slice vo vn vc) (.slice (some ⟨tg, 0, none⟩) nt nt)) (balv kq (.slice yo yn yc) sq kr (.slice uo un uc) (.slice vo vn vc) (.slice (some ⟨tg, 0, none⟩) nt nt)) m) := by
  have s9 := stp_setB v4 (w.heap.size + 1) (.int .i64 kq) (.slice yo yn yc) (.int .i64 sq) (.int .i64 kr) (.slice uo un uc) (.slice vo vn vc) (.slice (some ⟨tg, 0, none⟩) nt nt)
  obtain ⟨e1, e2, e3, _, _⟩ := HX.out
  obtain ⟨j0, j1, p0, p1, k1, k2, k3, k4, k5, k6, k7, i1, i2⟩ : ∃ j0 j1 p0 p1, lo ≤ j0 ∧ j1 ≤ w.heap.size ∧ lo ≤ p0 ∧ p1 ≤ w.heap.size ∧ (j1 ≤ p0 ∨ p1 ≤ j0) ∧ (g < j0 ∨ j1 ≤ g) ∧ (g < p0 ∨ p1 ≤ g) ∧ InJm j0 j1 v4 (jrn m.j.key (.slice yo yn yc) m.j.safe) m.j ∧ InPm p0 p1 v4 (plv m.p.key (.slice uo un uc) (.slice vo vn vc)) m.p := HMM.out v4 HB.out
  refine ⟨_, _, _, _, j0, j1, p0, p1, W0.heap.size, v4.heap.size, by rw [e1, e2, e3], by rw [setB_size]; omega, i1.step s9 (by omega), i2.step s9 (by omega), ⟨_, rfl, ?_⟩⟩
  have t9 := InRow.step (InRow.of HO.out) s9 (.inl (show w.heap.size + 1 + 1 ≤ W0.heap.size by omega))
  rw [HNT.out] at t9 ⊢
  exact t9
 clear hks hx hq0 HBc ow2 x0 kx0 x1 kx1 x2 kx2 x3 kx3 x4 kx4 x5 kx5 x6 kx6 r0 fr0 r1 fr1 r2 fr2 r3 fr3 r4 fr4 r5 fr5 r6 fr6
 go_wp2
 refine bodyPost_ret (v := balv kq (.slice yo yn yc) sq kr (.slice uo un uc) (.slice vo vn vc) (.slice (some ⟨tg, 0, none⟩) nt nt)) (by simp [results, Tryz.results116, go_sem, rr0, rr1, rr2, rr3, rr4, rr5, rr6]) rfl ⟨_, _, _, rfl, HFI.out, setB_below HB.out (Nat.le_succ _) _ _ _ _ _ _ _⟩

end Go.Proofs.YtmmhgkkcpjhiiaaGreat

