/- Several texts in one: SBNew, SBPlain, RcP, SBOwn, SCrash. -/
import Derived.Laws.MakeOwn
import Derived.Deep.RegionHeld3
import Derived.Deep.RegionLaw
import Derived.Test.YtajfkcpifnpkeaaGreatGrSJCut
import Derived.Test.YtajfkcpifnpkeaaGreatQCrash01
import Derived.Test.YtajfkcpifnpkeaaGreatGrSBOk
/- BalNew, on both sides; the model's copy of a balancer. -/
namespace Go.Proofs.YtajfkcpifnpkeaaGreat
open Go.ChangeShapes Go.WideShapes Go.ChangeAt Go.RowKit Go.Joins
set_option linter.unusedVariables false
set_option linter.unusedSimpArgs false


def bm0 : Bm := ⟨jm0, pm0, []⟩
theorem bm0_in (lo hi : Nat) (w : World) (h : lo ≤ hi) : InBm lo hi w (balv 0 (.slice none 0 0) 0 0 (.slice none 0 0) (.slice none 0 0) (.slice none 0 0)) bm0 := InBm.asc (m := bm0) (a := lo) (b := lo) (Nat.le_refl _) (Nat.le_refl _) h ⟨_, rfl, World.ownsRow_nil _ _ _ _, fun b e => by cases e⟩ (pm0_in lo lo w (Nat.le_refl _)) ⟨_, rfl, World.ownsRow_nil _ _ _ _, fun b e => by cases e⟩
/-- So many free slots, made in one go. -/
theorem madeN (m : Nat) (hm : m ≤ 16) : ∃ cs : Array Value, (∀ W : World, (Instr.makeSlice 42 (.int .i64 (m : Int)) (.int .i64 (m : Int))).run Tryz.prog W = .ok (.slice (some ⟨W.heap.size, 0, none⟩) m m) (W.alloc (.cells cs 99))) ∧ ∀ W : World, ownS (W.alloc (.cells cs 99)) W.heap.size (.slice (some ⟨W.heap.size, 0, none⟩) m m) (List.replicate m sl0) := by
  obtain ⟨i0, hi, hz0, hz1, hz2⟩ := info_parts infoSlot
  have h1 : ∀ W : World, (Instr.makeSlice 42 (.int .i64 (m : Int)) (.int .i64 (m : Int))).run Tryz.prog W = .ok (.slice (some ⟨W.heap.size, 0, none⟩) m m) (W.alloc (.cells (madeCells (slot sl0).cells (m * i0.size)) 99)) := fun W => by
    have h := run_make (P := Tryz.prog) W 42 99 i0 (slot sl0) Tryz.underlying42 hi hz0 .i64 .i64 (m : Int) (m : Int) (by omega) (by omega) (by rw [hz2]; omega) (by omega)
    simpa using h
  refine ⟨_, h1, fun W => ?_⟩
  obtain ⟨w', hrun, r1, r2⟩ := run_make_full (P := Tryz.prog) W W.heap.size 42 99 i0 (slot sl0) 5 Tryz.underlying42 hi hz0 hz1 .i64 .i64 m (by rw [hz2]; omega) (by unfold maxLen; omega) (Nat.le_refl _)
  have h2 := (h1 W).symm.trans hrun
  injection h2 with _ h2
  rw [h2]
  unfold ownS ownL
  rw [List.length_replicate]
  show w'.ownsRow _ _ _ _ m ((List.replicate m layS.d).flatMap layS.cs)
  rw [← made_flat layS (slot sl0) rfl]
  exact r1

end Go.Proofs.YtajfkcpifnpkeaaGreat

/- What a balancer hands out: plain. -/
namespace Go.Proofs.YtajfkcpifnpkeaaGreat
open Go.ChangeShapes Go.WideShapes Go.ChangeAt Go.RowKit Go.Joins
set_option linter.unusedVariables false
set_option linter.unusedSimpArgs false


/-- Where a balancer's parts lie: journal and pool apart, from lo on; its hints' row is its own. -/
structure Bx (lo : Nat) (w : World) (g xc : Nat) (kj : Int) (vl : Value) (sj kp : Int) (vb vr : Value) (m : Bm) : Prop where
  ek : kj = m.j.key
  es : sj = m.j.safe
  ep : kp = m.p.key
  row : ∃ base, lo ≤ base ∧ w.ownsRow base CellT 5 (.slice (some ⟨g, 0, none⟩) m.t.length xc) m.t.length (m.t.flatMap layS.cs)
  mem : ∃ j0 j1 p0 p1, lo ≤ j0 ∧ j1 ≤ w.heap.size ∧ lo ≤ p0 ∧ p1 ≤ w.heap.size ∧ (j1 ≤ p0 ∨ p1 ≤ j0) ∧ (g < j0 ∨ j1 ≤ g) ∧ (g < p0 ∨ p1 ≤ g) ∧ InJm j0 j1 w (jrn m.j.key vl m.j.safe) m.j ∧ InPm p0 p1 w (plv m.p.key vb vr) m.p
theorem Bx.kept {lo : Nat} {w w' : World} {g xc : Nat} {kj : Int} {vl : Value} {sj kp : Int} {vb vr : Value} {m : Bm} (h : Bx lo w g xc kj vl sj kp vb vr m) (hb : Below w.heap.size w w') : Bx lo w' g xc kj vl sj kp vb vr m := by
  obtain ⟨h1, h2, h3, ⟨base, h4, h5⟩, ⟨j0, j1, p0, p1, k1, k2, k3, k4, k5, k6, k7, i1, i2⟩⟩ := h
  have hs := hb.size
  exact ⟨h1, h2, h3, ⟨base, h4, own_kept h5 hb⟩, ⟨j0, j1, p0, p1, k1, by omega, k3, by omega, k5, k6, k7, i1.step (Stp.of (lo := 0) (hi := 0) hb) (.inl (Nat.zero_le _)), i2.step (Stp.of (lo := 0) (hi := 0) hb) (.inl (Nat.zero_le _))⟩⟩
theorem Bx.of {lo : Nat} {w : World} {xo : Option Addr} {xn xc : Nat} {kq : Int} {yo : Option Addr} {yn yc : Nat} {sq kr : Int} {uo : Option Addr} {un uc : Nat} {vo : Option Addr} {vn vc : Nat} {j : Jm} {p : Pm} {t : List Sl} (h : InBl lo w.heap.size w (balr (.slice xo xn xc) kq (.slice yo yn yc) sq kr (.slice uo un uc) (.slice vo vn vc)) j p t) (ht : 0 < t.length) :
    ∃ g, xo = some ⟨g, 0, none⟩ ∧ xn = t.length ∧ lo ≤ g ∧ Bx lo w g xc kq (.slice yo yn yc) sq kr (.slice uo un uc) (.slice vo vn vc) ⟨j, p, t⟩ := by
  obtain ⟨g, a, b, k1, k2, k3, k4, e1, e2, e3, e4, e5, i1, i2, i3⟩ := inBl_open h ht
  exact ⟨g, e4, e5, by omega, e1, e2, e3, ⟨a, by omega, i2⟩, ⟨b, w.heap.size, lo, a, by omega, Nat.le_refl _, Nat.le_refl _, by omega, by omega, by omega, by omega, i3, i1⟩⟩

set_option maxRecDepth 100000 in
set_option maxHeartbeats 8000000 in
theorem plainB_any (lo g nt xc : Nat) (kq : Int) (yo : Option Addr) (yn yc : Nat) (sq kr : Int) (uo : Option Addr) (un uc : Nat) (vo : Option Addr) (vn vc : Nat) (m : Bm) (w : World) (hnt : nt = m.t.length) (hl : m.t.length ≤ 1048576) (hlo : lo ≤ w.heap.size) (h : Bx lo w g xc kq (.slice yo yn yc) sq kr (.slice uo un uc) (.slice vo vn vc) m) :
    Calls Tryz.prog 63 #[balr (.slice (some ⟨g, 0, none⟩) nt xc) kq (.slice yo yn yc) sq kr (.slice uo un uc) (.slice vo vn vc)] w fun e w' => ∃ tO tn tc, e = .returned (balv kq (.slice yo yn yc) sq kr (.slice uo un uc) (.slice vo vn vc) (.slice tO tn tc)) ∧ InBm lo w'.heap.size w' (balv kq (.slice yo yn yc) sq kr (.slice uo un uc) (.slice vo vn vc) (.slice tO tn tc)) m ∧ Below w.heap.size w w' := by
  obtain ⟨base, hbs, ho⟩ := h.row
  have HPT := hide (fun W (hb : Below w.heap.size w W) => plainTable_any g 0 xc m.t W (Nat.lt_of_lt_of_le (ho.lt g rfl).2 hb.size) (rd_of_own (own_kept ho hb) rfl) hl)
  rw [← hnt] at HPT
  have HNT := hide hnt
  have HX := hide h
  have HMM := hide (show ∀ W : World, Below w.heap.size w W → ∃ j0 j1 p0 p1, lo ≤ j0 ∧ j1 ≤ w.heap.size ∧ lo ≤ p0 ∧ p1 ≤ w.heap.size ∧ (j1 ≤ p0 ∨ p1 ≤ j0) ∧ (g < j0 ∨ j1 ≤ g) ∧ (g < p0 ∨ p1 ≤ g) ∧ InJm j0 j1 W (jrn m.j.key (.slice yo yn yc) m.j.safe) m.j ∧ InPm p0 p1 W (plv m.p.key (.slice uo un uc) (.slice vo vn vc)) m.p from fun W hb => by
    obtain ⟨j0, j1, p0, p1, k1, k2, k3, k4, k5, k6, k7, i1, i2⟩ := h.mem
    exact ⟨j0, j1, p0, p1, k1, k2, k3, k4, k5, k6, k7, i1.step (Stp.of (lo := 0) (hi := 0) hb) (.inl (Nat.zero_le _)), i2.step (Stp.of (lo := 0) (hi := 0) hb) (.inl (Nat.zero_le _))⟩)
  clear ho h hnt
  obtain ⟨W0, hW0⟩ : ∃ W, ((w.alloc (.cells #[.slice (some ⟨g, 0, none⟩) nt xc, .int .i64 kq, .slice yo yn yc, .int .i64 sq, .int .i64 kr, .slice uo un uc, .slice vo vn vc] 109)).alloc (.cells #[.int .i64 0, .slice none 0 0, .int .i64 0, .int .i64 0, .slice none 0 0, .slice none 0 0, .slice none 0 0] 46)) = W := ⟨_, rfl⟩
  have hb_W0 : Below w.heap.size w W0 := by rw [← hW0]; exact (((Below.refl _ _).alloc (Nat.le_refl _) _).alloc (by simp <;> omega) _)
  have HB := hide hb_W0
  clear hb_W0
  have zx : w.heap.size < W0.heap.size := by rw [← hW0]; simp <;> omega
  have x0 : W0.cell? ⟨w.heap.size, 0, none⟩ = some (.slice (some ⟨g, 0, none⟩) nt xc) := by rw [← hW0]; simp [go_sem]
  have x1 : W0.cell? ⟨w.heap.size, 1, none⟩ = some (.int .i64 kq) := by rw [← hW0]; simp [go_sem]
  have x2 : W0.cell? ⟨w.heap.size, 2, none⟩ = some (.slice yo yn yc) := by rw [← hW0]; simp [go_sem]
  have x3 : W0.cell? ⟨w.heap.size, 3, none⟩ = some (.int .i64 sq) := by rw [← hW0]; simp [go_sem]
  have x4 : W0.cell? ⟨w.heap.size, 4, none⟩ = some (.int .i64 kr) := by rw [← hW0]; simp [go_sem]
  have x5 : W0.cell? ⟨w.heap.size, 5, none⟩ = some (.slice uo un uc) := by rw [← hW0]; simp [go_sem]
  have x6 : W0.cell? ⟨w.heap.size, 6, none⟩ = some (.slice vo vn vc) := by rw [← hW0]; simp [go_sem]
  have zr : w.heap.size + 1 < W0.heap.size := by rw [← hW0]; simp
  have r0 : W0.cell? ⟨w.heap.size + 1, 0, none⟩ = some (.int .i64 0) := by rw [← hW0]; simp [go_sem]
  have r1 : W0.cell? ⟨w.heap.size + 1, 1, none⟩ = some (.slice none 0 0) := by rw [← hW0]; simp [go_sem]
  have r2 : W0.cell? ⟨w.heap.size + 1, 2, none⟩ = some (.int .i64 0) := by rw [← hW0]; simp [go_sem]
  have r3 : W0.cell? ⟨w.heap.size + 1, 3, none⟩ = some (.int .i64 0) := by rw [← hW0]; simp [go_sem]
  have r4 : W0.cell? ⟨w.heap.size + 1, 4, none⟩ = some (.slice none 0 0) := by rw [← hW0]; simp [go_sem]
  have r5 : W0.cell? ⟨w.heap.size + 1, 5, none⟩ = some (.slice none 0 0) := by rw [← hW0]; simp [go_sem]
  have r6 : W0.cell? ⟨w.heap.size + 1, 6, none⟩ = some (.slice none 0 0) := by rw [← hW0]; simp [go_sem]
  have fr0 : W0.frozen? ⟨w.heap.size + 1, 0, none⟩ = false := by rw [← hW0]; simp [go_sem]
  have fr1 : W0.frozen? ⟨w.heap.size + 1, 1, none⟩ = false := by rw [← hW0]; simp [go_sem]
  have fr2 : W0.frozen? ⟨w.heap.size + 1, 2, none⟩ = false := by rw [← hW0]; simp [go_sem]
  have fr3 : W0.frozen? ⟨w.heap.size + 1, 3, none⟩ = false := by rw [← hW0]; simp [go_sem]
  have fr4 : W0.frozen? ⟨w.heap.size + 1, 4, none⟩ = false := by rw [← hW0]; simp [go_sem]
  have fr5 : W0.frozen? ⟨w.heap.size + 1, 5, none⟩ = false := by rw [← hW0]; simp [go_sem]
  have fr6 : W0.frozen? ⟨w.heap.size + 1, 6, none⟩ = false := by rw [← hW0]; simp [go_sem]
  have hne0 : w.heap.size ≠ w.heap.size + 1 := by omega
  have hsw : w.heap.size + 1 < W0.heap.size := zr
  go_enter Tryz.func63, Tryz.ntmps63
  go_wp2
  go_region_held3 (fun w' => w'.cell? ⟨w.heap.size, 0, none⟩ = some (.slice (some ⟨g, 0, none⟩) nt xc) ∧ w'.cell? ⟨w.heap.size, 1, none⟩ = some (.int .i64 kq) ∧ w'.cell? ⟨w.heap.size, 2, none⟩ = some (.slice yo yn yc) ∧ w'.cell? ⟨w.heap.size, 3, none⟩ = some (.int .i64 sq) ∧ w'.cell? ⟨w.heap.size, 4, none⟩ = some (.int .i64 kr) ∧ w'.cell? ⟨w.heap.size, 5, none⟩ = some (.slice uo un uc) ∧ w'.cell? ⟨w.heap.size, 6, none⟩ = some (.slice vo vn vc)) (first | with_reducible exact ⟨x0, x1, x2, x3, x4, x5, x6⟩ | with_reducible exact ⟨kx0, kx1, kx2, kx3, kx4, kx5, kx6⟩ | with_reducible exact hks _ _ _ _ _ _ _ | go_keep) (first | (go_at_call 124; (with_reducible refine (HPT.out W0.drew (Below.drew HB.out)).mono ?_); rintro e v4 ⟨tg, rfl, ow2, hq0⟩; have hx : Below W0.heap.size W0 v4 := (Below.drew (Below.refl _ _)).trans hq0; have kx0 := bC hx x0 zx; have kx1 := bC hx x1 zx; have kx2 := bC hx x2 zx; have kx3 := bC hx x3 zx; have kx4 := bC hx x4 zx; have kx5 := bC hx x5 zx; have kx6 := bC hx x6 zx; have rr0 := bC hx r0 zr; have rf0 := bF hx fr0 zr; have rr1 := bC hx r1 zr; have rf1 := bF hx fr1 zr; have rr2 := bC hx r2 zr; have rf2 := bF hx fr2 zr; have rr3 := bC hx r3 zr; have rf3 := bF hx fr3 zr; have rr4 := bC hx r4 zr; have rf4 := bF hx fr4 zr; have rr5 := bC hx r5 zr; have rf5 := bF hx fr5 zr; have rr6 := bC hx r6 zr; have rf6 := bF hx fr6 zr; have hks := (fun x0 x1 x2 x3 x4 x5 x6 => (And.intro (setB_cell kx0 hne0 x0 x1 x2 x3 x4 x5 x6) (And.intro (setB_cell kx1 hne0 x0 x1 x2 x3 x4 x5 x6) (And.intro (setB_cell kx2 hne0 x0 x1 x2 x3 x4 x5 x6) (And.intro (setB_cell kx3 hne0 x0 x1 x2 x3 x4 x5 x6) (And.intro (setB_cell kx4 hne0 x0 x1 x2 x3 x4 x5 x6) (And.intro (setB_cell kx5 hne0 x0 x1 x2 x3 x4 x5 x6) (setB_cell kx6 hne0 x0 x1 x2 x3 x4 x5 x6)))))))); have HBc := HB.out.trans (hx.mono HB.out.size)))
  have hs6 : W0.heap.size ≤ v4.heap.size := hx.size
  have HO := hide ow2
  replace HB := hide HBc
  replace HX := hide (HX.out.kept HBc)
  have HFI : Hid (InBm lo (setB v4 (w.heap.size + 1) (.int .i64 kq) (.slice yo yn yc) (.int .i64 sq) (.int .i64 kr) (.slice uo un uc) (.slice vo vn vc) (.slice (some ⟨tg, 0, none⟩) nt nt)).heap.size (setB v4 (w.heap.size + 1) (.int .i64 kq) (.slice yo yn yc) (.int .i64 sq) (.int .i64 kr) (.slice uo un uc) (.slice vo vn vc) (.slice (some ⟨tg, 0, none⟩) nt nt)) (balv kq (.slice yo yn yc) sq kr (.slice uo un uc) (.slice vo vn vc) (.slice (some ⟨tg, 0, none⟩) nt nt)) m) := by
    have s9 := stp_setB v4 (w.heap.size + 1) (.int .i64 kq) (.slice yo yn yc) (.int .i64 sq) (.int .i64 kr) (.slice uo un uc) (.slice vo vn vc) (.slice (some ⟨tg, 0, none⟩) nt nt)
    obtain ⟨e1, e2, e3, _, _⟩ := HX.out
    obtain ⟨j0, j1, p0, p1, k1, k2, k3, k4, k5, k6, k7, i1, i2⟩ : ∃ j0 j1 p0 p1, lo ≤ j0 ∧ j1 ≤ w.heap.size ∧ lo ≤ p0 ∧ p1 ≤ w.heap.size ∧ (j1 ≤ p0 ∨ p1 ≤ j0) ∧ (g < j0 ∨ j1 ≤ g) ∧ (g < p0 ∨ p1 ≤ g) ∧ InJm j0 j1 v4 (jrn m.j.key (.slice yo yn yc) m.j.safe) m.j ∧ InPm p0 p1 v4 (plv m.p.key (.slice uo un uc) (.slice vo vn vc)) m.p := HMM.out v4 HB.out
    refine ⟨_, _, _, _, j0, j1, p0, p1, W0.heap.size, v4.heap.size, by rw [e1, e2, e3], by rw [setB_size]; omega, i1.step s9 (by omega), i2.step s9 (by omega), ⟨_, rfl, ?_⟩⟩
    have t9 := InRow.step (InRow.of HO.out) s9 (.inl (show w.heap.size + 1 + 1 ≤ W0.heap.size by omega))
    rw [HNT.out] at t9 ⊢
    exact t9
  clear hks hx hq0 HBc ow2 x0 kx0 x1 kx1 x2 kx2 x3 kx3 x4 kx4 x5 kx5 x6 kx6 r0 fr0 r1 fr1 r2 fr2 r3 fr3 r4 fr4 r5 fr5 r6 fr6
  go_wp2
  refine bodyPost_ret (v := balv kq (.slice yo yn yc) sq kr (.slice uo un uc) (.slice vo vn vc) (.slice (some ⟨tg, 0, none⟩) nt nt)) (by simp [results, Tryz.results63, go_sem, rr0, rr1, rr2, rr3, rr4, rr5, rr6]) rfl ⟨_, _, _, rfl, HFI.out, setB_below HB.out (Nat.le_succ _) _ _ _ _ _ _ _⟩

end Go.Proofs.YtajfkcpifnpkeaaGreat

/- Pools whose slices of nothing have no room: how they read. -/
namespace Go.Proofs.YtajfkcpifnpkeaaGreat
open Go.ChangeShapes Go.WideShapes Go.ChangeAt Go.RowKit Go.Joins
set_option linter.unusedVariables false
set_option linter.unusedSimpArgs false

/-- As RdPm; a slice of nothing has no room. -/
def RcPm (lo hi : Nat) (w : World) (v : Value) (m : Pm) : Prop := ∃ vb vr, v = plv m.key vb vr ∧ RiV layK lo hi w vb m.l ∧ capV vb ∧ RcR lo hi w vr m.ring ∧ capV vr
theorem InT.rc {lo hi : Nat} {w : World} {v : Value} {ll : List (List Int)} (h : InT lo hi w v ll) : RcT lo hi w v ll := InRows.ri RcI.mon (fun q => ⟨InRow.ri q, InRow.cap q⟩) h
theorem InR.rc {lo hi : Nat} {w : World} {v : Value} {ll : List (List (List Int))} (h : InR lo hi w v ll) : RcR lo hi w v ll := InRows.ri RcT.mon (fun q => InT.rc q) h
theorem InPm.rc {lo hi : Nat} {w : World} {v : Value} {m : Pm} (h : InPm lo hi w v m) : RcPm 0 hi w v m := by
  obtain ⟨vb, vr, mid, e, k1, k2, h1, h2⟩ := h
  obtain ⟨hs, L, H, h3, _⟩ := id h2
  exact ⟨vb, vr, e, (InRow.ri h1).mono (Nat.zero_le _) k2, InRow.cap h1, RcR.mon.go (InR.rc h2) (Nat.zero_le _) (Nat.le_refl _), InRow.cap h3⟩
theorem RcPm.le {lo C D : Nat} {w : World} {v : Value} {m : Pm} (h : RcPm lo C w v m) (hc : C ≤ D) : RcPm lo D w v m := by
  obtain ⟨vb, vr, e, h1, h2, h3, h4⟩ := h
  exact ⟨vb, vr, e, h1.mono (Nat.le_refl _) hc, h2, RcR.mon.go h3 (Nat.le_refl _) hc, h4⟩
theorem RcPm.kept {lo C D : Nat} {w w' : World} {v : Value} {m : Pm} (h : RcPm lo C w v m) (hb : Below D w w') (hc : C ≤ D) : RcPm lo C w' v m := by
  obtain ⟨vb, vr, e, h1, h2, h3, h4⟩ := h
  have s : Stp C (w.heap.size + C) w w' := ⟨hb.os, hb.tape, hb.output, hb.size, fun k hk hn => hb.block k (by omega)⟩
  exact ⟨vb, vr, e, h1.step s (.inr (Nat.le_refl _)), h2, RcR.stp.go h3 s (.inr (Nat.le_refl _)), h4⟩
theorem RcPm.mono {a b a' b' : Nat} {w : World} {v : Value} {m : Pm} (h : RcPm a b w v m) (k1 : a' ≤ a) (k2 : b ≤ b') : RcPm a' b' w v m := by
  obtain ⟨vb, vr, e, h1, h2, h3, h4⟩ := h
  exact ⟨vb, vr, e, h1.mono k1 k2, h2, RcR.mon.go h3 k1 k2, h4⟩
theorem RcPm.step {a b lo hi : Nat} {w w' : World} {v : Value} {m : Pm} (h : RcPm a b w v m) (s : Stp lo hi w w') (hd : hi ≤ a ∨ b ≤ lo) : RcPm a b w' v m := by
  obtain ⟨vb, vr, e, h1, h2, h3, h4⟩ := h
  exact ⟨vb, vr, e, h1.step s hd, h2, RcR.stp.go h3 s hd, h4⟩
theorem own_pool {w : World} {base : Nat} {key : Int} {l : List Bk} {hs : List Hd} {lll : List (List (List Int))} {o2 oQ : Option Addr} {nb c2 n cQ : Nat} (hn : nb = l.length) (h1 : ownK w base (.slice o2 nb c2) l) (h2 : ownL layH 152 w base (.slice oQ n cQ) hs) (h3 : GTabs w base hs lll) : RcPm base w.heap.size w (plv key (.slice o2 nb c2) (.slice oQ n cQ)) ⟨key, l, lll⟩ := by
  subst hn
  exact ⟨_, _, rfl, InRow.ri (InRow.of h1), InRow.cap (InRow.of h1), GTabs.rc h3 h2, InRow.cap (InRow.of h2)⟩
theorem RcPm.opn {lo hi : Nat} {w : World} {v : Value} {m : Pm} (h : RcPm lo hi w v m) : ∃ (o : Option Addr) (c : Nat) (oR : Option Addr) (cR : Nat), v = plv m.key (.slice o m.l.length c) (.slice oR m.ring.length cR) := by
  obtain ⟨vb, vr, e, ⟨o, c, e1, _⟩, _, h2, _⟩ := h
  obtain ⟨oR, cR, e2⟩ := RiR.len (RcR.ri h2)
  exact ⟨o, c, oR, cR, by rw [e, e1, e2]⟩
theorem RcPm.rd {lo hi : Nat} {w : World} {v : Value} {m : Pm} (h : RcPm lo hi w v m) : RdPm hi w v m := by
  obtain ⟨vb, vr, e, h1, _, h2, _⟩ := h
  exact ⟨vb, vr, e, h1.mono (Nat.zero_le _) (Nat.le_refl _), RiR.mon.go (RcR.ri h2) (Nat.zero_le _) (Nat.le_refl _)⟩
theorem l4own_rc (key : Int) (o : Option Addr) (cap : Nat) (l : List Bk) (oR : Option Addr) (cR : Nat) (lll : List (List (List Int))) (n : Nat) (hnn : n = lll.length) (w : World) (hR : RdK w.heap.size w o l) (hn : o = none → cap = 0) (hlen : l.length ≤ 1048576) (hG : RcR 0 w.heap.size w (.slice oR n cR) lll) (hf : n ≤ 1048576) (hx : ∀ i, i < lll.length → (lll.getD i []).length ≤ 1048576) (hy : ∀ i, i < lll.length → ∀ j, j < (lll.getD i []).length → ((lll.getD i []).getD j []).length ≤ 1048576) :
    Calls Tryz.prog 118 #[plv key (.slice o l.length cap) (.slice oR n cR)] w fun e w' => ∃ v, e = .returned v ∧ RcPm w.heap.size w'.heap.size w' v ⟨key, l, lll⟩ ∧ Below w.heap.size w w' := by
  refine (l4own_gt key o cap l oR cR lll n hnn w hR hn hlen hG hf hx hy).mono ?_
  rintro e w' ⟨o2, c2, oQ, cQ, hs, rfl, h1, h2, h3, hb⟩
  exact ⟨_, rfl, own_pool rfl h1 h2 h3, hb⟩

end Go.Proofs.YtajfkcpifnpkeaaGreat

/- The model's copy of a balancer, and its new one. -/
namespace Go.Proofs.YtajfkcpifnpkeaaGreat
open Go.ChangeShapes Go.WideShapes Go.ChangeAt Go.RowKit Go.Joins
set_option linter.unusedVariables false
set_option linter.unusedSimpArgs false


/-- A balancer whose memory lies from lo on, below hi: how it reads. -/
def OwBm (lo hi : Nat) (w : World) (v : Value) (m : Bm) : Prop := ∃ vl vb vr vt, v = balv m.j.key vl m.j.safe m.p.key vb vr vt ∧ InJm lo hi w (jrn m.j.key vl m.j.safe) m.j ∧ RcPm lo hi w (plv m.p.key vb vr) m.p ∧ InTb lo hi w (tab vt) m.t
theorem OwBm.step {x y lo hi : Nat} {w w' : World} {v : Value} {m : Bm} (h : OwBm x y w v m) (s : Stp lo hi w w') (hd : hi ≤ x ∨ y ≤ lo) : OwBm x y w' v m := by
  obtain ⟨vl, vb, vr, vt, e, h1, h2, h3⟩ := h
  exact ⟨vl, vb, vr, vt, e, h1.step s hd, h2.step s hd, h3.step s hd⟩
theorem OwBm.rd {x y : Nat} {w : World} {v : Value} {m : Bm} (h : OwBm x y w v m) : RdBm y w v m := by
  obtain ⟨vl, vb, vr, vt, e, h1, h2, h3⟩ := h
  exact ⟨vl, vb, vr, vt, e, h1.rd, h2.rd, h3.rd⟩
theorem OwBm.mono {x y x' y' : Nat} {w : World} {v : Value} {m : Bm} (h : OwBm x y w v m) (h1 : x' ≤ x) (h2 : y ≤ y') : OwBm x' y' w v m := by
  obtain ⟨vl, vb, vr, vt, e, ⟨vl', e1, i1⟩, i2, ⟨vt', e3, i3⟩⟩ := h
  exact ⟨vl, vb, vr, vt, e, ⟨vl', e1, InRow.mono i1 h1 h2⟩, i2.mono h1 h2, ⟨vt', e3, InRow.mono i3 h1 h2⟩⟩
theorem pm0_rc (lo hi : Nat) (w : World) : RcPm lo hi w (plv 0 (.slice none 0 0) (.slice none 0 0)) pm0 := ⟨_, _, rfl, ⟨none, 0, rfl, .inl rfl⟩, fun n c e => by injection e with _ _ e3; exact e3.symm, ⟨[], rfl, ⟨none, 0, rfl, .inl rfl⟩, fun i h => absurd h (Nat.not_lt_zero _)⟩, fun n c e => by injection e with _ _ e3; exact e3.symm⟩
theorem InBm.ow {lo hi : Nat} {w : World} {v : Value} {m : Bm} (h : InBm lo hi w v m) : OwBm 0 hi w v m := by
  obtain ⟨vl, vb, vr, vt, j0, j1, p0, p1, t0, t1, e, k, ⟨vl', e1, i1⟩, i2, ⟨vt', e3, i3⟩⟩ := h
  exact ⟨vl, vb, vr, vt, e, ⟨vl', e1, InRow.mono i1 (Nat.zero_le _) (by omega)⟩, i2.rc.mono (Nat.le_refl _) (by omega), ⟨vt', e3, InRow.mono i3 (Nat.zero_le _) (by omega)⟩⟩
theorem bm0_ow (lo hi : Nat) (w : World) : OwBm lo hi w (balv 0 (.slice none 0 0) 0 0 (.slice none 0 0) (.slice none 0 0) (.slice none 0 0)) bm0 := ⟨_, _, _, _, rfl, ⟨_, rfl, World.ownsRow_nil _ _ _ _, fun b e => by cases e⟩, pm0_rc lo hi w, ⟨_, rfl, World.ownsRow_nil _ _ _ _, fun b e => by cases e⟩⟩
theorem inJm_wide {a b a' b' : Nat} {w : World} {v : Value} {m : Jm} (h : InJm a b w v m) (h1 : a' ≤ a) (h2 : b ≤ b') : InJm a' b' w v m := by
  obtain ⟨vl, e, i1⟩ := h
  exact ⟨vl, e, InRow.mono i1 h1 h2⟩
theorem own7_opn {kp : Int} {lb : List Bk} {lr : List (List (List Int))} {np nr a b : Nat} {w : World} {v : Value} (h1 : np = lb.length) (h2 : nr = lr.length) (h : RcPm a b w v ⟨kp, lb, lr⟩) : ∃ (o : Option Addr) (c : Nat) (oR : Option Addr) (cR : Nat), v = plv kp (.slice o np c) (.slice oR nr cR) := by
  obtain ⟨o, c, oR, cR, e⟩ := h.opn
  exact ⟨o, c, oR, cR, by rw [e, h1, h2]⟩
theorem own7_keep {x : World} {B : Nat} {u0 u1 u2 u3 u4 u5 u6 : Value} (h0 : x.cell? ⟨B, 0, none⟩ = some u0) (h1 : x.cell? ⟨B, 1, none⟩ = some u1) (h2 : x.cell? ⟨B, 2, none⟩ = some u2) (h3 : x.cell? ⟨B, 3, none⟩ = some u3) (h4 : x.cell? ⟨B, 4, none⟩ = some u4) (h5 : x.cell? ⟨B, 5, none⟩ = some u5) (h6 : x.cell? ⟨B, 6, none⟩ = some u6) (x0 x1 x2 x3 x4 x5 x6 : Value) : (setB x (B + 1) x0 x1 x2 x3 x4 x5 x6).cell? ⟨B, 0, none⟩ = some u0 ∧ (setB x (B + 1) x0 x1 x2 x3 x4 x5 x6).cell? ⟨B, 1, none⟩ = some u1 ∧ (setB x (B + 1) x0 x1 x2 x3 x4 x5 x6).cell? ⟨B, 2, none⟩ = some u2 ∧ (setB x (B + 1) x0 x1 x2 x3 x4 x5 x6).cell? ⟨B, 3, none⟩ = some u3 ∧ (setB x (B + 1) x0 x1 x2 x3 x4 x5 x6).cell? ⟨B, 4, none⟩ = some u4 ∧ (setB x (B + 1) x0 x1 x2 x3 x4 x5 x6).cell? ⟨B, 5, none⟩ = some u5 ∧ (setB x (B + 1) x0 x1 x2 x3 x4 x5 x6).cell? ⟨B, 6, none⟩ = some u6 :=
  have s := stp_setB x (B + 1) x0 x1 x2 x3 x4 x5 x6
  ⟨s.cellP h0 (.inl (Nat.lt_succ_self _)), s.cellP h1 (.inl (Nat.lt_succ_self _)), s.cellP h2 (.inl (Nat.lt_succ_self _)), s.cellP h3 (.inl (Nat.lt_succ_self _)), s.cellP h4 (.inl (Nat.lt_succ_self _)), s.cellP h5 (.inl (Nat.lt_succ_self _)), s.cellP h6 (.inl (Nat.lt_succ_self _))⟩

set_option maxRecDepth 100000 in
set_option maxHeartbeats 8000000 in
theorem l7own_go (kj : Int) (o : Option Addr) (nj c : Nat) (sj kp : Int) (ob : Option Addr) (np cb : Nat) (oR : Option Addr) (nr cR : Nat) (bt ft nt ct : Nat) (lj : List Cd) (lb : List Bk) (lr : List (List (List Int))) (lt : List Sl) (w : World)
    (hnj : nj = lj.length) (hnp : np = lb.length) (hnr : nr = lr.length) (hnt : nt = lt.length) (h1 : RdC w.heap.size w o lj) (h1c : o = none → c = 0) (h2 : RdK w.heap.size w ob lb) (h2c : ob = none → cb = 0) (h3 : RcR 0 w.heap.size w (.slice oR nr cR) lr) (h4 : bt < w.heap.size) (h5 : ∀ i, i < lt.length → ∀ j, j < layS.k → w.cell? ⟨bt, ft + i * layS.k + j, none⟩ = (layS.cs (lt.getD i layS.d))[j]?) (hf : fitBm ⟨⟨kj, lj, sj⟩, ⟨kp, lb, lr⟩, lt⟩) :
    Calls Tryz.prog 60 #[balv kj (.slice o nj c) sj kp (.slice ob np cb) (.slice oR nr cR) (.slice (some ⟨bt, ft, none⟩) nt ct)] w fun e w' => ∃ v, e = .returned v ∧ OwBm w.heap.size w'.heap.size w' v ⟨⟨kj, lj, sj⟩, ⟨kp, lb, lr⟩, lt⟩ ∧ Below w.heap.size w w' := by
  obtain ⟨f1, ⟨f2, f3, f4, f5, f6⟩, f7⟩ := hf
  dsimp only at f1 f2 f3 f4 f5 f6 f7
  have HJ := hide (fun W (hb : Below w.heap.size w W) => l4ownJ_any kj sj o c lj nj hnj W ((h1.kept hb (Nat.le_refl _)).le hb.size) h1c (by omega))
  have HP := hide (fun W (hb : Below w.heap.size w W) => l4own_rc kp ob cb lb oR cR lr nr hnr W ((h2.kept hb (Nat.le_refl _)).le hb.size) h2c f2 (RcR.mon.go (RcR.stp.go h3 (Stp.of (lo := 0) (hi := 0) hb) (.inl (Nat.zero_le _))) (Nat.le_refl _) hb.size) (by omega) f5 f6)
  have HT := hide (fun W (hb : Below w.heap.size w W) => l5own_any bt ft ct lt W (Nat.lt_of_lt_of_le h4 hb.size) (fun i hi j hj => (hb.cell (p := ⟨bt, ft + i * layS.k + j, none⟩) h4).trans (h5 i hi j hj)) f7)
  rw [← hnp] at HP
  rw [← hnt] at HT
  have HNJ := hide hnj
  have HNP := hide hnp
  have HNR := hide hnr
  have HNT := hide hnt
  clear h1 h2 h3 h5 f5 f6 f4 f2 f3 f7 f1 hnj hnp hnr hnt
  obtain ⟨W0, hW0⟩ : ∃ W, ((w.alloc (.cells #[.int .i64 kj, .slice o nj c, .int .i64 sj, .int .i64 kp, .slice ob np cb, .slice oR nr cR, .slice (some ⟨bt, ft, none⟩) nt ct] 46)).alloc (.cells #[.int .i64 0, .slice none 0 0, .int .i64 0, .int .i64 0, .slice none 0 0, .slice none 0 0, .slice none 0 0] 46)) = W := ⟨_, rfl⟩
  have hb_W0 : Below w.heap.size w W0 := by rw [← hW0]; exact (((Below.refl _ _).alloc (Nat.le_refl _) _).alloc (by simp <;> omega) _)
  have HB := hide hb_W0
  clear hb_W0
  have zz : w.heap.size < W0.heap.size := by rw [← hW0]; simp <;> omega
  have z0 : W0.cell? ⟨w.heap.size, 0, none⟩ = some (.int .i64 kj) := by rw [← hW0]; simp [go_sem]
  have z1 : W0.cell? ⟨w.heap.size, 1, none⟩ = some (.slice o nj c) := by rw [← hW0]; simp [go_sem]
  have z2 : W0.cell? ⟨w.heap.size, 2, none⟩ = some (.int .i64 sj) := by rw [← hW0]; simp [go_sem]
  have z3 : W0.cell? ⟨w.heap.size, 3, none⟩ = some (.int .i64 kp) := by rw [← hW0]; simp [go_sem]
  have z4 : W0.cell? ⟨w.heap.size, 4, none⟩ = some (.slice ob np cb) := by rw [← hW0]; simp [go_sem]
  have z5 : W0.cell? ⟨w.heap.size, 5, none⟩ = some (.slice oR nr cR) := by rw [← hW0]; simp [go_sem]
  have z6 : W0.cell? ⟨w.heap.size, 6, none⟩ = some (.slice (some ⟨bt, ft, none⟩) nt ct) := by rw [← hW0]; simp [go_sem]
  have zr : w.heap.size + 1 < W0.heap.size := by rw [← hW0]; simp
  have r0 : W0.cell? ⟨w.heap.size + 1, 0, none⟩ = some (.int .i64 0) := by rw [← hW0]; simp [go_sem]
  have r1 : W0.cell? ⟨w.heap.size + 1, 1, none⟩ = some (.slice none 0 0) := by rw [← hW0]; simp [go_sem]
  have r2 : W0.cell? ⟨w.heap.size + 1, 2, none⟩ = some (.int .i64 0) := by rw [← hW0]; simp [go_sem]
  have r3 : W0.cell? ⟨w.heap.size + 1, 3, none⟩ = some (.int .i64 0) := by rw [← hW0]; simp [go_sem]
  have r4 : W0.cell? ⟨w.heap.size + 1, 4, none⟩ = some (.slice none 0 0) := by rw [← hW0]; simp [go_sem]
  have r5 : W0.cell? ⟨w.heap.size + 1, 5, none⟩ = some (.slice none 0 0) := by rw [← hW0]; simp [go_sem]
  have r6 : W0.cell? ⟨w.heap.size + 1, 6, none⟩ = some (.slice none 0 0) := by rw [← hW0]; simp [go_sem]
  have fr0 : W0.frozen? ⟨w.heap.size + 1, 0, none⟩ = false := by rw [← hW0]; simp [go_sem]
  have fr1 : W0.frozen? ⟨w.heap.size + 1, 1, none⟩ = false := by rw [← hW0]; simp [go_sem]
  have fr2 : W0.frozen? ⟨w.heap.size + 1, 2, none⟩ = false := by rw [← hW0]; simp [go_sem]
  have fr3 : W0.frozen? ⟨w.heap.size + 1, 3, none⟩ = false := by rw [← hW0]; simp [go_sem]
  have fr4 : W0.frozen? ⟨w.heap.size + 1, 4, none⟩ = false := by rw [← hW0]; simp [go_sem]
  have fr5 : W0.frozen? ⟨w.heap.size + 1, 5, none⟩ = false := by rw [← hW0]; simp [go_sem]
  have fr6 : W0.frozen? ⟨w.heap.size + 1, 6, none⟩ = false := by rw [← hW0]; simp [go_sem]
  have HR0 := hide (show W0.heap[w.heap.size + 1]? = some (.cells #[.int .i64 0, .slice none 0 0, .int .i64 0, .int .i64 0, .slice none 0 0, .slice none 0 0, .slice none 0 0] 46 (0, 0)) by rw [← hW0]; exact box_new2 w _ _ _)
  have hbw := HB.out.size
  go_enter Tryz.func60, Tryz.ntmps60
  go_wp2
  go_region_held3 (fun w' => w'.cell? ⟨w.heap.size, 0, none⟩ = some (.int .i64 kj) ∧ w'.cell? ⟨w.heap.size, 1, none⟩ = some (.slice o nj c) ∧ w'.cell? ⟨w.heap.size, 2, none⟩ = some (.int .i64 sj) ∧ w'.cell? ⟨w.heap.size, 3, none⟩ = some (.int .i64 kp) ∧ w'.cell? ⟨w.heap.size, 4, none⟩ = some (.slice ob np cb) ∧ w'.cell? ⟨w.heap.size, 5, none⟩ = some (.slice oR nr cR) ∧ w'.cell? ⟨w.heap.size, 6, none⟩ = some (.slice (some ⟨bt, ft, none⟩) nt ct)) (first | with_reducible exact ⟨z0, z1, z2, z3, z4, z5, z6⟩ | with_reducible exact ⟨ka0, ka1, ka2, ka3, ka4, ka5, ka6⟩ | with_reducible exact ⟨kb0, kb1, kb2, kb3, kb4, kb5, kb6⟩ | with_reducible exact ⟨kc0, kc1, kc2, kc3, kc4, kc5, kc6⟩ | with_reducible exact hks _ _ _ _ _ _ _ | go_keep) (first | (go_at_call 119; (with_reducible refine (HJ.out W0.drew (Below.drew HB.out)).mono ?_); rintro e x0 ⟨o7, c7, rfl, ow7, hq0⟩; have hx0 : Below W0.heap.size W0 x0 := (Below.drew (Below.refl _ _)).trans hq0; have ka0 := bC hx0 z0 zz; have ka1 := bC hx0 z1 zz; have ka2 := bC hx0 z2 zz; have ka3 := bC hx0 z3 zz; have ka4 := bC hx0 z4 zz; have ka5 := bC hx0 z5 zz; have ka6 := bC hx0 z6 zz; have HBa := HB.out.trans (hx0.mono hbw); clear hq0) | (go_at_call 118; (with_reducible refine (HP.out x0 HBa).mono ?_); rintro e x1 ⟨v8, rfl, in8, hq1⟩; have hx1 : Below W0.heap.size W0 x1 := hx0.trans (hq1.mono hx0.size); have ow7' := own_kept ow7 hq1; obtain ⟨o8, c8, oR8, cR8, e8⟩ := own7_opn HNP.out HNR.out in8; subst e8; have kb0 := bC hx1 z0 zz; have kb1 := bC hx1 z1 zz; have kb2 := bC hx1 z2 zz; have kb3 := bC hx1 z3 zz; have kb4 := bC hx1 z4 zz; have kb5 := bC hx1 z5 zz; have kb6 := bC hx1 z6 zz; have HBb := HB.out.trans (hx1.mono hbw)) | (go_at_call 120; (with_reducible refine (HT.out x1 HBb).mono ?_); rintro e x2 ⟨o9, c9, rfl, ow9, hq2⟩; have hx2 : Below W0.heap.size W0 x2 := hx1.trans (hq2.mono hx1.size); have ow7'' := own_kept ow7' hq2; have in8' := in8.kept hq2 (Nat.le_refl _); have kc0 := bC hx2 z0 zz; have kc1 := bC hx2 z1 zz; have kc2 := bC hx2 z2 zz; have kc3 := bC hx2 z3 zz; have kc4 := bC hx2 z4 zz; have kc5 := bC hx2 z5 zz; have kc6 := bC hx2 z6 zz; have rr0 := bC hx2 r0 zr; have rf0 := bF hx2 fr0 zr; have rr1 := bC hx2 r1 zr; have rf1 := bF hx2 fr1 zr; have rr2 := bC hx2 r2 zr; have rf2 := bF hx2 fr2 zr; have rr3 := bC hx2 r3 zr; have rf3 := bF hx2 fr3 zr; have rr4 := bC hx2 r4 zr; have rf4 := bF hx2 fr4 zr; have rr5 := bC hx2 r5 zr; have rf5 := bF hx2 fr5 zr; have rr6 := bC hx2 r6 zr; have rf6 := bF hx2 fr6 zr; have hks := own7_keep (x := x2) kc0 kc1 kc2 kc3 kc4 kc5 kc6; have HBc := HB.out.trans (hx2.mono hbw)))
  have hq0 := hx0.size
  have hq1' := hq1.size
  have hq2' := hq2.size
  have HFI : Hid (OwBm w.heap.size (setB x2 (w.heap.size + 1) (.int .i64 kj) (.slice o7 nj c7) (.int .i64 sj) (.int .i64 kp) (.slice o8 np c8) (.slice oR8 nr cR8) (.slice o9 nt c9)).heap.size (setB x2 (w.heap.size + 1) (.int .i64 kj) (.slice o7 nj c7) (.int .i64 sj) (.int .i64 kp) (.slice o8 np c8) (.slice oR8 nr cR8) (.slice o9 nt c9)) (balv kj (.slice o7 nj c7) sj kp (.slice o8 np c8) (.slice oR8 nr cR8) (.slice o9 nt c9)) ⟨⟨kj, lj, sj⟩, ⟨kp, lb, lr⟩, lt⟩ ∧ Below w.heap.size w (setB x2 (w.heap.size + 1) (.int .i64 kj) (.slice o7 nj c7) (.int .i64 sj) (.int .i64 kp) (.slice o8 np c8) (.slice oR8 nr cR8) (.slice o9 nt c9))) := by
    have s9 := stp_setB x2 (w.heap.size + 1) (.int .i64 kj) (.slice o7 nj c7) (.int .i64 sj) (.int .i64 kp) (.slice o8 np c8) (.slice oR8 nr cR8) (.slice o9 nt c9)
    have j9 := InRow.step (InRow.of ow7'') s9 (.inl (show w.heap.size + 1 + 1 ≤ W0.heap.size by omega))
    have p9 := (in8'.step s9 (.inl (show w.heap.size + 1 + 1 ≤ x0.heap.size by omega)))
    have t9 := InRow.step (InRow.of ow9) s9 (.inl (show w.heap.size + 1 + 1 ≤ x1.heap.size by omega))
    refine ⟨⟨_, _, _, _, rfl, ⟨_, rfl, InRow.mono j9 (show w.heap.size ≤ W0.heap.size by omega) (by rw [setB_size]; exact Nat.le_refl _)⟩, p9.mono (by omega) (by rw [setB_size]; exact hq2'), ⟨_, rfl, InRow.mono t9 (by omega) (by rw [setB_size]; exact Nat.le_refl _)⟩⟩, setB_below HBc (Nat.le_succ _) _ _ _ _ _ _ _⟩
  clear ow7 ow7' ow7'' in8 in8' ow9 hks hx0 hx1 hx2 hq1 hq2 HBa HBb HBc ka0 kb0 ka1 kb1 ka2 kb2 ka3 kb3 ka4 kb4 ka5 kb5 ka6 kb6
  go_wp2
  refine bodyPost_ret (v := balv kj (.slice o7 nj c7) sj kp (.slice o8 np c8) (.slice oR8 nr cR8) (.slice o9 nt c9)) (by simp [results, Tryz.results60, go_sem, rr0, rr1, rr2, rr3, rr4, rr5, rr6]) rfl ⟨_, rfl, HFI.out.1, HFI.out.2⟩

end Go.Proofs.YtajfkcpifnpkeaaGreat

/- A balancer crashes: the program's side. -/
namespace Go.Proofs.YtajfkcpifnpkeaaGreat
open Go.ChangeShapes Go.WideShapes Go.ChangeAt Go.RowKit Go.Joins
set_option linter.unusedVariables false
set_option linter.unusedSimpArgs false


theorem InBm.mono {lo hi lo' hi' : Nat} {w : World} {v : Value} {m : Bm} (h : InBm lo hi w v m) (h1 : lo' ≤ lo) (h2 : hi ≤ hi') : InBm lo' hi' w v m := by
  obtain ⟨vl, vb, vr, vt, j0, j1, p0, p1, t0, t1, e, k, i1, i2, i3⟩ := h
  exact ⟨vl, vb, vr, vt, j0, j1, p0, p1, t0, t1, e, by omega, i1, i2, i3⟩
theorem Bx.jr {lo : Nat} {w : World} {g xc : Nat} {kj : Int} {yo : Option Addr} {yn yc : Nat} {sj kp : Int} {vb vr : Value} {m : Bm} (h : Bx lo w g xc kj (.slice yo yn yc) sj kp vb vr m) : yn = m.j.l.length ∧ RdC w.heap.size w yo m.j.l ∧ yn ≤ yc ∧ (yo = none → yc = 0) := by
  obtain ⟨j0, j1, p0, p1, k1, k2, k3, k4, k5, k6, k7, i1, i2⟩ := h.mem
  obtain ⟨k, o, n, c, s, e, r1, r2⟩ := i1.room
  obtain ⟨vl, e1, o', c', e2, r⟩ := i1.rd
  simp only [Value.agg.injEq, Array.mk.injEq, List.cons.injEq, and_true, true_and] at e e1
  obtain ⟨_, e5, _⟩ := e
  subst e1
  injection e2 with a1 a2 a3
  injection e5 with b1 b2 b3
  subst a1 a2 a3 b1 b2 b3
  exact ⟨rfl, r.le k2, r1, r2⟩
/-- What a crash leaves. -/
def crashM (m : Bm) (keep : Int) : Bm := ⟨cutM m.j keep, replayM (cutM m.j keep), List.replicate m.t.length sl0⟩
def crash0B (m : Bm) (keep : Int) : Bool := balB m && decide (0 ≤ keep)
def crash0M (m : Bm) (keep : Int) : Bm := if crash0B m keep = true then crashM m keep else bm0
/-- Three cells of a box are set. -/
abbrev set3 (W : World) (P j : Nat) (a b c : Value) : World := ((W.setCell ⟨P, j, none⟩ a).setCell ⟨P, j + 1, none⟩ b).setCell ⟨P, j + 2, none⟩ c
theorem stp_set3 (W : World) (P j : Nat) (a b c : Value) : Stp P (P + 1) W (set3 W P j a b c) := ((stp_set W P j a).trans (stp_set _ P (j + 1) b)).trans (stp_set _ P (j + 2) c)

set_option maxRecDepth 100000 in
set_option maxHeartbeats 4000000 in
theorem crashB_any (P g nt xc : Nat) (kj : Int) (yo : Option Addr) (nj yc : Nat) (sj kr : Int) (uo : Option Addr) (un uc : Nat) (vo : Option Addr) (vn vc : Nat) (keep : Int) (lj : List Cd) (w : World) (hnj : nj = lj.length) (hnt : nt ≤ 1048576)
    (hX : w.heap[P]? = some (.cells #[.slice (some ⟨g, 0, none⟩) nt xc, .int .i64 kj, .slice yo nj yc, .int .i64 sj, .int .i64 kr, .slice uo un uc, .slice vo vn vc] 109 (0, 0))) (hj : RdC w.heap.size w yo lj) (hrm : nj ≤ yc) (hyc : yo = none → yc = 0) (hfit : lj.length ≤ 1048576) :
    Calls Tryz.prog 94 #[.pointer (some ⟨P, 0, none⟩), .int .i64 keep] w fun e w' => e = .returned (.tuple #[]) ∧ ∃ (g' : Nat) (k1 : Int) (o1 : Option Addr) (n1 c1 : Nat) (s1 k2 : Int) (o2 : Option Addr) (n2 c2 : Nat) (o3 : Option Addr) (n3 c3 : Nat), w'.heap[P]? = some (.cells #[(.slice (some ⟨g', 0, none⟩) nt nt), .int .i64 k1, .slice o1 n1 c1, .int .i64 s1, .int .i64 k2, .slice o2 n2 c2, .slice o3 n3 c3] 109 (0, 0)) ∧ Bx w.heap.size w' g' nt k1 (.slice o1 n1 c1) s1 k2 (.slice o2 n2 c2) (.slice o3 n3 c3) ⟨cutM ⟨kj, lj, sj⟩ keep, replayM (cutM ⟨kj, lj, sj⟩ keep), List.replicate nt sl0⟩ ∧ Stp P (P + 1) w w' := by
  have HCU := hide (implCut_sh (jrn kj (.slice yo nj yc) sj) ⟨kj, lj, sj⟩ keep w ⟨_, rfl, yo, yc, by rw [hnj], hj⟩ ⟨kj, yo, nj, yc, sj, rfl, hrm, hyc⟩ hfit)
  have hcf : fitJm (cutM ⟨kj, lj, sj⟩ keep) := cutM_fit keep hfit
  have hPw : P < w.heap.size := (Array.getElem?_eq_some_iff.1 hX).1
  clear hj hrm hyc hfit hnj
  obtain ⟨cm, hcm⟩ : ∃ x, cutM ⟨kj, lj, sj⟩ keep = x := ⟨_, rfl⟩
  rw [hcm] at HCU hcf ⊢
  clear hcm
  have u0 : w.cell? ⟨P, 0, none⟩ = some (.slice (some ⟨g, 0, none⟩) nt xc) := bx_cell hX 0 _ rfl
  have fu0 := bx_frozen hX 0
  have u1 : w.cell? ⟨P, 1, none⟩ = some (.int .i64 kj) := bx_cell hX 1 _ rfl
  have fu1 := bx_frozen hX 1
  have u2 : w.cell? ⟨P, 2, none⟩ = some (.slice yo nj yc) := bx_cell hX 2 _ rfl
  have fu2 := bx_frozen hX 2
  have u3 : w.cell? ⟨P, 3, none⟩ = some (.int .i64 sj) := bx_cell hX 3 _ rfl
  have fu3 := bx_frozen hX 3
  have u4 : w.cell? ⟨P, 4, none⟩ = some (.int .i64 kr) := bx_cell hX 4 _ rfl
  have fu4 := bx_frozen hX 4
  have u5 : w.cell? ⟨P, 5, none⟩ = some (.slice uo un uc) := bx_cell hX 5 _ rfl
  have fu5 := bx_frozen hX 5
  have u6 : w.cell? ⟨P, 6, none⟩ = some (.slice vo vn vc) := bx_cell hX 6 _ rfl
  have fu6 := bx_frozen hX 6
  have HX := hide hX
  clear hX
  go_enter Tryz.func94, Tryz.ntmps94
  go_wp2_with fail
  refine (HCU.out).mono ?_
  rintro e w1 ⟨vj, rfl, inj, hb1⟩
  clear u0 fu0 u1 fu1 u2 fu2 u3 fu3 u4 fu4 u5 fu5 u6 fu6
  obtain ⟨vl, e1, o1, c1, e2, _⟩ := inj.rd
  subst e1 e2
  have HIJ := hide inj
  have HB1 := hide hb1
  have hs1 := hb1.size
  have HX1 : Hid (w1.heap[P]? = some (.cells #[.slice (some ⟨g, 0, none⟩) nt xc, .int .i64 kj, .slice yo nj yc, .int .i64 sj, .int .i64 kr, .slice uo un uc, .slice vo vn vc] 109 (0, 0))) := (hb1.block P hPw).trans HX.out
  clear inj hb1 HX HCU
  have HKC := hide (rfl : cm.key = cm.key)
  obtain ⟨kc, hkc⟩ : ∃ x, cm.key = x := ⟨_, rfl⟩
  obtain ⟨nc, hnc⟩ : ∃ x, cm.l.length = x := ⟨_, rfl⟩
  obtain ⟨sc, hsc⟩ : ∃ x, cm.safe = x := ⟨_, rfl⟩
  rw [hkc, hnc, hsc] at HIJ ⊢
  have HE := hide (And.intro hkc (And.intro hnc hsc))
  clear hkc hnc hsc HKC
  have u0 : w1.cell? ⟨P, 0, none⟩ = some (.slice (some ⟨g, 0, none⟩) nt xc) := bx_cell HX1.out 0 _ rfl
  have fu0 := bx_frozen HX1.out 0
  have u1 : w1.cell? ⟨P, 1, none⟩ = some (.int .i64 kj) := bx_cell HX1.out 1 _ rfl
  have fu1 := bx_frozen HX1.out 1
  have u2 : w1.cell? ⟨P, 2, none⟩ = some (.slice yo nj yc) := bx_cell HX1.out 2 _ rfl
  have fu2 := bx_frozen HX1.out 2
  have u3 : w1.cell? ⟨P, 3, none⟩ = some (.int .i64 sj) := bx_cell HX1.out 3 _ rfl
  have fu3 := bx_frozen HX1.out 3
  have u4 : w1.cell? ⟨P, 4, none⟩ = some (.int .i64 kr) := bx_cell HX1.out 4 _ rfl
  have fu4 := bx_frozen HX1.out 4
  have u5 : w1.cell? ⟨P, 5, none⟩ = some (.slice uo un uc) := bx_cell HX1.out 5 _ rfl
  have fu5 := bx_frozen HX1.out 5
  have u6 : w1.cell? ⟨P, 6, none⟩ = some (.slice vo vn vc) := bx_cell HX1.out 6 _ rfl
  have fu6 := bx_frozen HX1.out 6
  obtain ⟨W2, hW2⟩ : ∃ W, set3 w1 P 1 (.int .i64 kc) (.slice o1 nc c1) (.int .i64 sc) = W := ⟨_, rfl⟩
  have s2 : Stp P (P + 1) w1 W2 := by rw [← hW2]; exact stp_set3 _ _ _ _ _ _
  have X2 : W2.heap[P]? = some (.cells #[.slice (some ⟨g, 0, none⟩) nt xc, .int .i64 kc, .slice o1 nc c1, .int .i64 sc, .int .i64 kr, .slice uo un uc, .slice vo vn vc] 109 (0, 0)) := by rw [← hW2]; exact box_put (box_put (box_put HX1.out 1 _) 2 _) 3 _
  have HS2 := hide s2
  have HX2 := hide X2
  have hz2 := s2.size
  clear s2 X2
  replace HIJ := hide (HIJ.out.step HS2.out (.inl (by omega)))
  have HRP := hide (implReplay_sh (jrn kc (.slice o1 nc c1) sc) cm W2 (HIJ.out.rd.le (by omega)) HIJ.out.cap hcf)
  have d0 : W2.cell? ⟨P, 0, none⟩ = some (.slice (some ⟨g, 0, none⟩) nt xc) := bx_cell HX2.out 0 _ rfl
  have fd0 := bx_frozen HX2.out 0
  have d1 : W2.cell? ⟨P, 1, none⟩ = some (.int .i64 kc) := bx_cell HX2.out 1 _ rfl
  have fd1 := bx_frozen HX2.out 1
  have d2 : W2.cell? ⟨P, 2, none⟩ = some (.slice o1 nc c1) := bx_cell HX2.out 2 _ rfl
  have fd2 := bx_frozen HX2.out 2
  have d3 : W2.cell? ⟨P, 3, none⟩ = some (.int .i64 sc) := bx_cell HX2.out 3 _ rfl
  have fd3 := bx_frozen HX2.out 3
  have d4 : W2.cell? ⟨P, 4, none⟩ = some (.int .i64 kr) := bx_cell HX2.out 4 _ rfl
  have fd4 := bx_frozen HX2.out 4
  have d5 : W2.cell? ⟨P, 5, none⟩ = some (.slice uo un uc) := bx_cell HX2.out 5 _ rfl
  have fd5 := bx_frozen HX2.out 5
  have d6 : W2.cell? ⟨P, 6, none⟩ = some (.slice vo vn vc) := bx_cell HX2.out 6 _ rfl
  have fd6 := bx_frozen HX2.out 6
  dsimp only [set3] at hW2
  go_wp2_with fail
  refine (HRP.out).mono ?_
  rintro e w3 ⟨vp, rfl, inp, hb3⟩
  clear u0 fu0 u1 fu1 u2 fu2 u3 fu3 u4 fu4 u5 fu5 u6 fu6
  clear d0 fd0 d1 fd1 d2 fd2 d3 fd3 d4 fd4 d5 fd5 d6 fd6
  clear HRP
  obtain ⟨o2, c2, o3, c3, hve⟩ := inp.opn
  subst hve
  have HIP := hide inp
  have hs3 := hb3.size
  have HX3 : Hid (w3.heap[P]? = some (.cells #[.slice (some ⟨g, 0, none⟩) nt xc, .int .i64 kc, .slice o1 nc c1, .int .i64 sc, .int .i64 kr, .slice uo un uc, .slice vo vn vc] 109 (0, 0))) := (hb3.block P (by omega)).trans HX2.out
  replace HIJ := hide (HIJ.out.step (Stp.of (lo := 0) (hi := 0) hb3) (.inl (Nat.zero_le _)))
  have HS3 : Hid (Stp P (P + 1) w w3) := ((Stp.of HB1.out).trans HS2.out).trans (Stp.of hb3)
  clear inp hb3 HX2 HX1 HB1 HS2 hW2
  obtain ⟨pm, hpm⟩ : ∃ x, replayM cm = x := ⟨_, rfl⟩
  rw [hpm] at HIP ⊢
  have HPM := hide hpm
  clear hpm
  obtain ⟨kp, hkp⟩ : ∃ x, pm.key = x := ⟨_, rfl⟩
  obtain ⟨np, hnp⟩ : ∃ x, pm.l.length = x := ⟨_, rfl⟩
  obtain ⟨nr, hnr⟩ : ∃ x, pm.ring.length = x := ⟨_, rfl⟩
  rw [hkp, hnp, hnr] at HIP ⊢
  have HF := hide (And.intro hkp (And.intro hnp hnr))
  clear hkp hnp hnr
  have u0 : w3.cell? ⟨P, 0, none⟩ = some (.slice (some ⟨g, 0, none⟩) nt xc) := bx_cell HX3.out 0 _ rfl
  have fu0 := bx_frozen HX3.out 0
  have u1 : w3.cell? ⟨P, 1, none⟩ = some (.int .i64 kc) := bx_cell HX3.out 1 _ rfl
  have fu1 := bx_frozen HX3.out 1
  have u2 : w3.cell? ⟨P, 2, none⟩ = some (.slice o1 nc c1) := bx_cell HX3.out 2 _ rfl
  have fu2 := bx_frozen HX3.out 2
  have u3 : w3.cell? ⟨P, 3, none⟩ = some (.int .i64 sc) := bx_cell HX3.out 3 _ rfl
  have fu3 := bx_frozen HX3.out 3
  have u4 : w3.cell? ⟨P, 4, none⟩ = some (.int .i64 kr) := bx_cell HX3.out 4 _ rfl
  have fu4 := bx_frozen HX3.out 4
  have u5 : w3.cell? ⟨P, 5, none⟩ = some (.slice uo un uc) := bx_cell HX3.out 5 _ rfl
  have fu5 := bx_frozen HX3.out 5
  have u6 : w3.cell? ⟨P, 6, none⟩ = some (.slice vo vn vc) := bx_cell HX3.out 6 _ rfl
  have fu6 := bx_frozen HX3.out 6
  obtain ⟨W4, hW4⟩ : ∃ W, set3 w3 P 4 (.int .i64 kp) (.slice o2 np c2) (.slice o3 nr c3) = W := ⟨_, rfl⟩
  have s4 : Stp P (P + 1) w3 W4 := by rw [← hW4]; exact stp_set3 _ _ _ _ _ _
  have X4 : W4.heap[P]? = some (.cells #[.slice (some ⟨g, 0, none⟩) nt xc, .int .i64 kc, .slice o1 nc c1, .int .i64 sc, .int .i64 kp, .slice o2 np c2, .slice o3 nr c3] 109 (0, 0)) := by rw [← hW4]; exact box_put (box_put (box_put HX3.out 4 _) 5 _) 6 _
  have HS4 := hide s4
  have HX4 := hide X4
  have hz4 := s4.size
  clear s4 X4
  replace HIJ := hide (HIJ.out.step HS4.out (.inl (by omega)))
  replace HIP := hide (HIP.out.step HS4.out (.inl (by omega)))
  have d0 : W4.cell? ⟨P, 0, none⟩ = some (.slice (some ⟨g, 0, none⟩) nt xc) := bx_cell HX4.out 0 _ rfl
  have fd0 := bx_frozen HX4.out 0
  have d1 : W4.cell? ⟨P, 1, none⟩ = some (.int .i64 kc) := bx_cell HX4.out 1 _ rfl
  have fd1 := bx_frozen HX4.out 1
  have d2 : W4.cell? ⟨P, 2, none⟩ = some (.slice o1 nc c1) := bx_cell HX4.out 2 _ rfl
  have fd2 := bx_frozen HX4.out 2
  have d3 : W4.cell? ⟨P, 3, none⟩ = some (.int .i64 sc) := bx_cell HX4.out 3 _ rfl
  have fd3 := bx_frozen HX4.out 3
  have d4 : W4.cell? ⟨P, 4, none⟩ = some (.int .i64 kp) := bx_cell HX4.out 4 _ rfl
  have fd4 := bx_frozen HX4.out 4
  have d5 : W4.cell? ⟨P, 5, none⟩ = some (.slice o2 np c2) := bx_cell HX4.out 5 _ rfl
  have fd5 := bx_frozen HX4.out 5
  have d6 : W4.cell? ⟨P, 6, none⟩ = some (.slice o3 nr c3) := bx_cell HX4.out 6 _ rfl
  have fd6 := bx_frozen HX4.out 6
  have HNF := hide (newFlowTable_any nt W4 hnt)
  dsimp only [set3] at hW4
  go_wp2_with fail
  refine (HNF.out).mono ?_
  rintro e w5 ⟨g', rfl, hown, hb5⟩
  clear u0 fu0 u1 fu1 u2 fu2 u3 fu3 u4 fu4 u5 fu5 u6 fu6
  clear d0 fd0 d1 fd1 d2 fd2 d3 fd3 d4 fd4 d5 fd5 d6 fd6
  clear HNF
  have hs5 := hb5.size
  have HX5 : Hid (w5.heap[P]? = some (.cells #[.slice (some ⟨g, 0, none⟩) nt xc, .int .i64 kc, .slice o1 nc c1, .int .i64 sc, .int .i64 kp, .slice o2 np c2, .slice o3 nr c3] 109 (0, 0))) := (hb5.block P (by omega)).trans HX4.out
  replace HIJ := hide (HIJ.out.step (Stp.of (lo := 0) (hi := 0) hb5) (.inl (Nat.zero_le _)))
  replace HIP := hide (HIP.out.step (Stp.of (lo := 0) (hi := 0) hb5) (.inl (Nat.zero_le _)))
  have HS5 : Hid (Stp P (P + 1) w w5) := (HS3.out.trans HS4.out).trans (Stp.of hb5)
  have HO := hide hown
  have hgl := (hown.lt g' rfl).1
  clear hb5 hown HX4 HX3 HS3 HS4 hW4
  have u0 : w5.cell? ⟨P, 0, none⟩ = some (.slice (some ⟨g, 0, none⟩) nt xc) := bx_cell HX5.out 0 _ rfl
  have fu0 := bx_frozen HX5.out 0
  have u1 : w5.cell? ⟨P, 1, none⟩ = some (.int .i64 kc) := bx_cell HX5.out 1 _ rfl
  have fu1 := bx_frozen HX5.out 1
  have u2 : w5.cell? ⟨P, 2, none⟩ = some (.slice o1 nc c1) := bx_cell HX5.out 2 _ rfl
  have fu2 := bx_frozen HX5.out 2
  have u3 : w5.cell? ⟨P, 3, none⟩ = some (.int .i64 sc) := bx_cell HX5.out 3 _ rfl
  have fu3 := bx_frozen HX5.out 3
  have u4 : w5.cell? ⟨P, 4, none⟩ = some (.int .i64 kp) := bx_cell HX5.out 4 _ rfl
  have fu4 := bx_frozen HX5.out 4
  have u5 : w5.cell? ⟨P, 5, none⟩ = some (.slice o2 np c2) := bx_cell HX5.out 5 _ rfl
  have fu5 := bx_frozen HX5.out 5
  have u6 : w5.cell? ⟨P, 6, none⟩ = some (.slice o3 nr c3) := bx_cell HX5.out 6 _ rfl
  have fu6 := bx_frozen HX5.out 6
  have HFI : Hid ((w5.setCell ⟨P, 0, none⟩ (.slice (some ⟨g', 0, none⟩) nt nt)).heap[P]? = some (.cells #[(.slice (some ⟨g', 0, none⟩) nt nt), .int .i64 kc, .slice o1 nc c1, .int .i64 sc, .int .i64 kp, .slice o2 np c2, .slice o3 nr c3] 109 (0, 0)) ∧ Bx w.heap.size (w5.setCell ⟨P, 0, none⟩ (.slice (some ⟨g', 0, none⟩) nt nt)) g' nt kc (.slice o1 nc c1) sc kp (.slice o2 np c2) (.slice o3 nr c3) ⟨cm, pm, List.replicate nt sl0⟩ ∧ Stp P (P + 1) w (w5.setCell ⟨P, 0, none⟩ (.slice (some ⟨g', 0, none⟩) nt nt))) := by
    have s6 := stp_set w5 P 0 (.slice (some ⟨g', 0, none⟩) nt nt)
    have hz6 := s6.size
    obtain ⟨e1, e2, e3⟩ := HE.out
    obtain ⟨f1, f2, f3⟩ := HF.out
    refine ⟨box_put HX5.out 0 _, ⟨e1.symm, e3.symm, f1.symm, ⟨W4.heap.size, by omega, ?_⟩, ⟨w.heap.size, w1.heap.size, W2.heap.size, w3.heap.size, Nat.le_refl _, by omega, by omega, by omega, by omega, by omega, by omega, ?_, ?_⟩⟩, HS5.out.trans s6⟩
    · have h := (InRow.step (InRow.of HO.out) s6 (.inl (by omega))).1
      rw [List.length_replicate] at h ⊢
      exact h
    · have h := HIJ.out.step s6 (.inl (by omega))
      rw [← e1, ← e3] at h
      exact h
    · have h := HIP.out.step s6 (.inl (by omega))
      rw [← f1] at h
      exact h
  clear HIJ HIP HO HX5 HS5
  go_wp2
  go_end0
  exact ⟨rfl, g', kc, o1, nc, c1, sc, kp, o2, np, c2, o3, nr, c3, HFI.out.1, by rw [HPM.out]; exact HFI.out.2.1, HFI.out.2.2⟩

set_option maxRecDepth 100000 in
set_option maxHeartbeats 4000000 in
theorem implCrash_any (kj : Int) (o : Option Addr) (nj c : Nat) (sj kp : Int) (ob : Option Addr) (np cb : Nat) (oR : Option Addr) (nr cR : Nat) (ot : Option Addr) (nt ct : Nat) (lj : List Cd) (lb : List Bk) (lr : List (List (List Int))) (lt : List Sl) (keep : Int) (w : World)
    (hnj : nj = lj.length) (hnt : nt = lt.length) (h1 : RdC w.heap.size w o lj) (h1c : o = none → c = 0) (h2 : RdPm w.heap.size w (plv kp (.slice ob np cb) (.slice oR nr cR)) ⟨kp, lb, lr⟩) (h4 : RdS w.heap.size w ot lt) (hf : fitB0 ⟨⟨kj, lj, sj⟩, ⟨kp, lb, lr⟩, lt⟩) :
    Calls Tryz.prog 41 #[balv kj (.slice o nj c) sj kp (.slice ob np cb) (.slice oR nr cR) (.slice ot nt ct), .int .i64 keep] w fun e w' => ∃ v, e = .returned v ∧ InBm w.heap.size w'.heap.size w' v (crash0M ⟨⟨kj, lj, sj⟩, ⟨kp, lb, lr⟩, lt⟩ keep) ∧ Below w.heap.size w w' := by
  have HBF := hide (fun W (hb : Below w.heap.size w W) => balFrom_any kj o nj c sj kp ob np cb oR nr cR ot nt ct lj lb lr lt W hnj hnt ((h1.kept hb (Nat.le_refl _)).le hb.size) h1c ((h2.kept hb (Nat.le_refl _)).le hb.size) ((h4.kept hb (Nat.le_refl _)).le hb.size) hf)
  have f7 : lt.length ≤ 1048576 := hf.2.2
  have f1 : lj.length ≤ 1048576 := hf.1
  have HBP := hide (fun h => balB_pos (m := ⟨⟨kj, lj, sj⟩, ⟨kp, lb, lr⟩, lt⟩) h)
  have HM := hide (show crash0M ⟨⟨kj, lj, sj⟩, ⟨kp, lb, lr⟩, lt⟩ keep = if (balB ⟨⟨kj, lj, sj⟩, ⟨kp, lb, lr⟩, lt⟩ && decide (0 ≤ keep)) = true then ⟨cutM ⟨kj, lj, sj⟩ keep, replayM (cutM ⟨kj, lj, sj⟩ keep), List.replicate lt.length sl0⟩ else bm0 from rfl)
  clear h1 h2 h4 hnj hnt hf
  obtain ⟨bb, hbb⟩ : ∃ x, balB ⟨⟨kj, lj, sj⟩, ⟨kp, lb, lr⟩, lt⟩ = x := ⟨_, rfl⟩
  obtain ⟨mr, hmr⟩ : ∃ r, crash0M ⟨⟨kj, lj, sj⟩, ⟨kp, lb, lr⟩, lt⟩ keep = r := ⟨_, rfl⟩
  rw [hmr]
  rw [hbb] at HBF HBP HM
  rw [hmr] at HM
  clear hbb hmr
  obtain ⟨W0, hW0⟩ : ∃ W, ((w.alloc (.cells #[.int .i64 kj, .slice o nj c, .int .i64 sj, .int .i64 kp, .slice ob np cb, .slice oR nr cR, .slice ot nt ct] 46)).alloc (.cells #[.int .i64 0, .slice none 0 0, .int .i64 0, .int .i64 0, .slice none 0 0, .slice none 0 0, .slice none 0 0] 46)) = W := ⟨_, rfl⟩
  have hb_W0 : Below w.heap.size w W0 := by rw [← hW0]; exact (((Below.refl _ _).alloc (Nat.le_refl _) _).alloc (by simp <;> omega) _)
  have HB := hide hb_W0
  clear hb_W0
  have zz : w.heap.size < W0.heap.size := by rw [← hW0]; simp <;> omega
  have z0 : W0.cell? ⟨w.heap.size, 0, none⟩ = some (.int .i64 kj) := by rw [← hW0]; simp [go_sem]
  have z1 : W0.cell? ⟨w.heap.size, 1, none⟩ = some (.slice o nj c) := by rw [← hW0]; simp [go_sem]
  have z2 : W0.cell? ⟨w.heap.size, 2, none⟩ = some (.int .i64 sj) := by rw [← hW0]; simp [go_sem]
  have z3 : W0.cell? ⟨w.heap.size, 3, none⟩ = some (.int .i64 kp) := by rw [← hW0]; simp [go_sem]
  have z4 : W0.cell? ⟨w.heap.size, 4, none⟩ = some (.slice ob np cb) := by rw [← hW0]; simp [go_sem]
  have z5 : W0.cell? ⟨w.heap.size, 5, none⟩ = some (.slice oR nr cR) := by rw [← hW0]; simp [go_sem]
  have z6 : W0.cell? ⟨w.heap.size, 6, none⟩ = some (.slice ot nt ct) := by rw [← hW0]; simp [go_sem]
  have zr : w.heap.size + 1 < W0.heap.size := by rw [← hW0]; simp
  have r0 : W0.cell? ⟨w.heap.size + 1, 0, none⟩ = some (.int .i64 0) := by rw [← hW0]; simp [go_sem]
  have r1 : W0.cell? ⟨w.heap.size + 1, 1, none⟩ = some (.slice none 0 0) := by rw [← hW0]; simp [go_sem]
  have r2 : W0.cell? ⟨w.heap.size + 1, 2, none⟩ = some (.int .i64 0) := by rw [← hW0]; simp [go_sem]
  have r3 : W0.cell? ⟨w.heap.size + 1, 3, none⟩ = some (.int .i64 0) := by rw [← hW0]; simp [go_sem]
  have r4 : W0.cell? ⟨w.heap.size + 1, 4, none⟩ = some (.slice none 0 0) := by rw [← hW0]; simp [go_sem]
  have r5 : W0.cell? ⟨w.heap.size + 1, 5, none⟩ = some (.slice none 0 0) := by rw [← hW0]; simp [go_sem]
  have r6 : W0.cell? ⟨w.heap.size + 1, 6, none⟩ = some (.slice none 0 0) := by rw [← hW0]; simp [go_sem]
  have fr0 : W0.frozen? ⟨w.heap.size + 1, 0, none⟩ = false := by rw [← hW0]; simp [go_sem]
  have fr1 : W0.frozen? ⟨w.heap.size + 1, 1, none⟩ = false := by rw [← hW0]; simp [go_sem]
  have fr2 : W0.frozen? ⟨w.heap.size + 1, 2, none⟩ = false := by rw [← hW0]; simp [go_sem]
  have fr3 : W0.frozen? ⟨w.heap.size + 1, 3, none⟩ = false := by rw [← hW0]; simp [go_sem]
  have fr4 : W0.frozen? ⟨w.heap.size + 1, 4, none⟩ = false := by rw [← hW0]; simp [go_sem]
  have fr5 : W0.frozen? ⟨w.heap.size + 1, 5, none⟩ = false := by rw [← hW0]; simp [go_sem]
  have fr6 : W0.frozen? ⟨w.heap.size + 1, 6, none⟩ = false := by rw [← hW0]; simp [go_sem]
  have hzr : w.heap.size + 1 < W0.heap.size := zr
  go_enter Tryz.func41, Tryz.ntmps41
  go_wp2_with fail
  refine (HBF.out W0 HB.out).mono ?_
  rintro e v1 ⟨xo, xn, xc, kq, yo, yn, yc, sq, kr, uo, un, uc, vo, vn, vc, rfl, hin, hb⟩
  have HIN := hide hin
  have hs1 := hb.size
  clear hin HBF
  replace z0 := bC hb z0 zz
  replace z1 := bC hb z1 zz
  replace z2 := bC hb z2 zz
  replace z3 := bC hb z3 zz
  replace z4 := bC hb z4 zz
  replace z5 := bC hb z5 zz
  replace z6 := bC hb z6 zz
  replace zz := Nat.lt_of_lt_of_le zz hb.size
  replace r0 := bC hb r0 zr
  replace r1 := bC hb r1 zr
  replace r2 := bC hb r2 zr
  replace r3 := bC hb r3 zr
  replace r4 := bC hb r4 zr
  replace r5 := bC hb r5 zr
  replace r6 := bC hb r6 zr
  replace fr0 := bF hb fr0 zr
  replace fr1 := bF hb fr1 zr
  replace fr2 := bF hb fr2 zr
  replace fr3 := bF hb fr3 zr
  replace fr4 := bF hb fr4 zr
  replace fr5 := bF hb fr5 zr
  replace fr6 := bF hb fr6 zr
  replace zr := Nat.lt_of_lt_of_le zr hb.size
  replace HB := hide (HB.out.trans (hb.mono HB.out.size))
  clear hb
  cases bb with
  | false =>
    obtain ⟨W2, hW2⟩ : ∃ W, (v1.alloc (.cells #[.slice xo xn xc, .int .i64 kq, .slice yo yn yc, .int .i64 sq, .int .i64 kr, .slice uo un uc, .slice vo vn vc] 109)) = W := ⟨_, rfl⟩
    have hb_W2 : Below v1.heap.size v1 W2 := by rw [← hW2]; exact ((Below.refl _ _).alloc (Nat.le_refl _) _)
    replace z0 := bC hb_W2 z0 zz
    replace z1 := bC hb_W2 z1 zz
    replace z2 := bC hb_W2 z2 zz
    replace z3 := bC hb_W2 z3 zz
    replace z4 := bC hb_W2 z4 zz
    replace z5 := bC hb_W2 z5 zz
    replace z6 := bC hb_W2 z6 zz
    replace zz := Nat.lt_of_lt_of_le zz hb_W2.size
    replace r0 := bC hb_W2 r0 zr
    replace r1 := bC hb_W2 r1 zr
    replace r2 := bC hb_W2 r2 zr
    replace r3 := bC hb_W2 r3 zr
    replace r4 := bC hb_W2 r4 zr
    replace r5 := bC hb_W2 r5 zr
    replace r6 := bC hb_W2 r6 zr
    replace fr0 := bF hb_W2 fr0 zr
    replace fr1 := bF hb_W2 fr1 zr
    replace fr2 := bF hb_W2 fr2 zr
    replace fr3 := bF hb_W2 fr3 zr
    replace fr4 := bF hb_W2 fr4 zr
    replace fr5 := bF hb_W2 fr5 zr
    replace fr6 := bF hb_W2 fr6 zr
    replace zr := Nat.lt_of_lt_of_le zr hb_W2.size
    replace HB := hide (HB.out.trans (hb_W2.mono HB.out.size))
    clear hb_W2
    have zx : v1.heap.size < W2.heap.size := by rw [← hW2]; simp
    have x0 : W2.cell? ⟨v1.heap.size, 0, none⟩ = some (.slice xo xn xc) := by rw [← hW2]; simp [go_sem]
    have x1 : W2.cell? ⟨v1.heap.size, 1, none⟩ = some (.int .i64 kq) := by rw [← hW2]; simp [go_sem]
    have x2 : W2.cell? ⟨v1.heap.size, 2, none⟩ = some (.slice yo yn yc) := by rw [← hW2]; simp [go_sem]
    have x3 : W2.cell? ⟨v1.heap.size, 3, none⟩ = some (.int .i64 sq) := by rw [← hW2]; simp [go_sem]
    have x4 : W2.cell? ⟨v1.heap.size, 4, none⟩ = some (.int .i64 kr) := by rw [← hW2]; simp [go_sem]
    have x5 : W2.cell? ⟨v1.heap.size, 5, none⟩ = some (.slice uo un uc) := by rw [← hW2]; simp [go_sem]
    have x6 : W2.cell? ⟨v1.heap.size, 6, none⟩ = some (.slice vo vn vc) := by rw [← hW2]; simp [go_sem]
    clear HIN
    go_wp2
    refine bodyPost_ret (v := balv 0 (.slice none 0 0) 0 0 (.slice none 0 0) (.slice none 0 0) (.slice none 0 0)) (by simp [results, Tryz.results41, go_sem, r0, r1, r2, r3, r4, r5, r6]) rfl ⟨_, rfl, ?_, setB_below HB.out (Nat.le_succ _) _ _ _ _ _ _ _⟩
    rw [HM.out, setB_size]
    exact bm0_in _ _ _ (by have := HB.out.size; omega)
  | true =>
    have hn := HBP.out rfl
    (try dsimp only at hn)
    obtain ⟨g, rfl, rfl, hgl, bx⟩ := Bx.of (HIN.out rfl) hn
    have HBX := hide bx
    clear bx HIN
    obtain ⟨W2, hW2⟩ : ∃ W, (v1.alloc (.cells #[.slice (some ⟨g, 0, none⟩) lt.length xc, .int .i64 kq, .slice yo yn yc, .int .i64 sq, .int .i64 kr, .slice uo un uc, .slice vo vn vc] 109)) = W := ⟨_, rfl⟩
    have hb_W2 : Below v1.heap.size v1 W2 := by rw [← hW2]; exact ((Below.refl _ _).alloc (Nat.le_refl _) _)
    replace z0 := bC hb_W2 z0 zz
    replace z1 := bC hb_W2 z1 zz
    replace z2 := bC hb_W2 z2 zz
    replace z3 := bC hb_W2 z3 zz
    replace z4 := bC hb_W2 z4 zz
    replace z5 := bC hb_W2 z5 zz
    replace z6 := bC hb_W2 z6 zz
    replace zz := Nat.lt_of_lt_of_le zz hb_W2.size
    replace r0 := bC hb_W2 r0 zr
    replace r1 := bC hb_W2 r1 zr
    replace r2 := bC hb_W2 r2 zr
    replace r3 := bC hb_W2 r3 zr
    replace r4 := bC hb_W2 r4 zr
    replace r5 := bC hb_W2 r5 zr
    replace r6 := bC hb_W2 r6 zr
    replace fr0 := bF hb_W2 fr0 zr
    replace fr1 := bF hb_W2 fr1 zr
    replace fr2 := bF hb_W2 fr2 zr
    replace fr3 := bF hb_W2 fr3 zr
    replace fr4 := bF hb_W2 fr4 zr
    replace fr5 := bF hb_W2 fr5 zr
    replace fr6 := bF hb_W2 fr6 zr
    replace zr := Nat.lt_of_lt_of_le zr hb_W2.size
    replace HB := hide (HB.out.trans (hb_W2.mono HB.out.size))
    clear hb_W2
    have zx : v1.heap.size < W2.heap.size := by rw [← hW2]; simp
    have x0 : W2.cell? ⟨v1.heap.size, 0, none⟩ = some (.slice (some ⟨g, 0, none⟩) lt.length xc) := by rw [← hW2]; simp [go_sem]
    have x1 : W2.cell? ⟨v1.heap.size, 1, none⟩ = some (.int .i64 kq) := by rw [← hW2]; simp [go_sem]
    have x2 : W2.cell? ⟨v1.heap.size, 2, none⟩ = some (.slice yo yn yc) := by rw [← hW2]; simp [go_sem]
    have x3 : W2.cell? ⟨v1.heap.size, 3, none⟩ = some (.int .i64 sq) := by rw [← hW2]; simp [go_sem]
    have x4 : W2.cell? ⟨v1.heap.size, 4, none⟩ = some (.int .i64 kr) := by rw [← hW2]; simp [go_sem]
    have x5 : W2.cell? ⟨v1.heap.size, 5, none⟩ = some (.slice uo un uc) := by rw [← hW2]; simp [go_sem]
    have x6 : W2.cell? ⟨v1.heap.size, 6, none⟩ = some (.slice vo vn vc) := by rw [← hW2]; simp [go_sem]
    replace HBX := hide (HBX.out.kept (show Below v1.heap.size v1 W2 by rw [← hW2]; exact (Below.refl _ _).alloc (Nat.le_refl _) _))
    have hs2 : v1.heap.size < W2.heap.size := zx
    have HXB : Hid (W2.heap[v1.heap.size]? = some (.cells #[.slice (some ⟨g, 0, none⟩) lt.length xc, .int .i64 kq, .slice yo yn yc, .int .i64 sq, .int .i64 kr, .slice uo un uc, .slice vo vn vc] 109 (0, 0))) := by rw [← hW2]; exact World.alloc_heap_new v1 _
    by_cases hk : 0 ≤ keep
    · have hk' : ¬ (keep < 0) := by omega
      have HJ := hide (Bx.jr HBX.out)
      rw [decide_eq_true hk] at HM
      obtain ⟨e1, e2, e3, _⟩ := HBX.out
      dsimp only at e1 e2
      subst e1 e2
      have hq0 : w.heap.size < v1.heap.size := by omega
      have hq1 : w.heap.size + 1 < v1.heap.size := by omega
      have HCR := hide (crashB_any v1.heap.size g lt.length xc kq yo yn yc sq kr uo un uc vo vn vc keep lj W2 HJ.out.1 f7 HXB.out HJ.out.2.1 HJ.out.2.2.1 HJ.out.2.2.2 f1)
      clear hk e3 HXB HBX HJ
      go_wp2_with fail
      refine (HCR.out).mono ?_
      rintro e w5 ⟨rfl, g', k1, o1, n1, c1, s1, k2, o2, n2, c2, o3, n3, c3, X5, bx5, s5⟩
      have HX5 := hide X5
      have HBX := hide bx5
      have HS5 := hide s5
      have hs5 := s5.size
      replace z0 := s5.cellP z0 (.inl hq0)
      replace z1 := s5.cellP z1 (.inl hq0)
      replace z2 := s5.cellP z2 (.inl hq0)
      replace z3 := s5.cellP z3 (.inl hq0)
      replace z4 := s5.cellP z4 (.inl hq0)
      replace z5 := s5.cellP z5 (.inl hq0)
      replace z6 := s5.cellP z6 (.inl hq0)
      replace r0 := s5.cellP r0 (.inl hq1)
      replace r1 := s5.cellP r1 (.inl hq1)
      replace r2 := s5.cellP r2 (.inl hq1)
      replace r3 := s5.cellP r3 (.inl hq1)
      replace r4 := s5.cellP r4 (.inl hq1)
      replace r5 := s5.cellP r5 (.inl hq1)
      replace r6 := s5.cellP r6 (.inl hq1)
      replace fr0 := Stp.frozen s5 fr0 (by omega) (.inl hq1)
      replace fr1 := Stp.frozen s5 fr1 (by omega) (.inl hq1)
      replace fr2 := Stp.frozen s5 fr2 (by omega) (.inl hq1)
      replace fr3 := Stp.frozen s5 fr3 (by omega) (.inl hq1)
      replace fr4 := Stp.frozen s5 fr4 (by omega) (.inl hq1)
      replace fr5 := Stp.frozen s5 fr5 (by omega) (.inl hq1)
      replace fr6 := Stp.frozen s5 fr6 (by omega) (.inl hq1)
      replace HB := hide (HB.out.trans (s5.below (by omega) HB.out.size))
      clear X5 bx5 s5 HCR x0 x1 x2 x3 x4 x5 x6 zx hW2
      have y0 : w5.cell? ⟨v1.heap.size, 0, none⟩ = some ((.slice (some ⟨g', 0, none⟩) lt.length lt.length)) := bx_cell HX5.out 0 _ rfl
      have y1 : w5.cell? ⟨v1.heap.size, 1, none⟩ = some (.int .i64 k1) := bx_cell HX5.out 1 _ rfl
      have y2 : w5.cell? ⟨v1.heap.size, 2, none⟩ = some (.slice o1 n1 c1) := bx_cell HX5.out 2 _ rfl
      have y3 : w5.cell? ⟨v1.heap.size, 3, none⟩ = some (.int .i64 s1) := bx_cell HX5.out 3 _ rfl
      have y4 : w5.cell? ⟨v1.heap.size, 4, none⟩ = some (.int .i64 k2) := bx_cell HX5.out 4 _ rfl
      have y5 : w5.cell? ⟨v1.heap.size, 5, none⟩ = some (.slice o2 n2 c2) := bx_cell HX5.out 5 _ rfl
      have y6 : w5.cell? ⟨v1.heap.size, 6, none⟩ = some (.slice o3 n3 c3) := bx_cell HX5.out 6 _ rfl
      have HPL := hide (plainB_any W2.heap.size g' lt.length lt.length k1 o1 n1 c1 s1 k2 o2 n2 c2 o3 n3 c3 _ w5 (List.length_replicate ..).symm (by rw [List.length_replicate]; exact f7) hs5 HBX.out)
      clear HBX HX5 hzr
      go_wp2_with fail
      refine (HPL.out).mono ?_
      rintro e w6 ⟨tO, tn, tc, rfl, in6, hb6⟩
      have hs6 := hb6.size
      replace r0 := bC hb6 r0 (by omega)
      replace r1 := bC hb6 r1 (by omega)
      replace r2 := bC hb6 r2 (by omega)
      replace r3 := bC hb6 r3 (by omega)
      replace r4 := bC hb6 r4 (by omega)
      replace r5 := bC hb6 r5 (by omega)
      replace r6 := bC hb6 r6 (by omega)
      replace fr0 := bF hb6 fr0 (by omega)
      replace fr1 := bF hb6 fr1 (by omega)
      replace fr2 := bF hb6 fr2 (by omega)
      replace fr3 := bF hb6 fr3 (by omega)
      replace fr4 := bF hb6 fr4 (by omega)
      replace fr5 := bF hb6 fr5 (by omega)
      replace fr6 := bF hb6 fr6 (by omega)
      replace HB := hide (HB.out.trans (hb6.mono HB.out.size))
      have HI6 := hide in6
      clear in6 hb6 HPL y0 y1 y2 y3 y4 y5 y6 z0 z1 z2 z3 z4 z5 z6
      go_wp2
      refine bodyPost_ret (v := balv k1 (.slice o1 n1 c1) s1 k2 (.slice o2 n2 c2) (.slice o3 n3 c3) (.slice tO tn tc)) (by simp [results, Tryz.results41, go_sem, r0, r1, r2, r3, r4, r5, r6]) rfl ⟨_, rfl, ?_, setB_below HB.out (Nat.le_succ _) _ _ _ _ _ _ _⟩
      rw [HM.out, setB_size]
      exact (HI6.out.step (stp_setB _ _ _ _ _ _ _ _ _) (.inl (by omega))).mono (by omega) (Nat.le_refl _)
    · have hk' : keep < 0 := by omega
      rw [decide_eq_false hk] at HM
      clear HXB HBX
      go_wp2
      refine bodyPost_ret (v := balv 0 (.slice none 0 0) 0 0 (.slice none 0 0) (.slice none 0 0) (.slice none 0 0)) (by simp [results, Tryz.results41, go_sem, r0, r1, r2, r3, r4, r5, r6]) rfl ⟨_, rfl, ?_, setB_below HB.out (Nat.le_succ _) _ _ _ _ _ _ _⟩
      rw [HM.out, setB_size]
      exact bm0_in _ _ _ (by have := HB.out.size; omega)

end Go.Proofs.YtajfkcpifnpkeaaGreat

