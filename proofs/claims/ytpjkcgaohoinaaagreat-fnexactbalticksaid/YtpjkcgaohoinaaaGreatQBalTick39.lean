/- Several texts in one: SCmdI, SCrash3, SCmdS, CutB. -/
import Derived.Deep.RegionHeld3
import Derived.Deep.CutRange
import Derived.BigQuiet
import Derived.ChangeKeysEq
import Derived.Laws.StructEq
import Derived.Test.YtpjkcgaohoinaaaGreatQBalTick34
import Derived.Test.YtpjkcgaohoinaaaGreatQBalTick30
import Derived.Test.YtpjkcgaohoinaaaGreatQBalTick13
import Derived.Test.YtpjkcgaohoinaaaGreatQBalTick29
import Derived.Test.YtpjkcgaohoinaaaGreatQBalTick09
import Derived.Test.YtpjkcgaohoinaaaGreatQBalTick28
import Derived.Test.YtpjkcgaohoinaaaGreatQBalTick38
import Derived.Laws.MakeOwn
import Derived.Deep.RegionLaw
/- A command: the program's side. -/
namespace Go.Proofs.YtpjkcgaohoinaaaGreat
open Go.ChangeShapes Go.WideShapes Go.ChangeAt Go.RowKit Go.Joins
set_option linter.unusedVariables false
set_option linter.unusedSimpArgs false


theorem Bx.po {lo : Nat} {w : World} {g xc : Nat} {kj : Int} {vl : Value} {sj kp : Int} {vb vr : Value} {m : Bm} (h : Bx lo w g xc kj vl sj kp vb vr m) : RcPm 0 w.heap.size w (plv m.p.key vb vr) m.p := by
 obtain ⟨j0, j1, p0, p1, k1, k2, k3, k4, k5, k6, k7, i1, i2⟩ := h.mem
 exact i2.rc.le k4
end Go.Proofs.YtpjkcgaohoinaaaGreat

/- The model's Crash. -/
namespace Go.Proofs.YtpjkcgaohoinaaaGreat
open Go.ChangeShapes Go.WideShapes Go.ChangeAt Go.RowKit Go.Joins
set_option linter.unusedVariables false
set_option linter.unusedSimpArgs false


theorem l7own_ow {lo hi : Nat} {v : Value} {m : Bm} {w : World} (h : OwBm lo hi w v m) (hh : hi ≤ w.heap.size) (ht : 0 < m.t.length) (hf : fitBm m) :
  Calls Tryz.prog 21 #[v] w fun e w' => ∃ v', e = .returned v' ∧ OwBm w.heap.size w'.heap.size w' v' m ∧ Below w.heap.size w w' := by
 obtain ⟨vl, vb, vr, vt, rfl, hj, ⟨vb', vr', e, k1, k2, k3, k4⟩, htb⟩ := h
 have cj := hj.cap
 obtain ⟨vl', e1, o, c, e1', r1⟩ := hj.rd
 obtain ⟨vt', e3, ot, ct, e3', r3⟩ := htb.rd
 simp only [Value.agg.injEq, Array.mk.injEq, List.cons.injEq, and_true, true_and] at e e1 e3
 obtain ⟨e21, e22⟩ := e
 subst e1 e1' e3 e3' e21 e22
 obtain ⟨ob, cb, e4, rk⟩ := RiV.open k1
 obtain ⟨oR, cR, e5⟩ := RiR.len (RcR.ri k3)
 subst e4 e5
 obtain ⟨bt, ft, e6, hbt, hcell⟩ := rdS_some r3 ht
 subst e6
 exact l7own_go m.j.key o _ c m.j.safe m.p.key ob _ cb oR _ cR bt ft _ ct m.j.l m.p.l m.p.ring m.t w rfl rfl rfl rfl (r1.le hh) (capJm.one cj) (rk.le hh) (fun h => k2 _ _ (by rw [h])) (RcR.mon.go k3 (Nat.zero_le _) hh) (by omega) hcell hf
end Go.Proofs.YtpjkcgaohoinaaaGreat

/- A command: the model's side. -/
namespace Go.Proofs.YtpjkcgaohoinaaaGreat
open Go.ChangeShapes Go.WideShapes Go.ChangeAt Go.RowKit Go.Joins
set_option linter.unusedVariables false
set_option linter.unusedSimpArgs false


theorem ow_parts {lo hi : Nat} {w : World} {kj : Int} {o : Option Addr} {nj c : Nat} {sj kp : Int} {vb vr vt : Value} {lj : List Cd} {lb : List Bk} {lr : List (List (List Int))} {lt : List Sl} (h : OwBm lo hi w (balv kj (.slice o nj c) sj kp vb vr vt) ⟨⟨kj, lj, sj⟩, ⟨kp, lb, lr⟩, lt⟩) : nj = lj.length ∧ InJm lo hi w (jrn kj (.slice o nj c) sj) ⟨kj, lj, sj⟩ ∧ RcPm lo hi w (plv kp vb vr) ⟨kp, lb, lr⟩ ∧ InTb lo hi w (tab vt) lt := by
 obtain ⟨vl, vb', vr', vt', e, hj, hp, ht⟩ := h
 simp only [Value.agg.injEq, Array.mk.injEq, List.cons.injEq, and_true, true_and] at e
 obtain ⟨e1, e2, e3, e4⟩ := e
 subst e1 e2 e3 e4
 obtain ⟨vl', e5, o', c', e6, _⟩ := hj.rd
 simp only [Value.agg.injEq, Array.mk.injEq, List.cons.injEq, and_true, true_and] at e5
 subst e5
 injection e6 with _ e7 _
 exact ⟨e7, hj, hp, ht⟩
end Go.Proofs.YtpjkcgaohoinaaaGreat

/- A box of a balancer that is laid at any place among calls: what its end wants. -/
namespace Go.Proofs.YtpjkcgaohoinaaaGreat
open Go.ChangeShapes Go.WideShapes Go.ChangeAt Go.RowKit Go.Joins
set_option linter.unusedVariables false
set_option linter.unusedSimpArgs false

theorem cellsM7 {W : World} {B : Nat} {z0 z1 z2 z3 z4 z5 z6 : Value} {T : TypeId} (h : W.heap[B]? = some (.cells #[z0, z1, z2, z3, z4, z5, z6] T (0, 0))) : W.cell? ⟨B, 0, none⟩ = some z0 ∧ W.cell? ⟨B, 1, none⟩ = some z1 ∧ W.cell? ⟨B, 2, none⟩ = some z2 ∧ W.cell? ⟨B, 3, none⟩ = some z3 ∧ W.cell? ⟨B, 4, none⟩ = some z4 ∧ W.cell? ⟨B, 5, none⟩ = some z5 ∧ W.cell? ⟨B, 6, none⟩ = some z6 := ⟨bx_cell h 0 _ rfl, bx_cell h 1 _ rfl, bx_cell h 2 _ rfl, bx_cell h 3 _ rfl, bx_cell h 4 _ rfl, bx_cell h 5 _ rfl, bx_cell h 6 _ rfl⟩
end Go.Proofs.YtpjkcgaohoinaaaGreat

