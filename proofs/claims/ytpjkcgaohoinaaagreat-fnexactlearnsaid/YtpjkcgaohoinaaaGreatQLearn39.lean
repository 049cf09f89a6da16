/- Several texts in one: SCmdI, SCrash3, SCmdS, CutB. -/
import Derived.Deep.RegionHeld3
import Derived.Deep.CutRange
import Derived.BigQuiet
import Derived.ChangeKeysEq
import Derived.Laws.StructEq
import Derived.Test.YtpjkcgaohoinaaaGreatQLearn34
import Derived.Test.YtpjkcgaohoinaaaGreatQLearn30
import Derived.Test.YtpjkcgaohoinaaaGreatQLearn13
import Derived.Test.YtpjkcgaohoinaaaGreatQLearn29
import Derived.Test.YtpjkcgaohoinaaaGreatQLearn09
import Derived.Test.YtpjkcgaohoinaaaGreatQLearn28
import Derived.Test.YtpjkcgaohoinaaaGreatQLearn37
import Derived.Test.YtpjkcgaohoinaaaGreatQLearn38
import Derived.Laws.MakeOwn
import Derived.Deep.RegionLaw
namespace Go.Proofs.YtpjkcgaohoinaaaGreat
open Go.ChangeShapes Go.WideShapes Go.ChangeAt Go.RowKit Go.Joins
set_option linter.unusedVariables false
set_option linter.unusedSimpArgs false


theorem Bx.po {lo : Nat} {w : World} {g xc : Nat} {kj : Int} {vl : Value} {sj kp : Int} {vb vr : Value} {m : Bm} (h : Bx lo w g xc kj vl sj kp vb vr m) : RcPm 0 w.heap.size w (plv m.p.key vb vr) m.p := by
 obtain ⟨j0, j1, p0, p1, k1, k2, k3, k4, k5, k6, k7, i1, i2⟩ := h.mem
 exact i2.rc.le k4
end Go.Proofs.YtpjkcgaohoinaaaGreat

namespace Go.Proofs.YtpjkcgaohoinaaaGreat
open Go.ChangeShapes Go.WideShapes Go.ChangeAt Go.RowKit Go.Joins
set_option linter.unusedVariables false
set_option linter.unusedSimpArgs false


theorem l7own_ow {lo hi : Nat} {v : Value} {m : Bm} {w : World} (h : OwBm lo hi w v m) (hh : hi ≤ w.heap.size) (ht : 0 < m.t.length) (hf : fitBm m) :
  Calls Tryz.prog 21 #[v] w fun e w' => ∃ v', e = .returned v' ∧ OwBm w.heap.size w'.heap.size w' v' m ∧ Below w.heap.size w w' := by
 obtain ⟨vl, vb, vr, vt, rfl, hj, ⟨vb', vr', e, k1, k2, k3, k4⟩, htb⟩ := h
 have cj := hj.cap
 obtain ⟨vl', e1, o, c, e1', r1⟩ := hj.rd
 obtain ⟨vt', e3, ot, ct, e3', r3⟩ := htb.rd
 simp only [Value.agg.injEq, Array.mk.injEq, List.cons.injEq, and_true, true_and] at e e1 e3
 obtain ⟨e21, e22⟩ := e
 subst e1 e1' e3 e3' e21 e22
 obtain ⟨ob, cb, e4, rk⟩ := RiV.open k1
 obtain ⟨oR, cR, e5⟩ := RiR.len (RcR.ri k3)
 subst e4 e5
 obtain ⟨bt, ft, e6, hbt, hcell⟩ := rdS_some r3 ht
 subst e6
 exact l7own_go m.j.key o _ c m.j.safe m.p.key ob _ cb oR _ cR bt ft _ ct m.j.l m.p.l m.p.ring m.t w rfl rfl rfl rfl (r1.le hh) (capJm.one cj) (rk.le hh) (fun h => k2 _ _ (by rw [h])) (RcR.mon.go k3 (Nat.zero_le _) hh) (by omega) hcell hf
end Go.Proofs.YtpjkcgaohoinaaaGreat

namespace Go.Proofs.YtpjkcgaohoinaaaGreat
open Go.ChangeShapes Go.WideShapes Go.ChangeAt Go.RowKit Go.Joins
set_option linter.unusedVariables false
set_option linter.unusedSimpArgs false


theorem ow_parts {lo hi : Nat} {w : World} {kj : Int} {o : Option Addr} {nj c : Nat} {sj kp : Int} {vb vr vt : Value} {lj : List Cd} {lb : List Bk} {lr : List (List (List Int))} {lt : List Sl} (h : OwBm lo hi w (balv kj (.slice o nj c) sj kp vb vr vt) ⟨⟨kj, lj, sj⟩, ⟨kp, lb, lr⟩, lt⟩) : nj = lj.length ∧ InJm lo hi w (jrn kj (.slice o nj c) sj) ⟨kj, lj, sj⟩ ∧ RcPm lo hi w (plv kp vb vr) ⟨kp, lb, lr⟩ ∧ InTb lo hi w (tab vt) lt := by
 obtain ⟨vl, vb', vr', vt', e, hj, hp, ht⟩ := h
 simp only [Value.agg.injEq, Array.mk.injEq, List.cons.injEq, and_true, true_and] at e
 obtain ⟨e1, e2, e3, e4⟩ := e
 subst e1 e2 e3 e4
 obtain ⟨vl', e5, o', c', e6, _⟩ := hj.rd
 simp only [Value.agg.injEq, Array.mk.injEq, List.cons.injEq, and_true, true_and] at e5
 subst e5
 injection e6 with _ e7 _
 exact ⟨e7, hj, hp, ht⟩
end Go.Proofs.YtpjkcgaohoinaaaGreat

namespace Go.Proofs.YtpjkcgaohoinaaaGreat
open Go.ChangeShapes Go.WideShapes Go.ChangeAt Go.RowKit Go.Joins
set_option linter.unusedVariables false
set_option linter.unusedSimpArgs false

theorem InBm.stps : Stps InBm := ⟨fun h s hd => InBm.step h s hd⟩
theorem OwBm.stps : Stps OwBm := ⟨fun h s hd => OwBm.step h s hd⟩
theorem setB_cellB {W : World} {B b j : Nat} {u : Value} (h : W.cell? ⟨b, j, none⟩ = some u) (hb : b < B) (x0 x1 x2 x3 x4 x5 x6 : Value) : (setB W B x0 x1 x2 x3 x4 x5 x6).cell? ⟨b, j, none⟩ = some u := (stp_setB W B x0 x1 x2 x3 x4 x5 x6).cellP h (.inl hb)
theorem box_newE {w new : World} {c : Array Value} {T : TypeId} (hb : Below (w.alloc (.cells c T)).heap.size (w.alloc (.cells c T)) new) : new.heap[w.heap.size]? = some (.cells c T (0, 0)) :=
 (hb.block w.heap.size (by simp)).trans (World.alloc_heap_new w (.cells c T))
theorem box_newE0 {w new : World} {c : Array Value} {T : TypeId} (hb : Below ((w.alloc (.cells c T)).drew).heap.size (w.alloc (.cells c T)).drew new) : new.heap[w.heap.size]? = some (.cells c T (0, 0)) := by
 have h1 := hb.block w.heap.size (by simp)
 have h2 : (w.alloc (.cells c T)).drew.heap[w.heap.size]? = (w.alloc (.cells c T)).heap[w.heap.size]? := rfl
 exact h1.trans (h2.trans (World.alloc_heap_new w (.cells c T)))
theorem setB_box {W : World} {R : Nat} {z0 z1 z2 z3 z4 z5 z6 : Value} {T : TypeId} (h : W.heap[R]? = some (.cells #[z0, z1, z2, z3, z4, z5, z6] T (0, 0))) (x0 x1 x2 x3 x4 x5 x6 : Value) : (setB W R x0 x1 x2 x3 x4 x5 x6).heap[R]? = some (.cells #[x0, x1, x2, x3, x4, x5, x6] T (0, 0)) := by
 have h0 : (W.setCell ⟨R, 0, none⟩ x0).heap[R]? = some (.cells #[x0, z1, z2, z3, z4, z5, z6] T (0, 0)) := box_put h 0 x0
 have h1 : ((W.setCell ⟨R, 0, none⟩ x0).setCell ⟨R, 1, none⟩ x1).heap[R]? = some (.cells #[x0, x1, z2, z3, z4, z5, z6] T (0, 0)) := box_put h0 1 x1
 have h2 : (((W.setCell ⟨R, 0, none⟩ x0).setCell ⟨R, 1, none⟩ x1).setCell ⟨R, 2, none⟩ x2).heap[R]? = some (.cells #[x0, x1, x2, z3, z4, z5, z6] T (0, 0)) := box_put h1 2 x2
 have h3 : ((((W.setCell ⟨R, 0, none⟩ x0).setCell ⟨R, 1, none⟩ x1).setCell ⟨R, 2, none⟩ x2).setCell ⟨R, 3, none⟩ x3).heap[R]? = some (.cells #[x0, x1, x2, x3, z4, z5, z6] T (0, 0)) := box_put h2 3 x3
 have h4 : (((((W.setCell ⟨R, 0, none⟩ x0).setCell ⟨R, 1, none⟩ x1).setCell ⟨R, 2, none⟩ x2).setCell ⟨R, 3, none⟩ x3).setCell ⟨R, 4, none⟩ x4).heap[R]? = some (.cells #[x0, x1, x2, x3, x4, z5, z6] T (0, 0)) := box_put h3 4 x4
 have h5 : ((((((W.setCell ⟨R, 0, none⟩ x0).setCell ⟨R, 1, none⟩ x1).setCell ⟨R, 2, none⟩ x2).setCell ⟨R, 3, none⟩ x3).setCell ⟨R, 4, none⟩ x4).setCell ⟨R, 5, none⟩ x5).heap[R]? = some (.cells #[x0, x1, x2, x3, x4, x5, z6] T (0, 0)) := box_put h4 5 x5
 have h6 : (((((((W.setCell ⟨R, 0, none⟩ x0).setCell ⟨R, 1, none⟩ x1).setCell ⟨R, 2, none⟩ x2).setCell ⟨R, 3, none⟩ x3).setCell ⟨R, 4, none⟩ x4).setCell ⟨R, 5, none⟩ x5).setCell ⟨R, 6, none⟩ x6).heap[R]? = some (.cells #[x0, x1, x2, x3, x4, x5, x6] T (0, 0)) := box_put h5 6 x6
 exact h6
theorem cells7 {W : World} {B : Nat} {z0 z1 z2 z3 z4 z5 z6 : Value} {T : TypeId} (h : W.heap[B]? = some (.cells #[z0, z1, z2, z3, z4, z5, z6] T (0, 0))) : W.cell? ⟨B, 0, none⟩ = some z0 ∧ W.cell? ⟨B, 1, none⟩ = some z1 ∧ W.cell? ⟨B, 2, none⟩ = some z2 ∧ W.cell? ⟨B, 3, none⟩ = some z3 ∧ W.cell? ⟨B, 4, none⟩ = some z4 ∧ W.cell? ⟨B, 5, none⟩ = some z5 ∧ W.cell? ⟨B, 6, none⟩ = some z6 ∧ W.frozen? ⟨B, 0, none⟩ = false ∧ W.frozen? ⟨B, 1, none⟩ = false ∧ W.frozen? ⟨B, 2, none⟩ = false ∧ W.frozen? ⟨B, 3, none⟩ = false ∧ W.frozen? ⟨B, 4, none⟩ = false ∧ W.frozen? ⟨B, 5, none⟩ = false ∧ W.frozen? ⟨B, 6, none⟩ = false :=
 ⟨bx_cell h 0 _ rfl, bx_cell h 1 _ rfl, bx_cell h 2 _ rfl, bx_cell h 3 _ rfl, bx_cell h 4 _ rfl, bx_cell h 5 _ rfl, bx_cell h 6 _ rfl, bx_frozen h 0, bx_frozen h 1, bx_frozen h 2, bx_frozen h 3, bx_frozen h 4, bx_frozen h 5, bx_frozen h 6⟩
theorem cellsM7 {W : World} {B : Nat} {z0 z1 z2 z3 z4 z5 z6 : Value} {T : TypeId} (h : W.heap[B]? = some (.cells #[z0, z1, z2, z3, z4, z5, z6] T (0, 0))) : W.cell? ⟨B, 0, none⟩ = some z0 ∧ W.cell? ⟨B, 1, none⟩ = some z1 ∧ W.cell? ⟨B, 2, none⟩ = some z2 ∧ W.cell? ⟨B, 3, none⟩ = some z3 ∧ W.cell? ⟨B, 4, none⟩ = some z4 ∧ W.cell? ⟨B, 5, none⟩ = some z5 ∧ W.cell? ⟨B, 6, none⟩ = some z6 := ⟨bx_cell h 0 _ rfl, bx_cell h 1 _ rfl, bx_cell h 2 _ rfl, bx_cell h 3 _ rfl, bx_cell h 4 _ rfl, bx_cell h 5 _ rfl, bx_cell h 6 _ rfl⟩
theorem finBal {P : Nat → Nat → World → Value → Bm → Prop} (hP : Stps P) {cur W : World} {B lo hi : Nat} {f : Value} {mr : Bm} {o ob oR ot : Option Addr} {c cb cR ct : Nat} {z0 z1 z2 z3 z4 z5 z6 : Value} (hZ : W.heap[B]? = some (.cells #[z0, z1, z2, z3, z4, z5, z6] 47 (0, 0))) (hx : Below cur.heap.size cur W) (hB : cur.heap.size ≤ B) (hi' : P lo hi W (balv mr.j.key (.slice o mr.j.l.length c) mr.j.safe mr.p.key (.slice ob mr.p.l.length cb) (.slice oR mr.p.ring.length cR) (.slice ot mr.t.length ct)) mr) (h1 : cur.heap.size ≤ lo) (h2 : hi ≤ W.heap.size) (h3 : B < lo ∨ hi ≤ B) :
  ∃ B' lo hi o' c' ob' cb' oR' cR' ot' ct', Value.pointer (some ⟨B, 0, none⟩) = .pointer (some ⟨B', 0, none⟩) ∧ f = f ∧ Hid ((setB W B (.int .i64 mr.j.key) (.slice o mr.j.l.length c) (.int .i64 mr.j.safe) (.int .i64 mr.p.key) (.slice ob mr.p.l.length cb) (.slice oR mr.p.ring.length cR) (.slice ot mr.t.length ct)).heap[B']? = some (.cells #[.int .i64 mr.j.key, .slice o' mr.j.l.length c', .int .i64 mr.j.safe, .int .i64 mr.p.key, .slice ob' mr.p.l.length cb', .slice oR' mr.p.ring.length cR', .slice ot' mr.t.length ct'] 47 (0, 0))) ∧ Hid (Below cur.heap.size cur (setB W B (.int .i64 mr.j.key) (.slice o mr.j.l.length c) (.int .i64 mr.j.safe) (.int .i64 mr.p.key) (.slice ob mr.p.l.length cb) (.slice oR mr.p.ring.length cR) (.slice ot mr.t.length ct))) ∧ cur.heap.size ≤ B' ∧ B' < (setB W B (.int .i64 mr.j.key) (.slice o mr.j.l.length c) (.int .i64 mr.j.safe) (.int .i64 mr.p.key) (.slice ob mr.p.l.length cb) (.slice oR mr.p.ring.length cR) (.slice ot mr.t.length ct)).heap.size ∧ Hid (P lo hi (setB W B (.int .i64 mr.j.key) (.slice o mr.j.l.length c) (.int .i64 mr.j.safe) (.int .i64 mr.p.key) (.slice ob mr.p.l.length cb) (.slice oR mr.p.ring.length cR) (.slice ot mr.t.length ct)) (balv mr.j.key (.slice o' mr.j.l.length c') mr.j.safe mr.p.key (.slice ob' mr.p.l.length cb') (.slice oR' mr.p.ring.length cR') (.slice ot' mr.t.length ct')) mr) ∧ cur.heap.size ≤ lo ∧ hi ≤ (setB W B (.int .i64 mr.j.key) (.slice o mr.j.l.length c) (.int .i64 mr.j.safe) (.int .i64 mr.p.key) (.slice ob mr.p.l.length cb) (.slice oR mr.p.ring.length cR) (.slice ot mr.t.length ct)).heap.size ∧ (B' < lo ∨ hi ≤ B') := by
 have b8 := setB_box hZ (.int .i64 mr.j.key) (.slice o mr.j.l.length c) (.int .i64 mr.j.safe) (.int .i64 mr.p.key) (.slice ob mr.p.l.length cb) (.slice oR mr.p.ring.length cR) (.slice ot mr.t.length ct)
 exact ⟨B, lo, hi, o, c, ob, cb, oR, cR, ot, ct, rfl, rfl, b8, setB_below hx hB _ _ _ _ _ _ _, hB, (Array.getElem?_eq_some_iff.1 b8).1, hP.go hi' (stp_setB W B _ _ _ _ _ _ _) (by omega), h1, by rw [setB_size]; exact h2, h3⟩
theorem finBaln {P : Nat → Nat → World → Value → Bm → Prop} (hP : Stps P) {cur W : World} {lo hi : Nat} {f : Value} {mr : Bm} {o ob oR ot : Option Addr} {c cb cR ct : Nat} (hx : Below cur.heap.size cur W) (hi' : P lo hi W (balv mr.j.key (.slice o mr.j.l.length c) mr.j.safe mr.p.key (.slice ob mr.p.l.length cb) (.slice oR mr.p.ring.length cR) (.slice ot mr.t.length ct)) mr) (h1 : cur.heap.size ≤ lo) (h2 : hi ≤ W.heap.size) :
  ∃ B' lo hi o' c' ob' cb' oR' cR' ot' ct', Value.pointer (some ⟨W.heap.size, 0, none⟩) = .pointer (some ⟨B', 0, none⟩) ∧ f = f ∧ Hid ((W.alloc (.cells #[.int .i64 mr.j.key, .slice o mr.j.l.length c, .int .i64 mr.j.safe, .int .i64 mr.p.key, .slice ob mr.p.l.length cb, .slice oR mr.p.ring.length cR, .slice ot mr.t.length ct] 47)).heap[B']? = some (.cells #[.int .i64 mr.j.key, .slice o' mr.j.l.length c', .int .i64 mr.j.safe, .int .i64 mr.p.key, .slice ob' mr.p.l.length cb', .slice oR' mr.p.ring.length cR', .slice ot' mr.t.length ct'] 47 (0, 0))) ∧ Hid (Below cur.heap.size cur (W.alloc (.cells #[.int .i64 mr.j.key, .slice o mr.j.l.length c, .int .i64 mr.j.safe, .int .i64 mr.p.key, .slice ob mr.p.l.length cb, .slice oR mr.p.ring.length cR, .slice ot mr.t.length ct] 47))) ∧ cur.heap.size ≤ B' ∧ B' < (W.alloc (.cells #[.int .i64 mr.j.key, .slice o mr.j.l.length c, .int .i64 mr.j.safe, .int .i64 mr.p.key, .slice ob mr.p.l.length cb, .slice oR mr.p.ring.length cR, .slice ot mr.t.length ct] 47)).heap.size ∧ Hid (P lo hi (W.alloc (.cells #[.int .i64 mr.j.key, .slice o mr.j.l.length c, .int .i64 mr.j.safe, .int .i64 mr.p.key, .slice ob mr.p.l.length cb, .slice oR mr.p.ring.length cR, .slice ot mr.t.length ct] 47)) (balv mr.j.key (.slice o' mr.j.l.length c') mr.j.safe mr.p.key (.slice ob' mr.p.l.length cb') (.slice oR' mr.p.ring.length cR') (.slice ot' mr.t.length ct')) mr) ∧ cur.heap.size ≤ lo ∧ hi ≤ (W.alloc (.cells #[.int .i64 mr.j.key, .slice o mr.j.l.length c, .int .i64 mr.j.safe, .int .i64 mr.p.key, .slice ob mr.p.l.length cb, .slice oR mr.p.ring.length cR, .slice ot mr.t.length ct] 47)).heap.size ∧ (B' < lo ∨ hi ≤ B') :=
 ⟨W.heap.size, lo, hi, o, c, ob, cb, oR, cR, ot, ct, rfl, rfl, World.alloc_heap_new W _, hx.alloc hx.size _, hx.size, by simp, hP.go hi' (Stp.of (lo := 0) (hi := 0) ((Below.refl _ _).alloc (Nat.le_refl _) _)) (.inl (Nat.zero_le _)), h1, by simp; omega, .inr h2⟩

end Go.Proofs.YtpjkcgaohoinaaaGreat

