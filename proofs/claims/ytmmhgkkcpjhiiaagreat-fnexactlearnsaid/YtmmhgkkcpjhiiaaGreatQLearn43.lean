/- Several texts in one: SCmdS, STickS. -/
import Derived.Deep.RegionHeld3
import Derived.Deep.CutRange
import Derived.BigQuiet
import Derived.ChangeKeysEq
import Derived.Laws.StructEq
import Derived.Test.YtmmhgkkcpjhiiaaGreatQLearn41
import Derived.Test.YtmmhgkkcpjhiiaaGreatQLearn42
import Derived.Test.YtmmhgkkcpjhiiaaGreatQLearn31
import Derived.Test.YtmmhgkkcpjhiiaaGreatQLearn32
import Derived.Test.YtmmhgkkcpjhiiaaGreatQLearn11
import Derived.Test.YtmmhgkkcpjhiiaaGreatQLearn40
import Derived.Test.YtmmhgkkcpjhiiaaGreatQLearn10
import Derived.Test.YtmmhgkkcpjhiiaaGreatQLearn38
namespace Go.Proofs.YtmmhgkkcpjhiiaaGreat
open Go.ChangeShapes Go.WideShapes Go.ChangeAt Go.RowKit Go.Joins
set_option linter.unusedVariables false
set_option linter.unusedSimpArgs false


theorem ow_parts {lo hi : Nat} {w : World} {kj : Int} {o : Option Addr} {nj c : Nat} {sj kp : Int} {vb vr vt : Value} {lj : List Cd} {lb : List Bk} {lr : List (List (List Int))} {lt : List Sl} (h : OwBm lo hi w (balv kj (.slice o nj c) sj kp vb vr vt) ⟨⟨kj, lj, sj⟩, ⟨kp, lb, lr⟩, lt⟩) : nj = lj.length ∧ InJm lo hi w (jrn kj (.slice o nj c) sj) ⟨kj, lj, sj⟩ ∧ RcPm lo hi w (plv kp vb vr) ⟨kp, lb, lr⟩ ∧ InTb lo hi w (tab vt) lt := by
 obtain ⟨vl, vb', vr', vt', e, hj, hp, ht⟩ := h
 simp only [Value.agg.injEq, Array.mk.injEq, List.cons.injEq, and_true, true_and] at e
 obtain ⟨e1, e2, e3, e4⟩ := e
 subst e1 e2 e3 e4
 obtain ⟨vl', e5, o', c', e6, _⟩ := hj.rd
 simp only [Value.agg.injEq, Array.mk.injEq, List.cons.injEq, and_true, true_and] at e5
 subst e5
 injection e6 with _ e7 _
 exact ⟨e7, hj, hp, ht⟩
end Go.Proofs.YtmmhgkkcpjhiiaaGreat

namespace Go.Proofs.YtmmhgkkcpjhiiaaGreat
open Go.ChangeShapes Go.WideShapes Go.ChangeAt Go.RowKit Go.Joins
set_option linter.unusedVariables false
set_option linter.unusedSimpArgs false


def OrBm (w : World) (v : Value) (m : Bm) : Prop := ∃ o c ob cb oR cR bt ft ct, v = balv m.j.key (.slice o m.j.l.length c) m.j.safe m.p.key (.slice ob m.p.l.length cb) (.slice oR m.p.ring.length cR) (.slice (some ⟨bt, ft, none⟩) m.t.length ct) ∧ RdC w.heap.size w o m.j.l ∧ (o = none → c = 0) ∧ RdK w.heap.size w ob m.p.l ∧ (ob = none → cb = 0) ∧ RcR 0 w.heap.size w (.slice oR m.p.ring.length cR) m.p.ring ∧ bt < w.heap.size ∧ (∀ i, i < m.t.length → ∀ j, j < layS.k → w.cell? ⟨bt, ft + i * layS.k + j, none⟩ = (layS.cs (m.t.getD i layS.d))[j]?)
theorem stp_sameT {lo hi b j : Nat} {w w' : World} (s : Stp lo hi w w') (hb : b < w.heap.size) (hd : b < lo ∨ hi ≤ b) : w'.cell? ⟨b, j, none⟩ = w.cell? ⟨b, j, none⟩ := by
 simp only [World.cell?, s.block b hb hd]
theorem OrBm.kept {w w' : World} {v : Value} {m : Bm} (h : OrBm w v m) (hb : Below w.heap.size w w') : OrBm w' v m := by
 obtain ⟨o, c, ob, cb, oR, cR, bt, ft, ct, e, h1, h2, h3, h4, h5, h6, h7⟩ := h
 exact ⟨o, c, ob, cb, oR, cR, bt, ft, ct, e, (h1.kept hb (Nat.le_refl _)).le hb.size, h2, (h3.kept hb (Nat.le_refl _)).le hb.size, h4, RcR.mon.go (RcR.stp.go h5 (Stp.of (lo := 0) (hi := 0) hb) (.inl (Nat.zero_le _))) (Nat.le_refl _) hb.size, Nat.lt_of_lt_of_le h6 hb.size, fun i hi j hj => (hb.cell (p := ⟨bt, ft + i * layS.k + j, none⟩) h6).trans (h7 i hi j hj)⟩
theorem l7own_or {v : Value} {m : Bm} {w : World} (h : OrBm w v m) (hf : fitBm m) :
  Calls Tryz.prog 135 #[v] w fun e w' => ∃ v', e = .returned v' ∧ OwBm w.heap.size w'.heap.size w' v' m ∧ Below w.heap.size w w' := by
 obtain ⟨o, c, ob, cb, oR, cR, bt, ft, ct, e, h1, h2, h3, h4, h5, h6, h7⟩ := h
 subst e
 exact l7own_go m.j.key o _ c m.j.safe m.p.key ob _ cb oR _ cR bt ft _ ct m.j.l m.p.l m.p.ring m.t w rfl rfl rfl rfl h1 h2 h3 h4 h5 h6 h7 hf
theorem l6nowB_any (n : Int) (w : World) : Calls Tryz.prog 134 #[.int .i64 n] w fun e w' => e = .returned (.bool (decide (0 ≤ n) && decide (n ≤ 100000))) ∧ Below w.heap.size w w' := by
 go_enter Tryz.func134, Tryz.ntmps134
 go_wp2
 all_goals go_ret
 all_goals refine ⟨ret_bool ?_, Below.refl _ _⟩
 all_goals first | (simp [*]; done) | (simp; omega)

end Go.Proofs.YtmmhgkkcpjhiiaaGreat

