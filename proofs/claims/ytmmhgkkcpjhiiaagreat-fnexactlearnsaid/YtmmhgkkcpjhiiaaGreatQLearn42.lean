/- The model's Crash. -/
import Derived.Laws.MakeOwn
import Derived.Deep.RegionHeld3
import Derived.Deep.RegionLaw
import Derived.Test.YtmmhgkkcpjhiiaaGreatQLearn40
import Derived.Test.YtmmhgkkcpjhiiaaGreatQLearn41
import Derived.Test.YtmmhgkkcpjhiiaaGreatQLearn32
namespace Go.Proofs.YtmmhgkkcpjhiiaaGreat
open Go.ChangeShapes Go.WideShapes Go.ChangeAt Go.RowKit Go.Joins
set_option linter.unusedVariables false
set_option linter.unusedSimpArgs false


theorem l7own_ow {lo hi : Nat} {v : Value} {m : Bm} {w : World} (h : OwBm lo hi w v m) (hh : hi ≤ w.heap.size) (ht : 0 < m.t.length) (hf : fitBm m) :
  Calls Tryz.prog 135 #[v] w fun e w' => ∃ v', e = .returned v' ∧ OwBm w.heap.size w'.heap.size w' v' m ∧ Below w.heap.size w w' := by
 obtain ⟨vl, vb, vr, vt, rfl, hj, ⟨vb', vr', e, k1, k2, k3, k4⟩, htb⟩ := h
 have cj := hj.cap
 obtain ⟨vl', e1, o, c, e1', r1⟩ := hj.rd
 obtain ⟨vt', e3, ot, ct, e3', r3⟩ := htb.rd
 simp only [Value.agg.injEq, Array.mk.injEq, List.cons.injEq, and_true, true_and] at e e1 e3
 obtain ⟨e21, e22⟩ := e
 subst e1 e1' e3 e3' e21 e22
 obtain ⟨ob, cb, e4, rk⟩ := RiV.open k1
 obtain ⟨oR, cR, e5⟩ := RiR.len (RcR.ri k3)
 subst e4 e5
 obtain ⟨bt, ft, e6, hbt, hcell⟩ := rdS_some r3 ht
 subst e6
 exact l7own_go m.j.key o _ c m.j.safe m.p.key ob _ cb oR _ cR bt ft _ ct m.j.l m.p.l m.p.ring m.t w rfl rfl rfl rfl (r1.le hh) (capJm.one cj) (rk.le hh) (fun h => k2 _ _ (by rw [h])) (RcR.mon.go k3 (Nat.zero_le _) hh) (by omega) hcell hf
end Go.Proofs.YtmmhgkkcpjhiiaaGreat

