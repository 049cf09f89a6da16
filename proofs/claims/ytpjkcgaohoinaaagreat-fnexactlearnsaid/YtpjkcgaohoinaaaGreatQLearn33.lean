/- Hint, on both sides. -/
import Derived.Test.YtpjkcgaohoinaaaGreatQLearn31
import Derived.Test.YtpjkcgaohoinaaaGreatQLearn32
namespace Go.Proofs.YtpjkcgaohoinaaaGreat
open Go.ChangeShapes Go.WideShapes Go.ChangeAt Go.RowKit Go.Joins
set_option linter.unusedVariables false
set_option linter.unusedSimpArgs false


theorem balB_tab {m : Bm} (h : balB m = true) : tableOkB m.t = true := by
 rw [balB_spec] at h
 simp only [Bool.and_eq_true] at h
 exact h.2.1
theorem balB_pos {m : Bm} (h : balB m = true) : 0 < m.t.length := (tableOkB_iff.1 (balB_tab h)).1
theorem rdS_some {C : Nat} {w : World} {o : Option Addr} {l : List Sl} (h : RdS C w o l) (hn : 0 < l.length) : ∃ b off, o = some ⟨b, off, none⟩ ∧ b < C ∧ ∀ i, i < l.length → ∀ j, j < layS.k → w.cell? ⟨b, off + i * layS.k + j, none⟩ = (layS.cs (l.getD i layS.d))[j]? := by
 rcases h with h | ⟨b, off, e, hb, r⟩
 ·subst h; simp at hn
 ·exact ⟨b, off, e, hb, r⟩
theorem inBl_open {lo hi : Nat} {w : World} {xo : Option Addr} {xn xc : Nat} {kq : Int} {yo : Option Addr} {yn yc : Nat} {sq kr : Int} {uo : Option Addr} {un uc : Nat} {vo : Option Addr} {vn vc : Nat} {j : Jm} {p : Pm} {t : List Sl} (h : InBl lo hi w (balr (.slice xo xn xc) kq (.slice yo yn yc) sq kr (.slice uo un uc) (.slice vo vn vc)) j p t) (ht : 0 < t.length) :
  ∃ g a b, lo ≤ a ∧ a ≤ g ∧ g < b ∧ b ≤ hi ∧ kq = j.key ∧ sq = j.safe ∧ kr = p.key ∧ xo = some ⟨g, 0, none⟩ ∧ xn = t.length ∧ InPm lo a w (plv p.key (.slice uo un uc) (.slice vo vn vc)) p ∧ w.ownsRow a CellT 5 (.slice (some ⟨g, 0, none⟩) t.length xc) t.length (t.flatMap layS.cs) ∧ InJm b hi w (jrn j.key (.slice yo yn yc) j.safe) j := by
 obtain ⟨vt, vl, vb, vr, a, b, e, k1, k2, k3, i1, i2, i3⟩ := h
 simp only [Value.agg.injEq, Array.mk.injEq, List.cons.injEq, and_true, Value.int.injEq, true_and] at e
 obtain ⟨e1, e2, e3, e4, e5, e6, e7⟩ := e
 subst e1 e3 e6 e7
 have i2' := i2
 rcases i2'.1.2 with ⟨h1, h2⟩ | ⟨g, cap, cur, hv, hg, r⟩
 ·exact absurd h2 (by omega)
 ·injection hv with h4 h5 h6
  subst h4 h5 h6
  exact ⟨g, a, b, k1, hg, i2.2 g rfl, k3, e2, e4, e5, rfl, rfl, i1, i2.1, i3⟩

end Go.Proofs.YtpjkcgaohoinaaaGreat

