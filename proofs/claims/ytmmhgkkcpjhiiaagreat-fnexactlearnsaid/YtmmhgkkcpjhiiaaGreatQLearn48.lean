/- What is due goes: the program's BalTick. -/
import Derived.Test.YtmmhgkkcpjhiiaaGreatQLearn36
import Derived.Test.YtmmhgkkcpjhiiaaGreatQLearn39
import Derived.Test.YtmmhgkkcpjhiiaaGreatQLearn40
import Derived.Test.YtmmhgkkcpjhiiaaGreatQLearn38
import Derived.Test.YtmmhgkkcpjhiiaaGreatQLearn35
import Derived.Test.YtmmhgkkcpjhiiaaGreatQLearn43
import Derived.Test.YtmmhgkkcpjhiiaaGreatQLearn47
namespace Go.Proofs.YtmmhgkkcpjhiiaaGreat
open Go.ChangeShapes Go.WideShapes Go.ChangeAt Go.RowKit Go.Joins
set_option linter.unusedVariables false
set_option linter.unusedSimpArgs false


theorem Bx.turn {lo : Nat} {w w' : World} {g xc : Nat} {kj : Int} {vl : Value} {sj kp : Int} {vb vr : Value} {m : Bm} {t : List Sl} (h : Bx lo w g xc kj vl sj kp vb vr m) (s : Stp g (g + 1) w w') (hl : t.length = m.t.length) (base : Nat) (hb : lo ≤ base) (ho : w'.ownsRow base CellT 5 (.slice (some ⟨g, 0, none⟩) m.t.length xc) m.t.length (t.flatMap layS.cs)) : Bx lo w' g xc kj vl sj kp vb vr ⟨m.j, m.p, t⟩ := by
 obtain ⟨h1, h2, h3, _, ⟨j0, j1, p0, p1, k1, k2, k3, k4, k5, k6, k7, i1, i2⟩⟩ := h
 have hs := s.size
 exact ⟨h1, h2, h3, ⟨base, hb, by dsimp only; rw [hl]; exact ho⟩, ⟨j0, j1, p0, p1, k1, by omega, k3, by omega, k5, k6, k7, i1.step s (by omega), i2.step s (by omega)⟩⟩
theorem rowOf {lo : Nat} {w : World} {g xc : Nat} {kj : Int} {vl : Value} {sj kp : Int} {vb vr : Value} {m : Bm} (h : Bx lo w g xc kj vl sj kp vb vr m) : ∃ base, lo ≤ base ∧ w.ownsRow base CellT 5 (.slice (some ⟨g, 0, none⟩) m.t.length xc) m.t.length (m.t.flatMap layS.cs) := h.row

end Go.Proofs.YtmmhgkkcpjhiiaaGreat

