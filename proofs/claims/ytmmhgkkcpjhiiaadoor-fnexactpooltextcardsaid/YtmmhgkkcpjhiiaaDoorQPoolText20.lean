/- Who served at first and behind each command: the program's turns; its JournalOk. -/
import Derived.Lib.AppendZerosOnto
import Derived.Laws.NewBlocks
import Derived.Deep.DeepAppendWide
import Derived.Lib.Overlaps
import Derived.Laws.CopyRow
import Derived.Laws.Externs
import Derived.Shelf.Spec.SlicesInsert
import Derived.Test.YtmmhgkkcpjhiiaaDoorQPoolText19
import Derived.Test.YtmmhgkkcpjhiiaaDoorQPoolText06
import Derived.Test.YtmmhgkkcpjhiiaaDoorQPoolText07
import Derived.Test.YtmmhgkkcpjhiiaaDoorQPoolText08
import Derived.Test.YtmmhgkkcpjhiiaaDoorQPoolText17
namespace Go.Proofs.YtmmhgkkcpjhiiaaDoor
open Go.ChangeShapes Go.WideShapes Go.ChangeAt Go.RowKit Go.Joins
set_option linter.unusedVariables false
set_option linter.unusedSimpArgs false

theorem backNe : (70 : TypeId) ≠ 47 := by decide
/-- Rows of those who served: each its own. -/
structure Served (S : Nat → List Bk) (k : Nat) (w : World) (base : Nat) (hs : List Hd) : Prop where
 len : hs.length = k
 row : ∀ i, i < k → ownK w base (hv hs i) (S i)
theorem Served.kept {S : Nat → List Bk} {k : Nat} {w w' : World} {base : Nat} {hs : List Hd} (h : Served S k w base hs) (hb : Below w.heap.size w w') : Served S k w' base hs :=
 ⟨h.len, fun i hi => own_kept (h.row i hi) hb⟩
theorem Served.other {S : Nat → List Bk} {k : Nat} {w w' : World} {base b2 s2 n2 : Nat} {hs : List Hd} {v2 : Value} {x2 : List Value} (h : Served S k w base hs) (h2 : w.ownsRow b2 47 s2 v2 n2 x2) (hg : w.grownBy w' v2.ownBlock) : Served S k w' base hs :=
 ⟨h.len, fun i hi => (h.row i hi).kept hg (own_apart (h.row i hi) h2 backNe)⟩
theorem Served.snoc {S : Nat → List Bk} {k : Nat} {w : World} {base : Nat} {hs : List Hd} {o : Option Addr} {m c : Nat} (h : Served S k w base hs) (hr : ownK w base (.slice o m c) (S k)) : Served S (k + 1) w base (hs ++ [(o, m, c)]) := by
 have hl := h.len
 refine ⟨by simp [hl], fun i hi => ?_⟩
 rcases Nat.lt_succ_iff_lt_or_eq.1 hi with h' | h'
 ·rw [hv_left (by omega)]; exact h.row i h'
 ·subst h'; rw [← hl, hv_last, hl]; exact hr
theorem own_someH {e : TypeId} {w : World} {base : Nat} {v : Value} {hs : List Hd} (h : ownL layH e w base v hs) (hp : 0 < hs.length) : ∃ g c, v = .slice (some ⟨g, 0, none⟩) hs.length c := by
 rcases h.2 with ⟨h1, h2⟩ | ⟨g, c, cur, h1, _⟩
 ·omega
 ·exact ⟨g, c, h1⟩
end Go.Proofs.YtmmhgkkcpjhiiaaDoor

