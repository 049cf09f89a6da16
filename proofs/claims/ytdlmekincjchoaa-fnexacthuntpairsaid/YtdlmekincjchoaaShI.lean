/- Whole numbers in rows, and the laws' own helpers over them, in the words of Fr. -/
import Derived.Test.YtdlmekincjchoaaFr
import Derived.Test.YtdlmekincjchoaaIntsA
namespace Go.Proofs.Ytdlmekincjchoaa
open Go.ChangeShapes Go.WideShapes Go.ChangeAt Go.RowKit Go.Joins
set_option linter.unusedVariables false
set_option linter.unusedSimpArgs false

abbrev InI := InL layI 3
theorem eqIntS_sh (v1 v2 : Value) (l : List Int) (w : World) (h1 : RdV layI w.heap.size w v1 l) (h2 : RdV layI w.heap.size w v2 l) (hl : l.length ≤ 1048576) :
    Calls Try.prog 40 #[v1, v2] w fun e w' => e = .returned (.bool true) ∧ Below w.heap.size w w' := by
  obtain ⟨o, c, rfl, r⟩ := h1
  obtain ⟨o2, c2, rfl, r2⟩ := h2
  exact eqIntS_same o o2 c c2 l w r r2 hl
theorem markIntS_sh (lo hi : Nat) (v : Value) (l : List Int) (k : Int) (w : World) (hv : InI lo hi w v l) (h0 : 0 ≤ k) (h1 : k ≤ 1073741824) (hlen : l.length ≤ 1048576) :
    Calls Try.prog 41 #[v, .int .i64 k] w fun e w' => e = .returned (.int .i64 (k + l.length)) ∧ InI lo hi w' v (markI k l.length) ∧ w.grownBy w' v.ownBlock := by
  refine (markIntS_any lo v l k w hv.1 h0 h1 hlen).mono ?_
  rintro e w' ⟨rfl, ho, hg⟩
  exact ⟨rfl, ⟨ho, hv.2⟩, hg⟩
theorem heldIntS_sh (v : Value) (n C : Nat) (k : Int) (w : World) (hR : RdV layI C w v (markI k n)) (h0 : 0 ≤ k) (h1 : k ≤ 1073741824) (hlen : n ≤ 1048576) :
    Calls Try.prog 42 #[v, .int .i64 k] w fun e w' => e = .returned (.int .i64 (k + n)) ∧ w = w' := by
  obtain ⟨o, c, rfl, r⟩ := hR
  rw [markI_length]
  exact heldIntS_any o c n C k w r h0 h1 hlen

end Go.Proofs.Ytdlmekincjchoaa
