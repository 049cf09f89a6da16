/- Next, in the words of shapes. -/
import Derived.Test.YtoeoiljddcjphaaDoorShC
namespace Go.Proofs.YtoeoiljddcjphaaDoor
open Go.ChangeShapes Go.WideShapes Go.ChangeAt Go.RowKit Go.Joins
set_option linter.unusedVariables false
set_option linter.unusedSimpArgs false

theorem nextM_fit {m : Cm} (hf : fitCm m) : (nextM m).1.l.length ≤ 1048576 ∧ (nextM m).1.g.length ≤ 1048576 := by
  have h := hf.1
  unfold nextM
  split
  · split
    · exact ⟨by show m.l.length ≤ _; omega, by show m.g.length ≤ _; omega⟩
    · exact ⟨by show m.l.length ≤ _; omega, by show m.g.length ≤ _; omega⟩
  · exact ⟨by decide, by decide⟩
theorem rdCm_in {a b f s : Int} {o : Option Addr} {cap : Nat} {l : List Int} {og : Option Addr} {cg : Nat} {g : List (Int × Int)} {pl st : Int} {w : World} (hR : Rd w o l) (hG : RdG w og g) : RdCm w.heap.size w (crr a b f s (.slice o l.length cap) (.slice og g.length cg) pl st) ⟨a, b, f, s, l, g, pl, st⟩ :=
  ⟨_, _, rfl, ⟨o, cap, rfl, RdB_rd.2 hR⟩, ⟨og, cg, rfl, RdG_rd.2 hG⟩⟩

end Go.Proofs.YtoeoiljddcjphaaDoor
