/- PacketRead of the model: two small facts. -/
import Derived.Test.YtoeoiljddcjphaaSRead2
namespace Go.Proofs.Ytoeoiljddcjphaa
open Go.ChangeShapes Go.WideShapes Go.ChangeAt Go.RowKit Go.Joins
set_option linter.unusedVariables false
set_option linter.unusedSimpArgs false

theorem packetL_get7 (a b f s : Int) (l : List Int) : (packetL a b f s l).getD 7 0 = l.length := by
  simp [packetL, preL, wordL, List.getElem?_set]

theorem boxed.set4 {k : Nat} {a b f s : Int} {v v' : Value} {w : World} (h : boxed k a b f s v w) : boxed k a b f s v' (w.setCell ⟨k, 4, none⟩ v') := by
  refine ⟨?_, ?_, ?_, ?_, World.cell?_setCell_same w _ _ h.2.2.2.2⟩
  · exact (World.cell?_setCell_other w _ _ _ (by simp)).trans h.1
  · exact (World.cell?_setCell_other w _ _ _ (by simp)).trans h.2.1
  · exact (World.cell?_setCell_other w _ _ _ (by simp)).trans h.2.2.1
  · exact (World.cell?_setCell_other w _ _ _ (by simp)).trans h.2.2.2.1

end Go.Proofs.Ytoeoiljddcjphaa
