/- Several texts in one: SCarr, SCarr2. -/
import Derived.Deep.RegionHeld3
import Derived.Test.YtmmhgkkcpjhiiaaGreatQLearn45
import Derived.Test.YtmmhgkkcpjhiiaaGreatQLearn04
import Derived.Test.YtmmhgkkcpjhiiaaGreatQLearn44
import Derived.Test.YtmmhgkkcpjhiiaaGreatQLearn18
import Derived.Test.YtmmhgkkcpjhiiaaGreatQLearn10
import Derived.Test.YtmmhgkkcpjhiiaaGreatQLearn46
namespace Go.Proofs.YtmmhgkkcpjhiiaaGreat
open Go.ChangeShapes Go.WideShapes Go.ChangeAt Go.RowKit Go.Joins
set_option linter.unusedVariables false
set_option linter.unusedSimpArgs false

def boxC (k : Nat) (a b f s : Int) (v g : Value) (pl st : Int) (w : World) : Prop :=
  w.cell? ⟨k, 0, none⟩ = some (.int .i64 a) ∧ w.cell? ⟨k, 1, none⟩ = some (.int .i64 b) ∧ w.cell? ⟨k, 2, none⟩ = some (.int .i64 f) ∧ w.cell? ⟨k, 3, none⟩ = some (.int .i64 s) ∧ w.cell? ⟨k, 4, none⟩ = some v ∧
  w.cell? ⟨k, 5, none⟩ = some g ∧ w.cell? ⟨k, 6, none⟩ = some (.int .i64 pl) ∧ w.cell? ⟨k, 7, none⟩ = some (.int .i64 st)
theorem boxC.kept {k : Nat} {a b f s : Int} {v g : Value} {pl st : Int} {w w' : World} {B : Nat} (h : boxC k a b f s v g pl st w) (hb : Below B w w') (hk : k < B) : boxC k a b f s v g pl st w' :=
  ⟨(hb.cell (p := ⟨k, 0, none⟩) hk).trans h.1, (hb.cell (p := ⟨k, 1, none⟩) hk).trans h.2.1, (hb.cell (p := ⟨k, 2, none⟩) hk).trans h.2.2.1, (hb.cell (p := ⟨k, 3, none⟩) hk).trans h.2.2.2.1, (hb.cell (p := ⟨k, 4, none⟩) hk).trans h.2.2.2.2.1,
   (hb.cell (p := ⟨k, 5, none⟩) hk).trans h.2.2.2.2.2.1, (hb.cell (p := ⟨k, 6, none⟩) hk).trans h.2.2.2.2.2.2.1, (hb.cell (p := ⟨k, 7, none⟩) hk).trans h.2.2.2.2.2.2.2⟩
end Go.Proofs.YtmmhgkkcpjhiiaaGreat

namespace Go.Proofs.YtmmhgkkcpjhiiaaGreat
open Go.ChangeShapes Go.WideShapes Go.ChangeAt Go.RowKit Go.Joins
set_option linter.unusedVariables false
set_option linter.unusedSimpArgs false

set_option maxHeartbeats 400000 in
theorem isStamp_any (n : Int) (w : World) : Calls Tryz.prog 109 #[.int .i64 n] w fun e w' => e = .returned (.bool (decide (0 ≤ n) && decide (n ≤ 100000))) ∧ w = w' := by
 go_enter Tryz.func109, Tryz.ntmps109
 go_wp2
 all_goals go_ret
 all_goals refine ⟨?_, rfl⟩
 all_goals first | (simp [*]; done) | (simp; omega)

end Go.Proofs.YtmmhgkkcpjhiiaaGreat

