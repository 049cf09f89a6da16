/- HuntPair, the model's. -/
import Derived.Test.YtoeoiljddcjphaaShN
import Derived.Test.YtoeoiljddcjphaaIntsA
namespace Go.Proofs.Ytoeoiljddcjphaa
open Go.ChangeShapes Go.WideShapes Go.ChangeAt Go.RowKit Go.Joins
set_option linter.unusedVariables false
set_option linter.unusedSimpArgs false

/-- Whom the first k of the segs hunt. -/
def huntTo (g : List (Int × Int)) (k : Nat) : List Int := ((g.take k).filter (fun p => p.2 == 1)).map (fun p => p.1)
def huntM (m : Cm) : List Int := if m.ok then huntTo m.g m.g.length else []
theorem huntTo_len (g : List (Int × Int)) (k : Nat) : (huntTo g k).length ≤ k := by
  unfold huntTo
  rw [List.length_map]
  exact Nat.le_trans (List.length_filter_le _ _) (by simp; omega)
theorem huntTo_yes {g : List (Int × Int)} {k : Nat} {x y : Int} (hk : k < g.length) (h : g.getD k (0, 0) = (x, y)) (hy : (y == 1) = true) : huntTo g (k + 1) = huntTo g k ++ [x] := by
  unfold huntTo
  rw [takeG_succ g k hk, h, List.filter_append, List.map_append]
  simp [hy]
theorem huntTo_no {g : List (Int × Int)} {k : Nat} {x y : Int} (hk : k < g.length) (h : g.getD k (0, 0) = (x, y)) (hy : (y == 1) = false) : huntTo g (k + 1) = huntTo g k := by
  unfold huntTo
  rw [takeG_succ g k hk, h, List.filter_append, List.map_append]
  simp [hy]
theorem appI : AppOk layI 38 3 := ⟨Try.underlying38, ⟨_, _, infoInt, rfl, by decide⟩, by decide, fun a u hu => by
  simp [layI] at hu; rw [hu]; rfl⟩
theorem rd_int1 (w : World) (x : Int) : RdL layI (w.alloc (.cells #[.int .i64 x] 3)).heap.size (w.alloc (.cells #[.int .i64 x] 3)) (some ⟨w.heap.size, 0, none⟩) [x] := by
  refine .inr ⟨w.heap.size, 0, rfl, by simp, fun i hi j hj => ?_⟩
  have hi0 : i = 0 := by simpa using hi
  have hj0 : j = 0 := by have : j < 1 := hj; omega
  subst hi0 hj0
  have := World.alloc_heap_new w (.cells #[.int .i64 x] 3)
  simp [layI]

end Go.Proofs.Ytoeoiljddcjphaa
