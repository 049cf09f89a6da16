/- The library's Insert of one at rows of backs. -/
import Derived.Test.YtfmnhdemhbbjlaaGrSDelete
import Derived.Lib.Overlaps
import Derived.Laws.CopyRow
import Derived.Laws.Externs
import Derived.Shelf.Spec.SlicesInsert
namespace Go.Proofs.Ytfmnhdemhbbjlaa
open Go.ChangeShapes Go.WideShapes Go.ChangeAt Go.RowKit Go.Joins
set_option linter.unusedVariables false
set_option linter.unusedSimpArgs false

/-- 'copy' into a row, of elements of any size. -/
theorem run_copy_rowK {P : Program} (size : Nat) (w : World) (dT sT ty elem : TypeId) (g o dLen dCap : Nat) (a : Addr) (sLen sCap : Nat) (cur : Array Value) (t : TypeId) (cs : List Value)
    (hu : P.underlying dT = some (.slice elem)) (hs : (P.info? elem).map (·.size) = some size)
    (hg : w.heap[g]? = some (.cells cur t (0, 0))) (hn : cs.length = Nat.min sLen dLen * size)
    (hsrc : ∀ j v, cs[j]? = some v → w.cell? (a.add j) = some v) (hfit : o + cs.length ≤ cur.size) (h1 : ∀ v ∈ cs, v.oneCell' = true) :
    (Builtin.copy_ #[dT, sT] ty #[.slice (some ⟨g, o, none⟩) dLen dCap, .slice (some a) sLen sCap]).run P w =
      .ok (goInt (Nat.min sLen dLen)) (w.setRow g (cur.toList.take o ++ cs ++ cur.toList.drop (o + cs.length)).toArray) := by
  have hl := run_loadCells_list (P := P) w a cs hsrc
  have hst := run_storeCells_at (P := P) g o t cs 0 cur w hg (by simpa using hfit) h1
  cases hq : P.info? elem with
  | none => simp [hq] at hs
  | some i =>
    have hi : i.size = size := by simpa [hq] using hs
    rw [hn] at hl
    simp [Builtin.copy_, run_underlying hu, Builtin.lenOf, Builtin.firstCells, sizeOf, typeInfo, hq, hi, hl, hst]

/-- One put in: the cells, behind the two copies. -/
theorem shift_cells {X cs cur : List Value} {i n k : Nat} (hX : cur.take (n * k) = X) (hi : i ≤ n) (hc : cs.length = k) (hlen : (n + 1) * k ≤ cur.length) :
    let c1 := cur.take ((i + 1) * k) ++ X.drop (i * k) ++ cur.drop ((i + 1) * k + (X.drop (i * k)).length)
    (c1.take (i * k) ++ cs ++ c1.drop (i * k + cs.length)).take ((n + 1) * k) = X.take (i * k) ++ cs ++ X.drop (i * k) ∧ (c1.take (i * k) ++ cs ++ c1.drop (i * k + cs.length)).length = cur.length := by
  intro c1
  have hk1 : (i + 1) * k = i * k + k := Nat.succ_mul i k
  have hn1 : (n + 1) * k = n * k + k := Nat.succ_mul n k
  have hik : i * k ≤ n * k := Nat.mul_le_mul_right k hi
  have hXl : X.length = n * k := by rw [← hX, List.length_take]; omega
  have hA : (cur.take ((i + 1) * k)).length = (i + 1) * k := by rw [List.length_take]; omega
  have hD : (X.drop (i * k)).length = n * k - i * k := by rw [List.length_drop, hXl]
  have hT : (X.take (i * k)).length = i * k := by rw [List.length_take]; omega
  have t1 : c1.take (i * k) = X.take (i * k) := by
    show (cur.take ((i + 1) * k) ++ X.drop (i * k) ++ cur.drop ((i + 1) * k + (X.drop (i * k)).length)).take (i * k) = _
    rw [List.append_assoc, List.take_append_of_le_length (by omega), List.take_take, Nat.min_eq_left (by omega)]
    conv => rhs; rw [← hX]
    rw [List.take_take, Nat.min_eq_left hik]
  have t2 : c1.drop (i * k + cs.length) = X.drop (i * k) ++ cur.drop ((i + 1) * k + (X.drop (i * k)).length) := by
    show (cur.take ((i + 1) * k) ++ X.drop (i * k) ++ cur.drop ((i + 1) * k + (X.drop (i * k)).length)).drop (i * k + cs.length) = _
    rw [hc, ← hk1, List.append_assoc]
    exact List.drop_left' hA
  rw [t1, t2]
  constructor
  · rw [← List.append_assoc]
    exact List.take_left' (by rw [List.length_append, List.length_append]; omega)
  · simp only [List.length_append, List.length_drop] at *
    omega

end Go.Proofs.Ytfmnhdemhbbjlaa
