/- Slices of ints: how they read; the laws' own helpers over them: eqIntS, markIntS, heldIntS. -/
import Derived.Test.YtoeoiljddcjphaaLists
import Derived.Test.YtoeoiljddcjphaaGrow
namespace Go.Proofs.Ytoeoiljddcjphaa
open Go.ChangeShapes Go.WideShapes Go.ChangeAt Go.RowKit Go.Joins
set_option linter.unusedVariables false
set_option linter.unusedSimpArgs false

def layI : Lay Int := ⟨1, fun a => [.int .i64 a], 0, fun _ => rfl⟩
abbrev RdI := RdL layI
abbrev ownI := ownL layI 3

theorem RdL.int {w : World} {b off : Nat} {l : List Int} (h : ∀ i, i < l.length → ∀ j, j < layI.k → w.cell? ⟨b, off + i * layI.k + j, none⟩ = (layI.cs (l.getD i layI.d))[j]?) (i : Nat) (hi : i < l.length) :
    w.cell? ⟨b, off + i, none⟩ = some (.int .i64 (l.getD i 0)) := by
  have := h i hi 0 (by decide)
  rw [show layI.k = 1 from rfl, Nat.mul_one, Nat.add_zero] at this
  exact this

theorem infoInt : (Try.prog.info? 3).map (fun i => (i.zero, i.size, i.bytes)) = some (some (.int .i64 0), 1, 8) := by kernel_rfl
theorem flat_one (l : List Int) : l.flatMap layI.cs = l.map (Value.int .i64) := by
  induction l with
  | nil => rfl
  | cons a l ih => simp only [List.flatMap_cons, List.map_cons, ih]; rfl

def markI (k : Int) (n : Nat) : List Int := (List.range n).map (fun (i : Nat) => k + (i : Int))
theorem markI_length (k : Int) (n : Nat) : (markI k n).length = n := by simp [markI]
theorem markI_get (k : Int) (n i : Nat) (h : i < n) : (markI k n).getD i 0 = k + (i : Int) := by simp [markI, h]
def markITo (l : List Int) (k : Int) (i : Nat) : List Int := markI k i ++ l.drop i
theorem markITo_zero (l : List Int) (k : Int) : markITo l k 0 = l := by simp [markITo, markI]
theorem markITo_all (l : List Int) (k : Int) : markITo l k l.length = markI k l.length := by simp [markITo]
theorem markITo_length (l : List Int) (k : Int) (i : Nat) (h : i ≤ l.length) : (markITo l k i).length = l.length := by simp [markITo, markI]; omega
theorem markITo_set (l : List Int) (k : Int) (i : Nat) (h : i < l.length) : ((markITo l k i).flatMap layI.cs).set i (.int .i64 (k + (i : Int))) = (markITo l k (i + 1)).flatMap layI.cs := by
  rw [flat_set1 layI rfl (a := k + (i : Int)) rfl]
  congr 1
  have e2 : (markI k i).length = i := markI_length k i
  unfold markITo
  rw [List.drop_eq_getElem_cons h, List.set_append_right _ _ (by omega), e2, Nat.sub_self, List.set_cons_zero]
  have e3 : markI k (i + 1) = markI k i ++ [k + (i : Int)] := by simp [markI, List.range_succ]
  rw [e3, List.append_assoc]
  rfl
theorem markI_step {w wr : World} {base g cap : Nat} {l : List Int} {k : Int} {i : Nat} (hi : i < l.length) (hown : wr.ownsRow base 3 1 (.slice (some ⟨g, 0, none⟩) l.length cap) l.length ((markITo l k i).flatMap layI.cs))
    (hg : w.grownBy wr (some g)) : (wr.setCell ⟨g, i, none⟩ (.int .i64 (k + (i : Int)))).ownsRow base 3 1 (.slice (some ⟨g, 0, none⟩) l.length cap) l.length ((markITo l k (i + 1)).flatMap layI.cs) ∧
      w.grownBy (wr.setCell ⟨g, i, none⟩ (.int .i64 (k + (i : Int)))) (some g) := by
  have h := hown.stored i (.int .i64 (k + (i : Int)))
  rw [markITo_set l k i hi] at h
  exact ⟨h.1, ⟨hg.os, hg.tape, hg.output, by have := h.2.size; have := hg.size; omega, fun j hj hne => (h.2.block j (Nat.lt_of_lt_of_le hj hg.size) hne).trans (hg.block j hj hne)⟩⟩

end Go.Proofs.Ytoeoiljddcjphaa
