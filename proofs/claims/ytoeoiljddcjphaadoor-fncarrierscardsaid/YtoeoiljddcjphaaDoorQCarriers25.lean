/- What bytes are read as, of what is carried. -/
import Derived.Test.YtoeoiljddcjphaaDoorQCarriers12
import Derived.Test.YtoeoiljddcjphaaDoorQCarriers23
namespace Go.Proofs.YtoeoiljddcjphaaDoor
open Go.ChangeShapes Go.WideShapes Go.ChangeAt Go.RowKit Go.Joins
set_option linter.unusedVariables false
set_option linter.unusedSimpArgs false


/-- How many segs the bytes tell of. -/
def crN (b : List Int) : Nat := (b.getD 0 0).toNat
def crSt (b : List Int) : Int := b.getD 2 0 * 65536 + b.getD 3 0 * 256 + b.getD 4 0
def crSeg (x : Int) : Int × Int := (x % 16, x / 16)
def crG (b : List Int) (n : Nat) : List (Int × Int) := (List.range n).map (fun i => crSeg (b.getD (5 + i) 0))
theorem crG_succ (b : List Int) (n : Nat) : crG b (n + 1) = crG b n ++ [crSeg (b.getD (5 + n) 0)] := by simp [crG, List.range_succ]
theorem crG_len (b : List Int) (n : Nat) : (crG b n).length = n := by simp [crG]
def crP (b : List Int) : List Int := b.drop (5 + crN b)
def crM (b : List Int) : Cm := ⟨rdN (crP b) (pairLS (crP b) 0), rdN (crP b) (pairLS (crP b) 2), rdN (crP b) ((crP b).getD 6 0), rdN (crP b) (pairLS (crP b) 4), rdL (crP b), crG b (crN b), b.getD 1 0, crSt b⟩
def crOk (b : List Int) : Bool := decide (5 ≤ b.length) && decide (5 + crN b ≤ b.length) && okR (crP b) && (crM b).ok
def crR (b : List Int) : Cm := if crOk b = true then crM b else Cm.zero
/-- What CarrierRead answers. -/
def crPost (b : List Int) (w : World) (e : Ending) (w' : World) : Prop := ∃ v, e = .returned (.tuple #[v, .bool (crOk b)]) ∧ ownCm w' w.heap.size v (crR b) ∧ Below w.heap.size w w'
theorem crPost_no {b : List Int} {w w' : World} (h : crOk b = false) (hb : Below w.heap.size w w') : crPost b w (.returned (.tuple #[crr 0 0 0 0 (.slice none 0 0) (.slice none 0 0) 0 0, .bool false])) w' := by
 refine ⟨_, by rw [h], ?_, hb⟩
 unfold crR
 rw [h]
 exact ⟨_, _, rfl, World.ownsRow_nil _ _ _ _, World.ownsRow_nil _ _ _ _⟩
theorem crOk_short {b : List Int} (h : ¬ 5 ≤ b.length) : crOk b = false := by simp [crOk, h]
theorem crOk_few {b : List Int} (h : ¬ 5 + crN b ≤ b.length) : crOk b = false := by simp [crOk, h]
theorem crOk_pkt {b : List Int} (h : okR (crP b) = false) : crOk b = false := by simp [crOk, h]
end Go.Proofs.YtoeoiljddcjphaaDoor

