/- The model's CarrierOk: a plain function, and the contract. -/
import Derived.Test.YtljogkoaaidlcaaQHandL17
import Derived.Test.YtljogkoaaidlcaaQHandL19
import Derived.Test.YtljogkoaaidlcaaQHandL11
namespace Go.Proofs.Ytljogkoaaidlcaa
open Go.ChangeShapes Go.WideShapes Go.ChangeAt Go.RowKit Go.Joins
set_option linter.unusedVariables false
set_option linter.unusedSimpArgs false
set_option maxRecDepth 100000
set_option maxHeartbeats 40000000
def Q1X (f : Int) : Bool := bits .and .i64 f 3 == 1
def Q0K (op : Bool) : Int → List (Int × Int) → Bool
  | _, [] => true
  | h, p :: l => Q15 p.1 p.2 && !(p.2 == 1 && !op) && !(decide (p.2 < h)) && Q0K op p.2 l
def Q4x (a b f s : Int) (n m : Nat) (pl st : Int) : Bool := Q0l a b f s n && decide (1 ≤ (m : Int)) && decide ((m : Int) ≤ 24) && decide (0 ≤ pl) && decide (pl < (m : Int)) && decide (0 ≤ st) && decide (st ≤ 100000)
def Q0q (a b f s : Int) (n : Nat) (g : List (Int × Int)) (pl st : Int) : Bool := Q4x a b f s n g.length pl st && Q0K (Q1X f) 0 g
theorem Q21 {a b f s : Int} {n m : Nat} {pl st : Int} : Q4x a b f s n m pl st = true ↔ (Q0l a b f s n = true ∧ 1 ≤ (m : Int) ∧ (m : Int) ≤ 24 ∧ 0 ≤ pl ∧ pl < (m : Int) ∧ 0 ≤ st ∧ st ≤ 100000 ∧ True) := by simp [Q4x, and_assoc]
theorem Q17 {a b f s : Int} {n : Nat} {g : List (Int × Int)} {pl st : Int} (h : ¬ (Q0l a b f s n = true ∧ 1 ≤ (g.length : Int) ∧ (g.length : Int) ≤ 24 ∧ 0 ≤ pl ∧ pl < (g.length : Int) ∧ 0 ≤ st ∧ st ≤ 100000 ∧ True)) : false = Q0q a b f s n g pl st := by
  have : Q4x a b f s n g.length pl st = false := by rw [Bool.eq_false_iff]; exact fun q => h (Q21.1 q)
  simp [Q0q, this]
theorem Q2x {a b f s : Int} {n : Nat} {g : List (Int × Int)} {pl st : Int} (h : Q4x a b f s n g.length pl st = true) : Q0K (Q1X f) 0 g = Q0q a b f s n g pl st := by simp [Q0q, h]
def boxC (k : Nat) (a b f s : Int) (v g : Value) (pl st : Int) (w : World) : Prop :=
  w.cell? ⟨k, 0, none⟩ = some (.int .i64 a) ∧ w.cell? ⟨k, 1, none⟩ = some (.int .i64 b) ∧ w.cell? ⟨k, 2, none⟩ = some (.int .i64 f) ∧ w.cell? ⟨k, 3, none⟩ = some (.int .i64 s) ∧ w.cell? ⟨k, 4, none⟩ = some v ∧
  w.cell? ⟨k, 5, none⟩ = some g ∧ w.cell? ⟨k, 6, none⟩ = some (.int .i64 pl) ∧ w.cell? ⟨k, 7, none⟩ = some (.int .i64 st)
theorem boxC.kept {k : Nat} {a b f s : Int} {v g : Value} {pl st : Int} {w w' : World} {B : Nat} (h : boxC k a b f s v g pl st w) (hb : Below B w w') (hk : k < B) : boxC k a b f s v g pl st w' :=
  ⟨(hb.cell (p := ⟨k, 0, none⟩) hk).trans h.1, (hb.cell (p := ⟨k, 1, none⟩) hk).trans h.2.1, (hb.cell (p := ⟨k, 2, none⟩) hk).trans h.2.2.1, (hb.cell (p := ⟨k, 3, none⟩) hk).trans h.2.2.2.1, (hb.cell (p := ⟨k, 4, none⟩) hk).trans h.2.2.2.2.1,
   (hb.cell (p := ⟨k, 5, none⟩) hk).trans h.2.2.2.2.2.1, (hb.cell (p := ⟨k, 6, none⟩) hk).trans h.2.2.2.2.2.2.1, (hb.cell (p := ⟨k, 7, none⟩) hk).trans h.2.2.2.2.2.2.2⟩
theorem Q7G (w : World) (a b f s : Int) (v g : Value) (pl st : Int) (e : TypeId) : boxC w.heap.size a b f s v g pl st (w.alloc (.cells #[.int .i64 a, .int .i64 b, .int .i64 f, .int .i64 s, v, g, .int .i64 pl, .int .i64 st] e)) := by
  unfold boxC; simp
theorem Q5n (a b f s : Int) (o : Option Addr) (len cap : Nat) (w : World) :
    Calls Try.prog 74 #[pkt a b f s (.slice o len cap)] w fun e w' => e = .returned (.bool (Q1X f)) ∧ Below w.heap.size w w' := by
  have hB : Below w.heap.size w w := Below.refl _ _
  go_enter Try.func74, Try.ntmps74
  go_wp2
  go_ret
  exact ⟨rfl, by (repeat (first | with_reducible (first|exact hB|exact Below.refl _ _|refine Below.drew ?_|refine below_drewN ?_ _|refine Below.alloc ?_ ?_ _|refine Below.setCell ?_ ?_ _) | (focus (simp; first | done | omega)) | omega))⟩
end Go.Proofs.Ytljogkoaaidlcaa
