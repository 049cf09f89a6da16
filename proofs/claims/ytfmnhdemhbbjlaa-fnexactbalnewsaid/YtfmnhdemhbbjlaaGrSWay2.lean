/- Several texts in one: SWay, SWay2. -/
import Derived.Test.YtfmnhdemhbbjlaaGrShBal
import Derived.Test.YtfmnhdemhbbjlaaGrTableMath
import Derived.Test.YtfmnhdemhbbjlaaGrSFlow
import Derived.RegionTactic
import Derived.RangeFuncNested
import Derived.RangeFuncBound
import Derived.RangeFuncCalls
import Derived.RangeFuncLeaves
import Derived.RangeFuncBox
import Derived.Shelf.Abstract
import Derived.Shelf.RegionOpen
import Derived.WalkKit
import Derived.OwnWalkIn
import Derived.TacticsInMore
import Derived.LoopNIn
import Derived.LoopIn
/- The program's ways: home, behind, far; what is scanned on a way. -/
namespace Go.Proofs.Ytfmnhdemhbbjlaa
open Go.ChangeShapes Go.WideShapes Go.ChangeAt Go.RowKit Go.Joins Go.Shelf
set_option linter.unusedVariables false
set_option linter.unusedSimpArgs false

attribute [local go_sem] Oper.semAt_some

abbrev flowV (a p : Int) : Value := .agg #[.int .i64 a, .int .i64 p]
/-- What is met on a way from h on. -/
abbrev Met := Nat × Sl
def metAt (l : List Sl) (h j : Nat) : Met := ((h + j) % l.length, l.getD ((h + j) % l.length) sl0)
def uptoM (f : Nat → Met) (k : Nat) : List Met := (List.range k).map f
theorem uptoM_succ (f : Nat → Met) (k : Nat) : uptoM f (k + 1) = uptoM f k ++ [f k] := by simp [uptoM, List.range_succ]
theorem uptoM_length (f : Nat → Met) (k : Nat) : (uptoM f k).length = k := by simp [uptoM]
theorem uptoM_cons (f : Nat → Met) (k : Nat) : uptoM f (k + 1) = f 0 :: uptoM (fun j => f (j + 1)) k := by
  simp [uptoM, List.range_succ_eq_map, Function.comp_def]
theorem uptoM_le (f : Nat → Met) {k m : Nat} (h : k ≤ m) : ∃ r, uptoM f m = uptoM f k ++ r := by
  obtain ⟨d, rfl⟩ := Nat.exists_eq_add_of_le h
  induction d with
  | zero => exact ⟨[], by simp⟩
  | succ d ih => obtain ⟨r, hr⟩ := ih (by omega); exact ⟨r ++ [f (k + d)], by rw [← Nat.add_assoc, uptoM_succ, hr, List.append_assoc]⟩
def scanX (a p : Int) (x : Met) : Option (Int × Bool) := if x.2.u = true then (if x.2.a = a ∧ x.2.p = p then some ((x.1 : Int), true) else none) else some ((x.1 : Int), false)
def scan (a p : Int) (l : List Met) : Option (Int × Bool) := l.findSome? (scanX a p)
theorem scan_snoc (a p : Int) (l : List Met) (x : Met) (h : scan a p l = none) : scan a p (l ++ [x]) = scanX a p x := by
  unfold scan at *
  rw [List.findSome?_append, h]; simp
theorem scan_more (a p : Int) (l r : List Met) {E : Int × Bool} (h : scan a p l = some E) : scan a p (l ++ r) = some E := by
  unfold scan at *
  rw [List.findSome?_append, h]; simp
theorem wayGo_scan (l : List Sl) (hn : 0 < l.length) (a p : Int) : ∀ (f i : Nat), i < l.length → wayGo l a p f i = (scan a p (uptoM (metAt l i) f)).getD (-1, false)
  | 0, i, _ => rfl
  | f + 1, i, hi => by
    have e0 : metAt l i 0 = (i, l.getD i sl0) := by simp [metAt, mod_small hi]
    have es : (fun j => metAt l i (j + 1)) = metAt l ((i + 1) % l.length) := by
      funext j
      unfold metAt
      rw [show (i + (j + 1)) % l.length = ((i + 1) % l.length + j) % l.length by rw [Nat.add_mod ((i + 1) % l.length), Nat.mod_mod, ← Nat.add_mod]; congr 1; omega]
    rw [uptoM_cons, e0, es]
    unfold scan
    rw [List.findSome?_cons]
    cases hu : (l.getD i sl0).u with
    | false => rw [wayGo_free hu, show scanX a p (i, l.getD i sl0) = some ((i : Int), false) by unfold scanX; rw [if_neg (by rw [hu]; decide)]]; rfl
    | true =>
      by_cases h : (l.getD i sl0).a = a ∧ (l.getD i sl0).p = p
      · rw [wayGo_own hu h.1 h.2, show scanX a p (i, l.getD i sl0) = some ((i : Int), true) by unfold scanX; rw [if_pos hu, if_pos h]]; rfl
      · rw [wayGo_next hu h, show scanX a p (i, l.getD i sl0) = none by unfold scanX; rw [if_pos hu, if_neg h]]
        exact wayGo_scan l hn a p f _ (next_lt hn i)
theorem endL_none {l : List Sl} (hn : 0 < l.length) {a p : Int} (h : scan a p (uptoM (metAt l (homeN l.length a p)) l.length) = none) : endL l a p = (-1, false) := by
  unfold endL; rw [wayGo_scan l hn a p _ _ (homeN_lt hn a p), h]; rfl
theorem endL_some {l : List Sl} (hn : 0 < l.length) {a p : Int} {k : Nat} {E : Int × Bool} (hk : k ≤ l.length) (h : scan a p (uptoM (metAt l (homeN l.length a p)) k) = some E) : endL l a p = E := by
  obtain ⟨r, hr⟩ := uptoM_le (metAt l (homeN l.length a p)) hk
  unfold endL; rw [wayGo_scan l hn a p _ _ (homeN_lt hn a p), hr, scan_more _ _ _ r h]; rfl

end Go.Proofs.Ytfmnhdemhbbjlaa

/- The program's ways, ranged over by a function: the contract of what wayOf hands back. -/
namespace Go.Proofs.Ytfmnhdemhbbjlaa
open Go.ChangeShapes Go.WideShapes Go.ChangeAt Go.RowKit Go.Joins Go.Shelf
set_option linter.unusedVariables false
set_option linter.unusedSimpArgs false

attribute [local go_sem] Oper.semAt_some

/-- What a round keeps: all that lay below n₀, and block Bs. -/
def KpW (n₀ Bs : Nat) (W W' : World) : Prop := Below n₀ W W' ∧ W'.heap[Bs]? = W.heap[Bs]?
theorem KpW.trans {n₀ Bs : Nat} {A B C : World} (h : KpW n₀ Bs A B) (k : KpW n₀ Bs B C) : KpW n₀ Bs A C := ⟨h.1.trans k.1, k.2.trans h.2⟩
theorem cell_of_blockW {W W' : World} {B o : Nat} (h : W'.heap[B]? = W.heap[B]?) : W'.cell? ⟨B, o, none⟩ = W.cell? ⟨B, o, none⟩ := by simp [World.cell?, h]
theorem grown_of_below {W W' : World} (h : Below W.heap.size W W') : W.grownBy W' none := ⟨h.os, h.tape, h.output, h.size, fun k hk _ => h.block k hk⟩

theorem step_mod (h k n : Nat) : (h + (k + 1)) % n = ((h + k) % n + 1) % n := by rw [Nat.mod_add_mod, Nat.add_assoc]
theorem metAt_eq (l : List Sl) (h k : Nat) : metAt l h k = ((h + k) % l.length, l.getD ((h + k) % l.length) sl0) := rfl

end Go.Proofs.Ytfmnhdemhbbjlaa

