/- The program's ways: home, behind, far; what is scanned on a way. -/
import Derived.Test.YtiijecnhbioehaaShT
import Derived.Test.YtiijecnhbioehaaTableMath
import Derived.Test.YtiijecnhbioehaaSFlow
import Derived.RegionTactic
import Derived.RangeFuncNested
import Derived.RangeFuncBound
import Derived.RangeFuncCalls
import Derived.RangeFuncLeaves
import Derived.RangeFuncBox
import Derived.Shelf.Abstract
import Derived.Shelf.RegionOpen
import Derived.WalkKit
import Derived.OwnWalkIn
import Derived.TacticsInMore
import Derived.LoopNIn
import Derived.LoopIn
namespace Go.Proofs.Ytiijecnhbioehaa
open Go.ChangeShapes Go.WideShapes Go.ChangeAt Go.RowKit Go.Joins Go.Shelf
set_option linter.unusedVariables false
set_option linter.unusedSimpArgs false

attribute [local go_sem] Oper.semAt_some

abbrev flowV (a p : Int) : Value := .agg #[.int .i64 a, .int .i64 p]
set_option maxHeartbeats 400000 in
theorem home_any (o : Option Addr) (n c : Nat) (a p : Int) (w : World) (hn : 0 < n) (hl : n ≤ 1048576) (hf : flowOkB a p = true) :
    Calls Try.prog 74 #[tab (.slice o n c), flowV a p] w fun e w' => e = .returned (.int .i64 (homeN n a p)) ∧ Below w.heap.size w w' := by
  have hB : Below w.heap.size w w := Below.refl _ _
  have hh := homeN_tmod' hn hf
  have hlt := homeN_lt hn a p
  have h0 := flowOkB_iff.1 hf
  have hne : ¬ ((n : Int) = 0) := by omega
  have hne' : ((n : Int) == 0) = false := by simpa using hne
  obtain ⟨h1, h2, h3, h4⟩ := h0
  go_enter Try.func74, Try.ntmps74
  go_wp2
  go_ret
  exact ⟨rfl, by (repeat (first | with_reducible exact hB | with_reducible exact Below.refl _ _ | with_reducible refine Below.drew ?_ | with_reducible refine below_drewN ?_ _ | with_reducible refine Below.alloc ?_ ?_ _ | with_reducible refine Below.setCell ?_ ?_ _ | (focus (simp; done)) | (focus (simp; omega)) | omega))⟩

set_option maxHeartbeats 400000 in
theorem behind_any (o : Option Addr) (n c i : Nat) (w : World) (hn : 0 < n) (hl : n ≤ 1048576) (hi : i < n) :
    Calls Try.prog 112 #[tab (.slice o n c), .int .i64 i] w fun e w' => e = .returned (.int .i64 ((i + 1) % n : Nat)) ∧ Below w.heap.size w w' := by
  have hB : Below w.heap.size w w := Below.refl _ _
  have hh := next_tmod n i
  have hlt := next_lt hn i
  have hne' : ((n : Int) == 0) = false := beq_eq_false_iff_ne.2 (by omega)
  go_enter Try.func112, Try.ntmps112
  go_wp2
  go_ret
  exact ⟨rfl, by (repeat (first | with_reducible exact hB | with_reducible exact Below.refl _ _ | with_reducible refine Below.drew ?_ | with_reducible refine below_drewN ?_ _ | with_reducible refine Below.alloc ?_ ?_ _ | with_reducible refine Below.setCell ?_ ?_ _ | (focus (simp; done)) | (focus (simp; omega)) | omega))⟩

set_option maxHeartbeats 400000 in
theorem far_any (o : Option Addr) (n c i k : Nat) (w : World) (hl : n ≤ 1048576) (hi : i < n) (hk : k < n) :
    Calls Try.prog 113 #[tab (.slice o n c), .int .i64 i, .int .i64 k] w fun e w' => e = .returned (.int .i64 (farN n i k)) ∧ Below w.heap.size w w' := by
  have hB : Below w.heap.size w w := Below.refl _ _
  have hh := far_tmod hi hk
  have hne' : ((n : Int) == 0) = false := beq_eq_false_iff_ne.2 (by omega)
  go_enter Try.func113, Try.ntmps113
  go_wp2
  all_goals first | (go_ret; exact ⟨rfl, by (repeat (first | with_reducible exact hB | with_reducible exact Below.refl _ _ | with_reducible refine Below.drew ?_ | with_reducible refine below_drewN ?_ _ | with_reducible refine Below.alloc ?_ ?_ _ | with_reducible refine Below.setCell ?_ ?_ _ | (focus (simp; done)) | (focus (simp; omega)) | omega))⟩) | skip

/-- What is met on a way from h on. -/
abbrev Met := Nat × Sl
def metAt (l : List Sl) (h j : Nat) : Met := ((h + j) % l.length, l.getD ((h + j) % l.length) sl0)
def uptoM (f : Nat → Met) (k : Nat) : List Met := (List.range k).map f
theorem uptoM_succ (f : Nat → Met) (k : Nat) : uptoM f (k + 1) = uptoM f k ++ [f k] := by simp [uptoM, List.range_succ]
theorem uptoM_length (f : Nat → Met) (k : Nat) : (uptoM f k).length = k := by simp [uptoM]
theorem uptoM_cons (f : Nat → Met) (k : Nat) : uptoM f (k + 1) = f 0 :: uptoM (fun j => f (j + 1)) k := by
  simp [uptoM, List.range_succ_eq_map, Function.comp_def]
theorem uptoM_le (f : Nat → Met) {k m : Nat} (h : k ≤ m) : ∃ r, uptoM f m = uptoM f k ++ r := by
  obtain ⟨d, rfl⟩ := Nat.exists_eq_add_of_le h
  induction d with
  | zero => exact ⟨[], by simp⟩
  | succ d ih => obtain ⟨r, hr⟩ := ih (by omega); exact ⟨r ++ [f (k + d)], by rw [← Nat.add_assoc, uptoM_succ, hr, List.append_assoc]⟩
def scanX (a p : Int) (x : Met) : Option (Int × Bool) := if x.2.u = true then (if x.2.a = a ∧ x.2.p = p then some ((x.1 : Int), true) else none) else some ((x.1 : Int), false)
def scan (a p : Int) (l : List Met) : Option (Int × Bool) := l.findSome? (scanX a p)
theorem scan_snoc (a p : Int) (l : List Met) (x : Met) (h : scan a p l = none) : scan a p (l ++ [x]) = scanX a p x := by
  unfold scan at *
  rw [List.findSome?_append, h]; simp
theorem scan_more (a p : Int) (l r : List Met) {E : Int × Bool} (h : scan a p l = some E) : scan a p (l ++ r) = some E := by
  unfold scan at *
  rw [List.findSome?_append, h]; simp
theorem wayGo_scan (l : List Sl) (hn : 0 < l.length) (a p : Int) : ∀ (f i : Nat), i < l.length → wayGo l a p f i = (scan a p (uptoM (metAt l i) f)).getD (-1, false)
  | 0, i, _ => rfl
  | f + 1, i, hi => by
    have e0 : metAt l i 0 = (i, l.getD i sl0) := by simp [metAt, mod_small hi]
    have es : (fun j => metAt l i (j + 1)) = metAt l ((i + 1) % l.length) := by
      funext j
      unfold metAt
      rw [show (i + (j + 1)) % l.length = ((i + 1) % l.length + j) % l.length by rw [Nat.add_mod ((i + 1) % l.length), Nat.mod_mod, ← Nat.add_mod]; congr 1; omega]
    rw [uptoM_cons, e0, es]
    unfold scan
    rw [List.findSome?_cons]
    cases hu : (l.getD i sl0).u with
    | false => rw [wayGo_free hu, show scanX a p (i, l.getD i sl0) = some ((i : Int), false) by unfold scanX; rw [if_neg (by rw [hu]; decide)]]; rfl
    | true =>
      by_cases h : (l.getD i sl0).a = a ∧ (l.getD i sl0).p = p
      · rw [wayGo_own hu h.1 h.2, show scanX a p (i, l.getD i sl0) = some ((i : Int), true) by unfold scanX; rw [if_pos hu, if_pos h]]; rfl
      · rw [wayGo_next hu h, show scanX a p (i, l.getD i sl0) = none by unfold scanX; rw [if_pos hu, if_neg h]]
        exact wayGo_scan l hn a p f _ (next_lt hn i)
theorem endL_none {l : List Sl} (hn : 0 < l.length) {a p : Int} (h : scan a p (uptoM (metAt l (homeN l.length a p)) l.length) = none) : endL l a p = (-1, false) := by
  unfold endL; rw [wayGo_scan l hn a p _ _ (homeN_lt hn a p), h]; rfl
theorem endL_some {l : List Sl} (hn : 0 < l.length) {a p : Int} {k : Nat} {E : Int × Bool} (hk : k ≤ l.length) (h : scan a p (uptoM (metAt l (homeN l.length a p)) k) = some E) : endL l a p = E := by
  obtain ⟨r, hr⟩ := uptoM_le (metAt l (homeN l.length a p)) hk
  unfold endL; rw [wayGo_scan l hn a p _ _ (homeN_lt hn a p), hr, scan_more _ _ _ r h]; rfl

end Go.Proofs.Ytiijecnhbioehaa
