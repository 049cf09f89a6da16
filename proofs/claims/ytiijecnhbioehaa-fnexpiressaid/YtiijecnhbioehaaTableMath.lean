/- Tables, as the model has them: ways, homes, what is put, dropped, due; no program. -/
import Derived.Test.YtiijecnhbioehaaLSlot
namespace Go.Proofs.Ytiijecnhbioehaa
open Go.ChangeShapes Go.WideShapes Go.ChangeAt Go.RowKit Go.Joins
set_option linter.unusedVariables false
set_option linter.unusedSimpArgs false

/-- Where a flow belongs. -/
def homeN (n : Nat) (a p : Int) : Nat := ((a * 31 + p) % (n : Int)).toNat
theorem homeN_lt {n : Nat} (hn : 0 < n) (a p : Int) : homeN n a p < n := by
  unfold homeN
  have h1 := Int.emod_nonneg (a * 31 + p) (show (n : Int) ≠ 0 by omega)
  have h2 := Int.emod_lt_of_pos (a * 31 + p) (show (0 : Int) < n by omega)
  omega
theorem homeN_cast {n : Nat} (hn : 0 < n) (a p : Int) : ((homeN n a p : Nat) : Int) = (a * 31 + p) % (n : Int) := by
  unfold homeN
  have h1 := Int.emod_nonneg (a * 31 + p) (show (n : Int) ≠ 0 by omega)
  omega
theorem homeN_tmod {n : Nat} (hn : 0 < n) {a p : Int} (h : flowOkB a p = true) : (a * 31 + p).tmod (n : Int) = ((homeN n a p : Nat) : Int) := by
  rw [homeN_cast hn, Int.tmod_eq_emod_of_nonneg]
  have := flowOkB_iff.1 h
  omega
theorem homeN_tmod' {n : Nat} (hn : 0 < n) {a p : Int} (h : flowOkB a p = true) : (31 * a + p).tmod (n : Int) = ((homeN n a p : Nat) : Int) := by
  rw [Int.mul_comm]; exact homeN_tmod hn h
theorem next_tmod (n i : Nat) : ((i : Int) + 1).tmod (n : Int) = (((i + 1) % n : Nat) : Int) := by
  rw [Int.tmod_eq_emod_of_nonneg (by omega)]; simp
/-- How far it is from one slot to another, going up. -/
def farN (n i k : Nat) : Nat := (k + n - i) % n
theorem far_tmod {n i k : Nat} (hi : i < n) (hk : k < n) : ((k : Int) - (i : Int) + (n : Int)).tmod (n : Int) = ((farN n i k : Nat) : Int) := by
  rw [Int.tmod_eq_emod_of_nonneg (by omega), show (k : Int) - i + n = ((k + n - i : Nat) : Int) by omega]; simp [farN]
theorem next_lt {n : Nat} (hn : 0 < n) (i : Nat) : (i + 1) % n < n := Nat.mod_lt _ hn

/-- The way of a flow from slot i on, so many slots at most: where it ends, and whether that is its own. -/
def wayGo (l : List Sl) (a p : Int) : Nat → Nat → Int × Bool
  | 0, _ => (-1, false)
  | f + 1, i => if (l.getD i sl0).u = true then (if (l.getD i sl0).a = a ∧ (l.getD i sl0).p = p then ((i : Int), true) else wayGo l a p f ((i + 1) % l.length)) else ((i : Int), false)
def endL (l : List Sl) (a p : Int) : Int × Bool := wayGo l a p l.length (homeN l.length a p)
theorem wayGo_free {l : List Sl} {a p : Int} {f i : Nat} (h : (l.getD i sl0).u = false) : wayGo l a p (f + 1) i = ((i : Int), false) := by simp only [wayGo, h]; simp
theorem wayGo_own {l : List Sl} {a p : Int} {f i : Nat} (h : (l.getD i sl0).u = true) (h1 : (l.getD i sl0).a = a) (h2 : (l.getD i sl0).p = p) : wayGo l a p (f + 1) i = ((i : Int), true) := by simp only [wayGo, h, h1, h2]; simp
theorem wayGo_next {l : List Sl} {a p : Int} {f i : Nat} (h : (l.getD i sl0).u = true) (h1 : ¬ ((l.getD i sl0).a = a ∧ (l.getD i sl0).p = p)) : wayGo l a p (f + 1) i = wayGo l a p f ((i + 1) % l.length) := by simp only [wayGo, h, h1]; simp
/-- Where a way ends: nowhere, at a slot that is free, or at its own. -/
theorem wayGo_cases (l : List Sl) (hn : 0 < l.length) (a p : Int) : ∀ (f i : Nat), i < l.length → wayGo l a p f i = (-1, false) ∨ ∃ k, k < l.length ∧ ((wayGo l a p f i = ((k : Int), false) ∧ (l.getD k sl0).u = false) ∨ (wayGo l a p f i = ((k : Int), true) ∧ (l.getD k sl0).u = true ∧ (l.getD k sl0).a = a ∧ (l.getD k sl0).p = p))
  | 0, i, _ => .inl rfl
  | f + 1, i, hi => by
    cases hu : (l.getD i sl0).u with
    | false => exact .inr ⟨i, hi, .inl ⟨wayGo_free hu, hu⟩⟩
    | true =>
      by_cases h : (l.getD i sl0).a = a ∧ (l.getD i sl0).p = p
      · exact .inr ⟨i, hi, .inr ⟨wayGo_own hu h.1 h.2, hu, h.1, h.2⟩⟩
      · rw [wayGo_next hu h]
        exact wayGo_cases l hn a p f _ (next_lt hn i)
theorem endL_cases (l : List Sl) (hn : 0 < l.length) (a p : Int) : endL l a p = (-1, false) ∨ ∃ k, k < l.length ∧ ((endL l a p = ((k : Int), false) ∧ (l.getD k sl0).u = false) ∨ (endL l a p = ((k : Int), true) ∧ (l.getD k sl0).u = true ∧ (l.getD k sl0).a = a ∧ (l.getD k sl0).p = p)) :=
  wayGo_cases l hn a p _ _ (homeN_lt hn a p)

/-- A slot that may be. -/
def slotB (s : Sl) : Bool := if s.u = true then flowOkB s.a s.p && decide (0 ≤ s.v) && decide (s.v ≤ 100000) && decide (0 ≤ s.t) && decide (s.t ≤ 200000) else decide (s.a = 0) && decide (s.p = 0) && decide (s.v = 0) && decide (s.t = 0)
theorem slotB_used {s : Sl} (h : s.u = true) : slotB s = true ↔ flowOkB s.a s.p = true ∧ 0 ≤ s.v ∧ s.v ≤ 100000 ∧ 0 ≤ s.t ∧ s.t ≤ 200000 := by simp [slotB, h, and_assoc]
theorem slotB_free {s : Sl} (h : s.u = false) : slotB s = true ↔ s = sl0 := by
  obtain ⟨u, a, p, v, t⟩ := s
  simp at h; subst h
  simp [slotB, and_assoc]
/-- Whoever stands at i is got there. -/
def wayB (l : List Sl) (i : Nat) : Bool := !(l.getD i sl0).u || (endL l (l.getD i sl0).a (l.getD i sl0).p == ((i : Int), true))
def tabAt (l : List Sl) (i : Nat) : Bool := slotB (l.getD i sl0) && wayB l i
def tableOkB (l : List Sl) : Bool := decide (1 ≤ l.length) && decide (l.length ≤ 16) && (List.range l.length).all (tabAt l)
theorem tableOkB_iff {l : List Sl} : tableOkB l = true ↔ 1 ≤ l.length ∧ l.length ≤ 16 ∧ ∀ i, i < l.length → tabAt l i = true := by simp [tableOkB, and_assoc]
theorem tableOkB_yes {l : List Sl} (h1 : 1 ≤ l.length) (h2 : l.length ≤ 16) (h : ∀ i, i < l.length → tabAt l i = true) : true = tableOkB l := (tableOkB_iff.2 ⟨h1, h2, h⟩).symm
theorem tableOkB_no {l : List Sl} {i : Nat} (hi : i < l.length) (h : tabAt l i = false) : false = tableOkB l := by
  cases hb : tableOkB l with
  | false => rfl
  | true => rw [(tableOkB_iff.1 hb).2.2 i hi] at h; cases h
theorem tableOkB_len {l : List Sl} (h : ¬ (1 ≤ l.length ∧ l.length ≤ 16)) : false = tableOkB l := by
  cases hb : tableOkB l with
  | false => rfl
  | true => exact absurd ⟨(tableOkB_iff.1 hb).1, (tableOkB_iff.1 hb).2.1⟩ h
theorem tabAt_slot {l : List Sl} {i : Nat} (h : slotB (l.getD i sl0) = false) : tabAt l i = false := by unfold tabAt; rw [h]; rfl
theorem tabAt_way {l : List Sl} {i : Nat} (hu : (l.getD i sl0).u = true) (h : endL l (l.getD i sl0).a (l.getD i sl0).p ≠ ((i : Int), true)) : tabAt l i = false := by unfold tabAt wayB; rw [hu, beq_eq_false_iff_ne.2 h]; cases slotB (l.getD i sl0) <;> rfl
theorem tabAt_free {l : List Sl} {i : Nat} (hu : (l.getD i sl0).u = false) (h : slotB (l.getD i sl0) = true) : tabAt l i = true := by unfold tabAt wayB; rw [hu, h]; rfl
theorem tabAt_used {l : List Sl} {i : Nat} (h : slotB (l.getD i sl0) = true) (h' : endL l (l.getD i sl0).a (l.getD i sl0).p = ((i : Int), true)) : tabAt l i = true := by unfold tabAt wayB; rw [h, h']; cases (l.getD i sl0).u <;> simp
/-- All up to k may be, ways and all. -/
def tabTo (l : List Sl) (k : Nat) : Prop := ∀ i, i < k → tabAt l i = true
theorem tabTo_succ {l : List Sl} {k : Nat} (h : tabTo l k) (hk : tabAt l k = true) : tabTo l (k + 1) := fun i hi => by
  rcases Nat.lt_succ_iff_lt_or_eq.1 hi with h1 | h1
  · exact h i h1
  · rw [h1]; exact hk
/-- All up to k may be, but for their ways. -/
def slotTo (l : List Sl) (k : Nat) : Prop := ∀ i, i < k → slotB (l.getD i sl0) = true
theorem slotTo_succ {l : List Sl} {k : Nat} (h : slotTo l k) (hk : slotB (l.getD k sl0) = true) : slotTo l (k + 1) := fun i hi => by
  rcases Nat.lt_succ_iff_lt_or_eq.1 hi with h1 | h1
  · exact h i h1
  · rw [h1]; exact hk

/-- What is put. -/
def putL (l : List Sl) (a p v t : Int) : List Sl := if 0 ≤ (endL l a p).1 then l.set (endL l a p).1.toNat ⟨true, a, p, v, t⟩ else l
theorem putL_length (l : List Sl) (a p v t : Int) : (putL l a p v t).length = l.length := by unfold putL; split <;> simp
def getL (l : List Sl) (a p : Int) : Sl := if (endL l a p).2 = true then l.getD (endL l a p).1.toNat sl0 else sl0

/-- How far all stand from their homes. -/
def sumTo : Nat → (Nat → Nat) → Nat
  | 0, _ => 0
  | n + 1, f => sumTo n f + f n
theorem sumTo_same : ∀ (n : Nat) {f g : Nat → Nat}, (∀ x, x < n → f x = g x) → sumTo n f = sumTo n g
  | 0, _, _, _ => rfl
  | n + 1, f, g, h => by simp only [sumTo]; rw [sumTo_same n (fun x hx => h x (by omega)), h n (by omega)]
theorem sumTo_upd : ∀ (n : Nat) {f g : Nat → Nat} {j : Nat}, j < n → (∀ x, x ≠ j → f x = g x) → sumTo n f + g j = sumTo n g + f j
  | 0, _, _, _, h, _ => absurd h (Nat.not_lt_zero _)
  | n + 1, f, g, j, h, he => by
    simp only [sumTo]
    by_cases e : j = n
    · subst e
      rw [sumTo_same j (fun x hx => he x (by omega))]; omega
    · have := sumTo_upd n (show j < n by omega) he
      rw [he n (fun e' => e e'.symm)]; omega
def wt (n : Nat) (l : List Sl) (j : Nat) : Nat := if (l.getD j sl0).u = true then farN n (homeN n (l.getD j sl0).a (l.getD j sl0).p) j else 0
def phi (l : List Sl) : Nat := sumTo l.length (wt l.length l)
def meas (l : List Sl) (i k : Nat) : Nat := phi l * 17 + farN l.length k i

def moves (n : Nat) (l : List Sl) (i k : Nat) : Bool := decide (farN n i k ≤ farN n (homeN n (l.getD k sl0).a (l.getD k sl0).p) k)
/-- What comes nearer, slot by slot: the hole is at i, k is looked at. -/
def dropGo (n : Nat) : Nat → List Sl → Nat → Nat → List Sl
  | 0, l, _, _ => l
  | f + 1, l, i, k => if (l.getD k sl0).u = true then (if moves n l i k = true then dropGo n f ((l.set i (l.getD k sl0)).set k sl0) k ((k + 1) % n) else dropGo n f l i ((k + 1) % n)) else l
def dropAtL (l : List Sl) (i : Nat) : List Sl := dropGo l.length (meas (l.set i sl0) i ((i + 1) % l.length) + 1) (l.set i sl0) i ((i + 1) % l.length)
theorem dropGo_end {n f i k : Nat} {l : List Sl} (h : (l.getD k sl0).u = false) : dropGo n (f + 1) l i k = l := by simp only [dropGo, h]; simp
theorem dropGo_move {n f i k : Nat} {l : List Sl} (h : (l.getD k sl0).u = true) (hm : moves n l i k = true) : dropGo n (f + 1) l i k = dropGo n f ((l.set i (l.getD k sl0)).set k sl0) k ((k + 1) % n) := by simp only [dropGo, h, hm]; simp
theorem dropGo_stay {n f i k : Nat} {l : List Sl} (h : (l.getD k sl0).u = true) (hm : moves n l i k = false) : dropGo n (f + 1) l i k = dropGo n f l i ((k + 1) % n) := by simp only [dropGo, h, hm]; simp
theorem getD_set_self (l : List Sl) (i : Nat) (s : Sl) (h : i < l.length) : (l.set i s).getD i sl0 = s := by simp [h]
theorem getD_set_ne (l : List Sl) (i j : Nat) (s : Sl) (h : i ≠ j) : (l.set i s).getD j sl0 = l.getD j sl0 := by
  simp [List.getElem?_set, h]
theorem mod_small {a n : Nat} (h : a < n) : a % n = a := Nat.mod_eq_of_lt h
theorem mod_wrap {a n : Nat} (h1 : n ≤ a) (h2 : a < n + n) : a % n = a - n := by rw [Nat.mod_eq_sub_mod h1, Nat.mod_eq_of_lt (by omega)]
theorem farN_eq {n i k : Nat} (hi : i < n) (hk : k < n) : farN n i k = if i ≤ k then k - i else k + n - i := by
  unfold farN
  by_cases h : i ≤ k
  · rw [if_pos h, mod_wrap (by omega) (by omega)]; omega
  · rw [if_neg h, mod_small (by omega)]
theorem next_eq {n k : Nat} (hk : k < n) : (k + 1) % n = if k + 1 = n then 0 else k + 1 := by
  by_cases h : k + 1 = n
  · rw [if_pos h, h, Nat.mod_self]
  · rw [if_neg h, mod_small (by omega)]
theorem meas_stay {l : List Sl} {i k : Nat} (hi : i < l.length) (hk : k < l.length) (hne : k ≠ i) : meas l i ((k + 1) % l.length) < meas l i k := by
  unfold meas
  have h1 := next_lt (n := l.length) (by omega) k
  rw [farN_eq h1 hi, farN_eq hk hi, next_eq hk]
  split <;> (repeat' split) <;> omega
theorem meas_move {l : List Sl} {i k : Nat} (hl : l.length ≤ 16) (hi : i < l.length) (hk : k < l.length) (hfree : (l.getD i sl0).u = false) (hu : (l.getD k sl0).u = true) (hm : moves l.length l i k = true) :
    meas ((l.set i (l.getD k sl0)).set k sl0) k ((k + 1) % l.length) < meas l i k := by
  have hne : i ≠ k := fun e => by rw [e, hu] at hfree; cases hfree
  unfold meas phi
  rw [show ((l.set i (l.getD k sl0)).set k sl0).length = l.length by simp]
  have e1 := sumTo_upd l.length (f := wt l.length ((l.set i (l.getD k sl0)).set k sl0)) (g := wt l.length (l.set i (l.getD k sl0))) hk (fun x hx => by unfold wt; rw [getD_set_ne _ k x _ (fun e => hx e.symm)])
  have e2 := sumTo_upd l.length (f := wt l.length (l.set i (l.getD k sl0))) (g := wt l.length l) hi (fun x hx => by unfold wt; rw [getD_set_ne _ i x _ (fun e => hx e.symm)])
  have w1 : wt l.length ((l.set i (l.getD k sl0)).set k sl0) k = 0 := by unfold wt; rw [getD_set_self _ _ _ (by simpa using hk)]; rfl
  have w2 : wt l.length (l.set i (l.getD k sl0)) k = farN l.length (homeN l.length (l.getD k sl0).a (l.getD k sl0).p) k := by unfold wt; rw [getD_set_ne _ i k _ hne, hu]; rfl
  have w3 : wt l.length (l.set i (l.getD k sl0)) i = farN l.length (homeN l.length (l.getD k sl0).a (l.getD k sl0).p) i := by unfold wt; rw [getD_set_self _ _ _ hi, hu]; rfl
  have w4 : wt l.length l i = 0 := by unfold wt; rw [hfree]; rfl
  rw [w1, w2] at e1
  rw [w3, w4] at e2
  have hh := homeN_lt (show 0 < l.length by omega) (l.getD k sl0).a (l.getD k sl0).p
  have hmv : farN l.length i k ≤ farN l.length (homeN l.length (l.getD k sl0).a (l.getD k sl0).p) k := by simpa [moves] using hm
  generalize homeN l.length (l.getD k sl0).a (l.getD k sl0).p = h at *
  have h1 := next_lt (n := l.length) (by omega) k
  have hd : farN l.length h i + 1 ≤ farN l.length h k := by
    rw [farN_eq hi hk, farN_eq hh hk] at hmv
    rw [farN_eq hh hi, farN_eq hh hk]
    (repeat' split at hmv) <;> (repeat' split) <;> omega
  have hf : farN l.length ((k + 1) % l.length) k < 16 := by
    have : farN l.length ((k + 1) % l.length) k < l.length := Nat.mod_lt _ (by omega)
    omega
  omega

end Go.Proofs.Ytiijecnhbioehaa
