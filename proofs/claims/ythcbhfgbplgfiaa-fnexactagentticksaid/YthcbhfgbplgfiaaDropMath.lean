/- What comes nearer: the loop's invariant, as the model has it. -/
import Derived.Test.YthcbhfgbplgfiaaSPut2
namespace Go.Proofs.Ythcbhfgbplgfiaa
open Go.ChangeShapes Go.WideShapes Go.ChangeAt Go.RowKit Go.Joins
set_option linter.unusedVariables false
set_option linter.unusedSimpArgs false

theorem Stp.drew {lo hi : Nat} {w w' : World} (h : Stp lo hi w w') : Stp lo hi w w'.drew := ⟨h.os, h.tape, h.output, h.size, h.block⟩
/-- Whoever is there has a flow that may be. -/
def flowsOk (m : List Sl) : Prop := ∀ j, j < m.length → (m.getD j sl0).u = true → flowOkB (m.getD j sl0).a (m.getD j sl0).p = true
theorem flowsOk_of {l : List Sl} (h : tableOkB l = true) : flowsOk l := fun j hj hu => by
  have ht := (tableOkB_iff.1 h).2.2 j hj
  unfold tabAt at ht
  exact ((slotB_used hu).1 ((Bool.and_eq_true _ _).mp ht).1).1
theorem flowsOk_set {m : List Sl} (h : flowsOk m) (i : Nat) (s : Sl) (hs : s.u = true → flowOkB s.a s.p = true) : flowsOk (m.set i s) := fun j hj hu => by
  rw [List.length_set] at hj
  by_cases e : i = j
  · subst e
    rw [getD_set_self _ _ _ hj] at hu ⊢
    exact hs hu
  · rw [getD_set_ne _ _ _ _ e] at hu ⊢
    exact h j hj hu
structure DropInv (n : Nat) (R : List Sl) (g : Nat) (m : List Sl) (i k : Nat) : Prop where
  len : m.length = n
  le : n ≤ 16
  hi : i < n
  hk : k < n
  free : (m.getD i sl0).u = false
  ok : flowsOk m
  go : dropGo n (g + 1) m i k = R
  ms : meas m i k ≤ g
theorem DropInv.done {n g i k : Nat} {R m : List Sl} (h : DropInv n R g m i k) (hu : (m.getD k sl0).u = false) : m = R := by
  rw [← h.go, dropGo_end hu]
theorem DropInv.move {n g i k : Nat} {R m : List Sl} (h : DropInv n R g m i k) (hu : (m.getD k sl0).u = true) (hm : moves n m i k = true) : 1 ≤ g ∧ DropInv n R (g - 1) ((m.set i (m.getD k sl0)).set k sl0) k ((k + 1) % n) := by
  obtain ⟨hlen, hle, hi, hk, hfree, hok, hgo, hms⟩ := h
  subst hlen
  have hd := meas_move hle hi hk hfree hu hm
  have hg : 1 ≤ g := by omega
  refine ⟨hg, by simp, hle, hk, next_lt (by omega) k, ?_, ?_, ?_, ?_⟩
  · rw [getD_set_self _ _ _ (by simpa using hk)]
  · exact flowsOk_set (flowsOk_set hok i _ (fun hq => hok k hk hq)) k _ (fun hq => by cases hq)
  · rw [← hgo, dropGo_move hu hm, show g - 1 + 1 = g by omega]
  · omega
theorem DropInv.stay {n g i k : Nat} {R m : List Sl} (h : DropInv n R g m i k) (hu : (m.getD k sl0).u = true) (hm : moves n m i k = false) : 1 ≤ g ∧ DropInv n R (g - 1) m i ((k + 1) % n) := by
  obtain ⟨hlen, hle, hi, hk, hfree, hok, hgo, hms⟩ := h
  subst hlen
  have hne : k ≠ i := fun e => by rw [e, hfree] at hu; cases hu
  have hd := meas_stay hi hk hne
  have hg : 1 ≤ g := by omega
  refine ⟨hg, rfl, hle, hi, next_lt (by omega) k, hfree, hok, ?_, by omega⟩
  rw [← hgo, dropGo_stay hu hm, show g - 1 + 1 = g by omega]
theorem DropInv.start {l : List Sl} {i : Nat} (hle : l.length ≤ 16) (hi : i < l.length) (hok : flowsOk l) : DropInv l.length (dropAtL l i) (meas (l.set i sl0) i ((i + 1) % l.length)) (l.set i sl0) i ((i + 1) % l.length) :=
  ⟨by simp, hle, hi, next_lt (by omega) i, by rw [getD_set_self _ _ _ hi], flowsOk_set hok i _ (fun h => by cases h), rfl, Nat.le_refl _⟩
theorem moves_iff {n i k : Nat} {m : List Sl} : moves n m i k = true ↔ farN n i k ≤ farN n (homeN n (m.getD k sl0).a (m.getD k sl0).p) k := by simp [moves]
theorem dropGo_length (n : Nat) : ∀ (f : Nat) (l : List Sl) (i k : Nat), (dropGo n f l i k).length = l.length
  | 0, l, i, k => rfl
  | f + 1, l, i, k => by
    unfold dropGo
    split
    · split
      · rw [dropGo_length n f]; simp
      · rw [dropGo_length n f]
    · rfl
theorem dropAtL_length (l : List Sl) (i : Nat) : (dropAtL l i).length = l.length := by unfold dropAtL; rw [dropGo_length]; simp
/-- What is dropped. -/
def dropL (l : List Sl) (a p : Int) : List Sl := if (endL l a p).2 = true then dropAtL l (endL l a p).1.toNat else l
theorem dropL_length (l : List Sl) (a p : Int) : (dropL l a p).length = l.length := by
  unfold dropL
  split
  · exact dropAtL_length _ _
  · rfl
theorem dropL_no {l : List Sl} {a p : Int} (h : (endL l a p).2 = false) : dropL l a p = l := by unfold dropL; rw [h]; rfl
theorem dropL_yes {l : List Sl} {a p : Int} {k : Nat} (h : endL l a p = ((k : Int), true)) : dropL l a p = dropAtL l k := by unfold dropL; rw [h]; simp

end Go.Proofs.Ythcbhfgbplgfiaa
