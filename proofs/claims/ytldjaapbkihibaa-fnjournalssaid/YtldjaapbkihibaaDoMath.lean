/- The model's way through those who serve, one by one, comes to what the command makes of them. -/
import Derived.Test.YtldjaapbkihibaaJMath
namespace Go.Proofs.Ytldjaapbkihibaa
open Go.ChangeShapes Go.WideShapes Go.ChangeAt Go.RowKit Go.Joins
set_option linter.unusedVariables false
set_option linter.unusedSimpArgs false

/-- What the model makes of the t-th one. -/
def stepM (k i g fi : Int) (s : List Bk × Bool) (t : Nat) (b : Bk) : List Bk × Bool :=
  if (t : Int) = fi then (if k = 3 then (if s.2 = false ∧ i < b.1 then (s.1 ++ [(i, g, false)], true) else s) else if k = 1 then ((if s.2 = false ∧ i < b.1 then (s.1 ++ [(i, g, false)], true) else s).1 ++ [(b.1, g, b.2.2)], (if s.2 = false ∧ i < b.1 then (s.1 ++ [(i, g, false)], true) else s).2) else ((if s.2 = false ∧ i < b.1 then (s.1 ++ [(i, g, false)], true) else s).1 ++ [(b.1, b.2.1, true)], (if s.2 = false ∧ i < b.1 then (s.1 ++ [(i, g, false)], true) else s).2))
  else ((if s.2 = false ∧ i < b.1 then (s.1 ++ [(i, g, false)], true) else s).1 ++ [b], (if s.2 = false ∧ i < b.1 then (s.1 ++ [(i, g, false)], true) else s).2)
def runM (l : List Bk) (k i g fi : Int) : Nat → List Bk × Bool
  | 0 => ([], !(k == 0))
  | t + 1 => stepM k i g fi (runM l k i g fi t) t (l.getD t (0, 0, false))
def endM (s : List Bk × Bool) (i g : Int) : List Bk := if s.2 = true then s.1 else s.1 ++ [(i, g, false)]
theorem take_snoc {l : List Bk} {t : Nat} (h : t < l.length) : l.take (t + 1) = l.take t ++ [l.getD t (0, 0, false)] := takeL_succ layK l t h
theorem takeDrop_snoc {l : List Bk} {t n : Nat} (h : t < l.length) (hn : n ≤ t) : (l.take (t + 1)).drop n = (l.take t).drop n ++ [l.getD t (0, 0, false)] := by
  rw [take_snoc h, List.drop_append_of_le_length (by simp; omega)]
theorem run_add {l : List Bk} {i g : Int} (hl : backsOkB l = true) (hn : thereB l i = false) : ∀ t, t ≤ l.length → runM l 0 i g (-1) t = if t ≤ placeN l i then (l.take t, false) else (l.take (placeN l i) ++ (i, g, false) :: (l.take t).drop (placeN l i), true)
  | 0, _ => by simp [runM]
  | t + 1, ht => by
    have ih := run_add (g := g) hl hn t (by omega)
    have hlt : t < l.length := by omega
    have hneg : ¬ ((t : Int) = -1) := by omega
    have hda := drop_above (backsOk_pw.1 hl).1 hn
    unfold runM
    rw [ih]
    unfold stepM
    rw [if_neg hneg]
    rcases Nat.lt_trichotomy t (placeN l i) with h | h | h
    · have hb := placeN_lt l i t h
      have hA : t ≤ placeN l i := by omega
      have hB : t + 1 ≤ placeN l i := by omega
      have hC : ¬ i < (l.getD t (0, 0, false)).1 := by omega
      simp only [if_pos hA, if_pos hB, hC, and_false, if_false]
      rw [take_snoc hlt]
    · have hm : l.getD t (0, 0, false) ∈ l.drop (placeN l i) := by
        have e : l.getD t (0, 0, false) = l[t] := by simp [hlt]
        rw [← h, List.drop_eq_getElem_cons hlt, e]
        exact List.mem_cons_self
      have hb := hda _ hm
      have hA : t ≤ placeN l i := by omega
      have hB : ¬ t + 1 ≤ placeN l i := by omega
      simp only [if_pos hA, if_neg hB, hb, and_self, if_true]
      rw [takeDrop_snoc hlt (by omega), ← h]
      simp
    · have hA : ¬ t ≤ placeN l i := by omega
      have hB : ¬ t + 1 ≤ placeN l i := by omega
      simp only [if_neg hA, if_neg hB, Bool.true_eq_false, false_and, if_false]
      rw [takeDrop_snoc hlt (by omega)]
      simp
theorem run_set {l : List Bk} {k i g : Int} {pl : Nat} {a : Bk} (h0 : (k == 0) = false) (h3 : k ≠ 3) (ha : ∀ b : Bk, b = l.getD pl (0, 0, false) → (if k = 1 then (b.1, g, b.2.2) else (b.1, b.2.1, true)) = a) : ∀ t, t ≤ l.length → runM l k i g (pl : Int) t = ((l.set pl a).take t, true)
  | 0, _ => by simp [runM, h0]
  | t + 1, ht => by
    have ih := run_set (g := g) (i := i) h0 h3 ha t (by omega)
    have hlt : t < l.length := by omega
    unfold runM
    rw [ih]
    unfold stepM
    have hno : ¬ ((true = false) ∧ i < (l.getD t (0, 0, false)).1) := by rintro ⟨h, _⟩; cases h
    rw [take_snoc (l := l.set pl a) (by simpa using hlt)]
    by_cases h : t = pl
    · subst h
      have e := ha _ rfl
      rw [if_pos rfl, if_neg h3]
      simp only [hno, if_false]
      have e2 : (l.set t a).getD t (0, 0, false) = a := by simp [hlt]
      rw [e2, ← e]
      by_cases h1 : k = 1
      · rw [if_pos h1, if_pos h1]
      · rw [if_neg h1, if_neg h1]
    · have hC : ¬ ((t : Int) = (pl : Int)) := by omega
      rw [if_neg hC]
      simp only [hno, if_false]
      have e2 : (l.set pl a).getD t (0, 0, false) = l.getD t (0, 0, false) := by
        simp only [List.getD_eq_getElem?_getD]; rw [List.getElem?_set_ne (fun e => h e.symm)]
      rw [e2]
theorem run_rem {l : List Bk} {i g : Int} {pl : Nat} : ∀ t, t ≤ l.length → runM l 3 i g (pl : Int) t = (if t ≤ pl then l.take t else l.take pl ++ (l.take t).drop (pl + 1), true)
  | 0, _ => by simp [runM]
  | t + 1, ht => by
    have ih := run_rem (l := l) (g := g) (i := i) (pl := pl) t (by omega)
    have hlt : t < l.length := by omega
    unfold runM
    rw [ih]
    unfold stepM
    have hno : ¬ ((true = false) ∧ i < (l.getD t (0, 0, false)).1) := by rintro ⟨h, _⟩; cases h
    simp only [hno, if_false, if_true]
    rcases Nat.lt_trichotomy t pl with h | h | h
    · have hA : t ≤ pl := by omega
      have hB : t + 1 ≤ pl := by omega
      have hC : ¬ ((t : Int) = (pl : Int)) := by omega
      simp only [if_pos hA, if_pos hB, if_neg hC]
      rw [take_snoc hlt]
    · have hA : t ≤ pl := by omega
      have hB : ¬ t + 1 ≤ pl := by omega
      have hC : (t : Int) = (pl : Int) := by omega
      simp only [if_pos hA, if_neg hB, if_pos hC]
      rw [h]
      simp
    · have hA : ¬ t ≤ pl := by omega
      have hB : ¬ t + 1 ≤ pl := by omega
      have hC : ¬ ((t : Int) = (pl : Int)) := by omega
      simp only [if_neg hA, if_neg hB, if_neg hC]
      rw [takeDrop_snoc hlt (by omega)]
      simp
theorem run_end {l m : List Bk} {k i g : Int} (hl : backsOkB l = true) (hc : cmdOkB k i g = true) (h : doL l k i g = some m) : endM (runM l k i g (findI l i) l.length) i g = m := by
  have hpl := placeN_le l i
  unfold findI
  rcases doL_some h with ⟨ht, hk, hm⟩ | ⟨ht, hk, hm⟩ | ⟨ht, hk, hm⟩ | ⟨ht, hk, hk1, hk2, hm⟩
  · subst hk
    rw [ht]
    simp only [Bool.false_eq_true, if_false]
    rw [run_add hl ht l.length (Nat.le_refl _), hm]
    unfold endM
    by_cases hle : l.length ≤ placeN l i
    · rw [if_pos hle]
      have e : placeN l i = l.length := by omega
      simp [e]
    · rw [if_neg hle]
      simp
  · subst hk
    rw [ht, if_pos rfl, run_set (pl := placeN l i) (a := (i, g, (l.getD (placeN l i) (0, 0, false)).2.2)) rfl (by decide) (fun b hb => by rw [hb, if_pos rfl, there_is0 ht]) l.length (Nat.le_refl _), hm]
    unfold endM; rw [if_pos rfl]; exact List.take_of_length_le (by simp)
  · subst hk
    rw [ht, if_pos rfl, run_set (pl := placeN l i) (a := (i, (l.getD (placeN l i) (0, 0, false)).2.1, true)) rfl (by decide) (fun b hb => by rw [hb, if_neg (by decide), there_is0 ht]) l.length (Nat.le_refl _), hm]
    unfold endM; rw [if_pos rfl]; exact List.take_of_length_le (by simp)
  · have h3 : k = 3 := by have := cmdOkB_iff.1 hc; unfold CmdOk at this; omega
    subst h3
    rw [ht, if_pos rfl, run_rem l.length (Nat.le_refl _), hm]
    have hlt := there_lt0 ht
    rw [if_neg (by omega)]
    simp [endM]
theorem runM_len (l : List Bk) (k i g fi : Int) : ∀ t, (runM l k i g fi t).1.length ≤ 2 * t
  | 0 => by simp [runM]
  | t + 1 => by
    have ih := runM_len l k i g fi t
    unfold runM stepM
    split
    · split
      · split <;> simp <;> omega
      · split
        · split <;> simp <;> omega
        · split <;> simp <;> omega
    · split <;> simp <;> omega
theorem stepM_put {k i g fi : Int} {s : List Bk × Bool} {t : Nat} {b : Bk} (h : (stepM k i g fi s t b).2 = false) : s.2 = false := by
  cases hs : s.2 with
  | false => rfl
  | true =>
    exfalso
    unfold stepM at h
    simp only [hs, Bool.true_eq_false, false_and, if_false] at h
    split at h
    · split at h
      · rw [hs] at h; cases h
      · split at h <;> cases h
    · cases h
theorem runM_put {l : List Bk} {k i g fi : Int} : ∀ t, (runM l k i g fi t).2 = false → (k == 0) = true
  | 0, h => by simpa [runM] using h
  | t + 1, h => runM_put (l := l) (i := i) (g := g) (fi := fi) t (stepM_put h)

end Go.Proofs.Ytldjaapbkihibaa
