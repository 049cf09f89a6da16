/- Tables that may be, said without ways: nobody stands behind a gap; what is dropped leaves one. -/
import Derived.Test.YthcbhfgbplgfiaaDropMath
namespace Go.Proofs.Ythcbhfgbplgfiaa
open Go.ChangeShapes Go.WideShapes Go.ChangeAt Go.RowKit Go.Joins
set_option linter.unusedVariables false
set_option linter.unusedSimpArgs false

theorem far_of_add {n h d : Nat} (hh : h < n) (hd : d < n) : farN n h ((h + d) % n) = d := by
  by_cases e : h + d < n
  · rw [mod_small e, farN_eq hh e, if_pos (by omega)]; omega
  · rw [mod_wrap (by omega) (by omega), farN_eq hh (by omega)]
    split <;> omega
theorem add_of_far {n h x : Nat} (hh : h < n) (hx : x < n) : (h + farN n h x) % n = x := by
  rw [farN_eq hh hx]
  split
  · rw [mod_small (by omega)]; omega
  · rw [mod_wrap (by omega) (by omega)]; omega
theorem far_lt {n h x : Nat} (hh : h < n) (hx : x < n) : farN n h x < n := Nat.mod_lt _ (by omega)
theorem far_inj {n h x y : Nat} (hh : h < n) (hx : x < n) (hy : y < n) (e : farN n h x = farN n h y) : x = y := by
  rw [← add_of_far hh hx, e, add_of_far hh hy]
/-- i lies on the way from h to k just if it is no further from i to k than from h to k. -/
theorem far_on {n h i k : Nat} (hh : h < n) (hi : i < n) (hk : k < n) (hne : i ≠ k) : farN n h i < farN n h k ↔ farN n i k ≤ farN n h k := by
  rw [farN_eq hh hi, farN_eq hh hk, farN_eq hi hk]
  (repeat' split) <;> omega
theorem far_add {n h i k : Nat} (hh : h < n) (hi : i < n) (hk : k < n) (h1 : farN n h i < farN n h k) : farN n h k = farN n h i + farN n i k := by
  rw [farN_eq hh hi, farN_eq hh hk] at h1
  rw [farN_eq hh hi, farN_eq hh hk, farN_eq hi hk]
  (repeat' split at h1) <;> (repeat' split) <;> omega
theorem far_self {n i : Nat} (hi : i < n) : farN n i i = 0 := by rw [farN_eq hi hi, if_pos (Nat.le_refl _)]; omega
theorem far_pos {n i j : Nat} (hi : i < n) (hj : j < n) (hne : i ≠ j) : 1 ≤ farN n i j := by
  rw [farN_eq hi hj]; split <;> omega

abbrev at' (m : List Sl) (j : Nat) : Sl := m.getD j sl0
abbrev hm (m : List Sl) (j : Nat) : Nat := homeN m.length (at' m j).a (at' m j).p
/-- Nobody stands behind a gap, and nobody twice; but for the hole i. -/
structure Gapless (m : List Sl) (i : Nat) : Prop where
  slots : slotTo m m.length
  dist : ∀ x y, x < m.length → y < m.length → (at' m x).u = true → (at' m y).u = true → (at' m x).a = (at' m y).a → (at' m x).p = (at' m y).p → x = y
  gap : ∀ j x, j < m.length → x < m.length → (at' m j).u = true → farN m.length (hm m j) x < farN m.length (hm m j) j → (at' m x).u = true ∨ x = i

theorem scan_some {a p : Int} : ∀ {L : List Met} {E : Int × Bool}, scan a p L = some E → ∃ x, x ∈ L ∧ scanX a p x = some E
  | [], E, h => by simp [scan] at h
  | x :: L, E, h => by
    unfold scan at h
    rw [List.findSome?_cons] at h
    cases hx : scanX a p x with
    | none => rw [hx] at h; obtain ⟨y, hy, e⟩ := scan_some (L := L) (E := E) h; exact ⟨y, List.mem_cons_of_mem _ hy, e⟩
    | some E' => rw [hx] at h; exact ⟨x, List.mem_cons_self, by rw [hx]; exact h⟩
theorem scan_none {a p : Int} : ∀ {L : List Met}, (∀ x, x ∈ L → scanX a p x = none) → scan a p L = none
  | [], _ => rfl
  | x :: L, h => by
    unfold scan
    rw [List.findSome?_cons, h x List.mem_cons_self]
    exact scan_none (L := L) (fun y hy => h y (List.mem_cons_of_mem _ hy))
theorem mem_uptoM {f : Nat → Met} {k : Nat} {x : Met} : x ∈ uptoM f k ↔ ∃ d, d < k ∧ f d = x := by simp [uptoM]
theorem scanX_place {a p : Int} {x : Met} {E : Int × Bool} (h : scanX a p x = some E) : E.1 = (x.1 : Int) := by
  unfold scanX at h
  split at h
  · split at h
    · cases h; rfl
    · cases h
  · cases h; rfl
theorem scanX_none {a p : Int} {x : Met} : scanX a p x = none ↔ x.2.u = true ∧ ¬ (x.2.a = a ∧ x.2.p = p) := by
  unfold scanX
  by_cases h1 : x.2.u = true
  · rw [if_pos h1]
    by_cases h2 : x.2.a = a ∧ x.2.p = p
    · rw [if_pos h2]; simp [h1, h2]
    · rw [if_neg h2]; simp [h1, h2]
  · rw [if_neg h1]; simp [h1]
/-- A way that ends at its own meets others alone ahead of it. -/
theorem endL_before {l : List Sl} (hn : 0 < l.length) {a p : Int} {j : Nat} (hj : j < l.length) {f : Bool} (h : endL l a p = ((j : Int), f)) (x : Nat) (hx : x < l.length) (hd : farN l.length (homeN l.length a p) x < farN l.length (homeN l.length a p) j) : (at' l x).u = true ∧ ¬ ((at' l x).a = a ∧ (at' l x).p = p) := by
  have hh := homeN_lt hn a p
  generalize hhe : homeN l.length a p = h0 at *
  have hfx := far_lt hh hx
  have hme : metAt l h0 (farN l.length h0 x) = (x, at' l x) := by unfold metAt; rw [add_of_far hh hx]
  cases hs : scanX a p (x, at' l x) with
  | none => exact scanX_none.1 hs
  | some E0 =>
    exfalso
    cases hsc : scan a p (uptoM (metAt l h0) (farN l.length h0 x + 1)) with
    | none =>
      rw [uptoM_succ] at hsc
      have h1 : scan a p (uptoM (metAt l h0) (farN l.length h0 x)) = none := by
        cases hq : scan a p (uptoM (metAt l h0) (farN l.length h0 x)) with
        | none => rfl
        | some E => rw [scan_more _ _ _ _ hq] at hsc; cases hsc
      rw [scan_snoc _ _ _ _ h1, hme, hs] at hsc
      cases hsc
    | some E1 =>
      have he := endL_some (l := l) hn (a := a) (p := p) (k := farN l.length h0 x + 1) (E := E1) (by omega) (by rw [hhe]; exact hsc)
      obtain ⟨y, hy, hy2⟩ := scan_some hsc
      obtain ⟨d, hdl, rfl⟩ := mem_uptoM.1 hy
      have hpl := scanX_place hy2
      rw [← he, h] at hpl
      have hjd : j = (h0 + d) % l.length := by have : (j : Int) = ((h0 + d) % l.length : Nat) := hpl; omega
      have := far_of_add hh (show d < l.length by omega)
      rw [← hjd] at this
      omega
theorem endL_own {l : List Sl} (hn : 0 < l.length) {a p : Int} {j : Nat} (hj : j < l.length) (hu : (at' l j).u = true) (ha : (at' l j).a = a) (hp : (at' l j).p = p) (hb : ∀ x, x < l.length → farN l.length (homeN l.length a p) x < farN l.length (homeN l.length a p) j → (at' l x).u = true ∧ ¬ ((at' l x).a = a ∧ (at' l x).p = p)) : endL l a p = ((j : Int), true) := by
  have hh := homeN_lt hn a p
  have hfj := far_lt hh hj
  refine endL_some hn (k := farN l.length (homeN l.length a p) j + 1) (by omega) ?_
  rw [uptoM_succ, scan_snoc]
  · unfold metAt scanX
    rw [add_of_far hh hj]
    simp only
    rw [if_pos hu, if_pos ⟨ha, hp⟩]
  · refine scan_none ?_
    intro y hy
    obtain ⟨d, hd, rfl⟩ := mem_uptoM.1 hy
    have hx := Nat.mod_lt (homeN l.length a p + d) hn
    refine scanX_none.2 (hb _ hx ?_)
    rw [far_of_add hh (by omega)]
    exact hd
/-- A table that may be has no gaps. -/
theorem gapless_of {l : List Sl} (h : tableOkB l = true) (i : Nat) : Gapless l i := by
  obtain ⟨h1, h2, h3⟩ := tableOkB_iff.1 h
  have hw : ∀ j, j < l.length → (at' l j).u = true → endL l (at' l j).a (at' l j).p = ((j : Int), true) := fun j hj hu => by
    have ht := ((Bool.and_eq_true _ _).mp (h3 j hj)).2
    unfold wayB at ht
    rw [hu] at ht
    simpa using ht
  refine ⟨fun j hj => ((Bool.and_eq_true _ _).mp (h3 j hj)).1, ?_, ?_⟩
  · intro x y hx hy hux huy ha hp
    have e1 := hw x hx hux
    have e2 := hw y hy huy
    rw [ha, hp, e2] at e1
    have : (y : Int) = x := congrArg Prod.fst e1
    omega
  · intro j x hj hx hu hd
    exact .inl (endL_before (by omega) hj (hw j hj hu) x hx hd).1
/-- And a list with no gaps may be. -/
theorem ok_of_gapless {l : List Sl} (h1 : 1 ≤ l.length) (h2 : l.length ≤ 16) (hs : slotTo l l.length)
    (hd : ∀ x y, x < l.length → y < l.length → (at' l x).u = true → (at' l y).u = true → (at' l x).a = (at' l y).a → (at' l x).p = (at' l y).p → x = y)
    (hg : ∀ j x, j < l.length → x < l.length → (at' l j).u = true → farN l.length (hm l j) x < farN l.length (hm l j) j → (at' l x).u = true) : tableOkB l = true := by
  refine tableOkB_iff.2 ⟨h1, h2, fun j hj => ?_⟩
  cases hu : (at' l j).u with
  | false => exact tabAt_free hu (hs j hj)
  | true =>
    refine tabAt_used (hs j hj) (endL_own (by omega) hj hu rfl rfl ?_)
    intro x hx hfx
    refine ⟨hg j x hj hx hu hfx, fun ⟨e1, e2⟩ => ?_⟩
    have := hd x j hx hj (hg j x hj hx hu hfx) hu e1 e2
    subst this
    omega

end Go.Proofs.Ythcbhfgbplgfiaa
