/- One taken off a list: what stays as it was. -/
import Derived.Test.YtgnfcnajepbhpaaPairsMath
namespace Go.Proofs.Ytgnfcnajepbhpaa
open Go.ChangeShapes Go.WideShapes Go.ChangeAt Go.RowKit Go.Joins
set_option linter.unusedVariables false
set_option linter.unusedSimpArgs false

/-- The list without its k-th. -/
def off1 (l : List Bk) (k : Nat) : List Bk := l.take k ++ l.drop (k + 1)
theorem off1_length {l : List Bk} {k : Nat} (hk : k < l.length) : (off1 l k).length = l.length - 1 := by simp [off1]; omega
theorem off1_get {l : List Bk} {k i : Nat} (hk : k < l.length) (hi : i < l.length - 1) : (off1 l k).getD i (0, 0, false) = l.getD (if i < k then i else i + 1) (0, 0, false) := by
  unfold off1
  by_cases h : i < k
  · rw [if_pos h, List.getD_eq_getElem?_getD, List.getElem?_append_left (by simp; omega), List.getElem?_take, if_pos h, List.getD_eq_getElem?_getD]
  · rw [if_neg h, List.getD_eq_getElem?_getD, List.getElem?_append_right (by simp; omega), List.getElem?_drop, List.getD_eq_getElem?_getD]
    congr 2
    simp; omega
theorem off1_ok {l : List Bk} {k : Nat} (hl : backsOkB l = true) (hk : k < l.length) : backsOkB (off1 l k) = true := by
  rw [backsOkB_iff]
  intro i hi
  rw [off1_length hk] at hi
  have e := off1_get hk hi
  unfold okAt
  rw [e]
  have hj : (if i < k then i else i + 1) < l.length := by split <;> omega
  obtain ⟨x, y, z, hxy⟩ : ∃ x y z, l.getD (if i < k then i else i + 1) (0, 0, false) = (x, y, z) := ⟨_, _, _, rfl⟩
  have h1 := okAt_back hl hj hxy
  rw [hxy]
  simp only [Bool.and_eq_true, Bool.or_eq_true, decide_eq_true_eq]
  refine ⟨h1, ?_⟩
  by_cases h0 : i = 0
  · exact .inl h0
  · right
    rw [off1_get hk (by omega)]
    have := backs_lt hl _ hj (if i - 1 < k then i - 1 else i - 1 + 1) (by split <;> split <;> omega)
    rw [hxy] at this
    exact this
theorem best_one {l : List Sc} {p q : Option Sc × Option Sc} (hok : ∀ z ∈ l, okS z) {o t : Sc} (hp : Best l (some o, some t)) (hq : Best l q) : pairL q = [o.1, t.1] := by
  obtain ⟨ho, ht, hne, h1, h2⟩ := hp
  obtain ⟨q1, q2⟩ := q
  match q1, q2, hq with
  | none, _, hq => rw [hq.1] at ho; cases ho
  | some o', none, hq =>
    have hq : l = [o'] := hq
    rw [hq] at ho ht
    exact absurd ((List.mem_singleton.1 ht).trans (List.mem_singleton.1 ho).symm) hne
  | some o', some t', hq =>
    obtain ⟨ho', ht', hne', h1', h2'⟩ := hq
    have e : o = o' := rank_inj (hok o ho) (hok o' ho') (Int.le_antisymm (h1 o' ho') (h1' o ho))
    subst e
    have e : t = t' := rank_inj (hok t ht) (hok t' ht') (Int.le_antisymm (h2 t' ht' hne') (h2' t ht hne))
    subst e
    rfl
/-- Where the one taken off is in no pair, the pair is the same. -/
theorem off1_pair {key b : Int} {l : List Bk} {k : Nat} (hl : backsOkB l = true) (hk : k < l.length) (hn : (l.getD k (0, 0, false)).1 ∉ pairL (pick (scL key b l))) :
    pairL (pick (scL key b (off1 l k))) = pairL (pick (scL key b l)) := by
  have hB := best_scL (key := key) (b := b) hl
  have hB' := best_scL (key := key) (b := b) (off1_ok hl hk)
  have hok' : ∀ z ∈ scL key b (off1 l k), okS z := fun z hz => scL_mem_ok (off1_ok hl hk) hz
  have sub : ∀ z, z ∈ scL key b (off1 l k) → z ∈ scL key b l := fun z hz => by
    obtain ⟨i, hi, hd, e⟩ := mem_scL.1 hz
    rw [off1_length hk] at hi
    rw [off1_get hk hi] at hd e
    exact mem_scL.2 ⟨_, by split <;> omega, hd, e⟩
  have back : ∀ z, z ∈ scL key b l → z.1 ≠ (l.getD k (0, 0, false)).1 → z ∈ scL key b (off1 l k) := fun z hz hne => by
    obtain ⟨i, hi, hd, e⟩ := mem_scL.1 hz
    have hik : i ≠ k := fun q => hne (by rw [e, q]; rfl)
    by_cases h : i < k
    · refine mem_scL.2 ⟨i, by rw [off1_length hk]; omega, ?_, ?_⟩
      · rw [off1_get hk (by omega), if_pos h]; exact hd
      · rw [off1_get hk (by omega), if_pos h]; exact e
    · refine mem_scL.2 ⟨i - 1, by rw [off1_length hk]; omega, ?_, ?_⟩
      · rw [off1_get hk (by omega), if_neg (by omega), show i - 1 + 1 = i by omega]; exact hd
      · rw [off1_get hk (by omega), if_neg (by omega), show i - 1 + 1 = i by omega]; exact e
  generalize pick (scL key b l) = p at *
  generalize pick (scL key b (off1 l k)) = p' at *
  obtain ⟨p1, p2⟩ := p
  match p1, p2, hB, hn with
  | none, t, hB, hn =>
    have e : scL key b (off1 l k) = [] := by
      rcases hs : scL key b (off1 l k) with _ | ⟨z, zs⟩
      · rfl
      · have := sub z (by rw [hs]; exact List.mem_cons_self)
        rw [hB.1] at this; cases this
    obtain ⟨q1, q2⟩ := p'
    match q1, q2, hB' with
    | none, _, _ => rfl
    | some o', none, hq => have hq : scL key b (off1 l k) = [o'] := hq; rw [e] at hq; cases hq
    | some o', some t', hq => have := hq.1; rw [e] at this; cases this
  | some o, none, hB, hn =>
    have hB : scL key b l = [o] := hB
    have hn1 : (l.getD k (0, 0, false)).1 ≠ o.1 := fun q => hn (by rw [q]; exact List.mem_cons_self)
    have hm : o ∈ scL key b (off1 l k) := back o (by rw [hB]; exact List.mem_cons_self) (fun q => hn1 q.symm)
    have all : ∀ z ∈ scL key b (off1 l k), z = o := fun z hz => by have := sub z hz; rw [hB] at this; exact List.mem_singleton.1 this
    obtain ⟨q1, q2⟩ := p'
    match q1, q2, hB' with
    | none, _, hq => rw [hq.1] at hm; cases hm
    | some o', none, hq =>
      have hq : scL key b (off1 l k) = [o'] := hq
      have e : o' = o := all o' (by rw [hq]; exact List.mem_cons_self)
      rw [e]
    | some o', some t', hq => exact absurd ((all t' hq.2.1).trans (all o' hq.1).symm) hq.2.2.1
  | some o, some t, hB, hn =>
    obtain ⟨ho, ht, hne, h1, h2⟩ := hB
    have hno : (l.getD k (0, 0, false)).1 ≠ o.1 := fun q => hn (by rw [q]; exact List.mem_cons_self)
    have hnt : (l.getD k (0, 0, false)).1 ≠ t.1 := fun q => hn (by rw [q]; exact List.mem_cons_of_mem _ List.mem_cons_self)
    have hBB : Best (scL key b (off1 l k)) (some o, some t) := ⟨back o ho (fun q => hno q.symm), back t ht (fun q => hnt q.symm), hne, fun z hz => h1 z (sub z hz), fun z hz => h2 z (sub z hz)⟩
    exact best_one (p := (some o, some t)) hok' hBB hB'

end Go.Proofs.Ytgnfcnajepbhpaa
