/- Slices of ints and slices of these: how they read; the laws' own helpers over them: szIntS, szIntSS, toIntS, toIntSS, eqIntS, eqIntSS. -/
import Derived.Test.YtldjaapbkihibaaIntsA
namespace Go.Proofs.Ytldjaapbkihibaa
open Go.ChangeShapes Go.WideShapes Go.ChangeAt Go.RowKit Go.Joins
set_option linter.unusedVariables false
set_option linter.unusedSimpArgs false

/-- A slice's head: where it begins, its length, its capacity. -/
abbrev Hd := Option Addr × Nat × Nat
def layH : Lay Hd := ⟨1, fun a => [.slice a.1 a.2.1 a.2.2], (none, 0, 0), fun _ => rfl⟩

theorem RdL.head {w : World} {b off : Nat} {l : List Hd} (h : ∀ i, i < l.length → ∀ j, j < layH.k → w.cell? ⟨b, off + i * layH.k + j, none⟩ = (layH.cs (l.getD i layH.d))[j]?) (i : Nat) (hi : i < l.length) :
    w.cell? ⟨b, off + i, none⟩ = some (.slice (l.getD i (none, 0, 0)).1 (l.getD i (none, 0, 0)).2.1 (l.getD i (none, 0, 0)).2.2) := by
  have := h i hi 0 (by decide)
  rw [show layH.k = 1 from rfl, Nat.mul_one, Nat.add_zero] at this
  exact this

/-- As RdL, in a block from lo on. -/
def RdLo {α : Type} (L : Lay α) (lo C : Nat) (w : World) (o : Option Addr) (l : List α) : Prop :=
  l = [] ∨ ∃ b off, o = some ⟨b, off, none⟩ ∧ lo ≤ b ∧ b < C ∧ ∀ i, i < l.length → ∀ j, j < L.k → w.cell? ⟨b, off + i * L.k + j, none⟩ = (L.cs (l.getD i L.d))[j]?
theorem RdLo.rd {α : Type} {L : Lay α} {lo C : Nat} {w : World} {o : Option Addr} {l : List α} (h : RdLo L lo C w o l) : RdL L C w o l := by
  rcases h with h | ⟨b, off, ho, _, hb, r⟩
  · exact .inl h
  · exact .inr ⟨b, off, ho, hb, r⟩
theorem RdLo.kept {α : Type} {L : Lay α} {lo C D : Nat} {w w' : World} {o : Option Addr} {l : List α} (h : RdLo L lo C w o l) (hb : Below D w w') (hc : C ≤ D) : RdLo L lo C w' o l := by
  rcases h with h | ⟨b, off, ho, h0, hlt, r⟩
  · exact .inl h
  · exact .inr ⟨b, off, ho, h0, hlt, fun i hi j hj => (hb.cell (p := ⟨b, off + i * L.k + j, none⟩) (Nat.lt_of_lt_of_le hlt hc)).trans (r i hi j hj)⟩
theorem RdLo.le {α : Type} {L : Lay α} {lo C D : Nat} {w : World} {o : Option Addr} {l : List α} (h : RdLo L lo C w o l) (hc : C ≤ D) : RdLo L lo D w o l := by
  rcases h with h | ⟨b, off, ho, h0, hlt, r⟩
  · exact .inl h
  · exact .inr ⟨b, off, ho, h0, Nat.lt_of_lt_of_le hlt hc, r⟩
theorem RdLo.put {α : Type} {L : Lay α} {lo C g j : Nat} {w : World} {o : Option Addr} {l : List α} {u : Value} (h : RdLo L lo C w o l) (hg : g < lo) : RdLo L lo C (w.setCell ⟨g, j, none⟩ u) o l := by
  rcases h with h | ⟨b, off, ho, h0, hlt, r⟩
  · exact .inl h
  · exact .inr ⟨b, off, ho, h0, hlt, fun i hi j' hj => (World.cell?_setCell_other w _ _ _ (by simp <;> omega)).trans (r i hi j' hj)⟩
theorem ownL.rdLo {α : Type} {L : Lay α} {e : TypeId} {w : World} {base g n cap : Nat} {l : List α} (h : ownL L e w base (.slice (some ⟨g, 0, none⟩) n cap) l) : RdLo L base w.heap.size w (some ⟨g, 0, none⟩) l := by
  have hg := (h.lt g rfl).1
  rcases h.rd with h | ⟨b, off, ho, hb, r⟩
  · exact .inl h
  · cases ho
    exact .inr ⟨g, 0, rfl, hg, hb, r⟩

/-- The slice of slices that begins at o reads as ll. -/
def RdLL (C : Nat) (w : World) (o : Option Addr) (ll : List (List Int)) : Prop :=
  ∃ hs : List Hd, hs.length = ll.length ∧ RdL layH C w o hs ∧ ∀ i, i < ll.length → (hs.getD i (none, 0, 0)).2.1 = (ll.getD i []).length ∧ RdI C w (hs.getD i (none, 0, 0)).1 (ll.getD i [])
theorem RdLL.kept {C D : Nat} {w w' : World} {o : Option Addr} {ll : List (List Int)} (h : RdLL C w o ll) (hb : Below D w w') (hc : C ≤ D) : RdLL C w' o ll := by
  obtain ⟨hs, hl, hr, hx⟩ := h
  exact ⟨hs, hl, hr.kept hb hc, fun i hi => ⟨(hx i hi).1, (hx i hi).2.kept hb hc⟩⟩
theorem RdLL.le {C D : Nat} {w : World} {o : Option Addr} {ll : List (List Int)} (h : RdLL C w o ll) (hc : C ≤ D) : RdLL D w o ll := by
  obtain ⟨hs, hl, hr, hx⟩ := h
  exact ⟨hs, hl, hr.le hc, fun i hi => ⟨(hx i hi).1, (hx i hi).2.le hc⟩⟩
/-- The head of row i, and how the row reads. -/
theorem RdLL.at {C : Nat} {w : World} {o : Option Addr} {ll : List (List Int)} (h : RdLL C w o ll) (hC : C ≤ w.heap.size) (i : Nat) (hi : i < ll.length) :
    ∃ b off o' c', o = some ⟨b, off, none⟩ ∧ b < w.heap.size ∧ w.cell? ⟨b, off + i, none⟩ = some (.slice o' (ll.getD i []).length c') ∧ RdI w.heap.size w o' (ll.getD i []) := by
  obtain ⟨hs, hl, hr, hx⟩ := h
  rcases hr with hr | ⟨b, off, ho, hb, r⟩
  · subst hr; simp at hl; omega
  · have := RdL.head r i (by omega)
    rw [(hx i hi).1] at this
    exact ⟨b, off, _, _, ho, Nat.lt_of_lt_of_le hb hC, this, (hx i hi).2.le hC⟩

theorem infoIntS : (Try.prog.info? 43).map (fun i => (i.zero, i.size, i.bytes)) = some (some (.slice none 0 0), 1, 24) := by kernel_rfl
theorem cellsInt2 : Try.prog.cellsOf 3 = 1 := by kernel_rfl
theorem cellsIntS : Try.prog.cellsOf 43 = 1 := by kernel_rfl

/-- Ints that came in. -/
theorem open_ints_cells {H : Type} {enc : TypeId × Value → H} {W : World} {fuel : Nat} {cs : List Value} {x : DataW H × List MemPlace} (h : DataW.trod enc Try.prog W 0 (fun _ => true) true fuel 43 cs = some x) :
    ∃ (o : Option Addr) (cap : Nat) (l : List Int), cs = [.slice o l.length cap] ∧ l.length ≤ maxLen ∧ RdI W.heap.size W o l := by
  refine open_list layI (by decide) Try.underlying43 cellsInt2 ?_ h
  intro n cs y hl hy
  obtain ⟨a, e0, _, _⟩ := DataW.trod_int Try.underlying3 hy
  exact ⟨a, e0⟩
/-- Rows of ints that came in. -/
theorem open_rows_cells {H : Type} {enc : TypeId × Value → H} {W : World} {fuel : Nat} {cs : List Value} {x : DataW H × List MemPlace} (h : DataW.trod enc Try.prog W 0 (fun _ => true) true fuel 37 cs = some x) :
    ∃ (o : Option Addr) (cap : Nat) (ll : List (List Int)), cs = [.slice o ll.length cap] ∧ ll.length ≤ maxLen ∧ RdLL W.heap.size W o ll ∧ ∀ i, i < ll.length → (ll.getD i []).length ≤ maxLen := by
  rcases Go.Deep.open_slice1 Try.underlying37 cellsIntS h with ⟨hcs, _⟩ | ⟨a, len, cap, m, n, V, D, Pl, hcs, _, hl, hm, hmm, _, hx⟩
  · exact ⟨none, 0, [], hcs, Nat.zero_le _, ⟨[], rfl, .inl rfl, fun i hi => by cases hi⟩, fun i hi => by cases hi⟩
  · have hlm : len ≤ m := by rw [hmm]; split <;> omega
    have ex : ∀ i, i < len → ∃ y : Hd × List Int, V i = .slice y.1.1 y.1.2.1 y.1.2.2 ∧ y.1.2.1 = y.2.length ∧ y.2.length ≤ maxLen ∧ RdI W.heap.size W y.1.1 y.2 := fun i hi => by
      obtain ⟨o', c', l', e, hl', hr⟩ := open_ints_cells (hx i (by omega)).2
      simp at e
      exact ⟨((o', l'.length, c'), l'), e, rfl, hl', hr⟩
    have hne : Inhabited (Hd × List Int) := ⟨((none, 0, 0), [])⟩
    obtain ⟨f, hf⟩ := Go.Deep.choose_lt ex
    have gd : ∀ i, i < len → ((List.range len).map (fun i => (f i).2)).getD i [] = (f i).2 := fun i hi => by simp [hi]
    have gh : ∀ i, i < len → ((List.range len).map (fun i => (f i).1)).getD i (none, 0, 0) = (f i).1 := fun i hi => by simp [hi]
    refine ⟨some a, cap, (List.range len).map (fun i => (f i).2), by simpa using hcs, by simp; omega, ⟨(List.range len).map (fun i => (f i).1), by simp, ?_, fun i hi => ?_⟩, fun i hi => ?_⟩
    · by_cases h0 : len = 0
      · left; simp [h0]
      · right
        obtain ⟨b, off, spot⟩ := a
        have hc := (hx 0 (by omega)).1
        have hspot : spot = none := by simpa [Addr.add] using World.cell?_spot hc
        subst hspot
        have e2 : ∀ j, (⟨b, off, none⟩ : Addr).add j = ⟨b, off + j, none⟩ := fun j => by by_cases h : j = 0 <;> simp [Addr.add, h]
        refine ⟨b, off, rfl, ?_, fun i hi j hj => ?_⟩
        · rw [e2] at hc
          rcases Nat.lt_or_ge b W.heap.size with h | h
          · exact h
          · simp [World.cell?, Array.getElem?_eq_none h] at hc
        · have hi' : i < len := by simpa using hi
          have hj' : j = 0 := by have : j < 1 := hj; omega
          subst hj'
          have h1 := (hx i (by omega)).1
          rw [e2] at h1
          rw [show layH.d = (none, 0, 0) from rfl, gh i hi', show layH.k = 1 from rfl, Nat.mul_one, Nat.add_zero, h1, (hf i hi').1]
          rfl
    · have hi' : i < len := by simpa using hi
      rw [gd i hi', gh i hi']
      exact ⟨(hf i hi').2.1, (hf i hi').2.2.2⟩
    · have hi' : i < len := by simpa using hi
      rw [gd i hi']
      exact (hf i hi').2.2.1
set_option maxRecDepth 100000 in
theorem open_rows {H : Type} {enc : TypeId × Value → H} {W : World} {base : Nat} {v : Value} {d : DataW H} {p : List MemPlace}
    (hv : Value.okWide Try.prog W .any base 37 v) (h : DataW.Trod enc Try.prog W 0 (fun _ => true) true 37 v d p) :
    ∃ (o : Option Addr) (cap : Nat) (ll : List (List Int)), v = .slice o ll.length cap ∧ ll.length ≤ maxLen ∧ RdLL W.heap.size W o ll ∧ ∀ i, i < ll.length → (ll.getD i []).length ≤ maxLen := by
  obtain ⟨a0, len0, cap0, rfl⟩ := okWide_slice Try.underlying37 hv
  obtain ⟨fuel, hf⟩ := h
  obtain ⟨o, cap, l, hcs, r⟩ := open_rows_cells hf
  simp [Value.cells] at hcs
  obtain ⟨rfl, rfl, rfl⟩ := hcs
  exact ⟨_, _, l, rfl, r⟩

end Go.Proofs.Ytldjaapbkihibaa
