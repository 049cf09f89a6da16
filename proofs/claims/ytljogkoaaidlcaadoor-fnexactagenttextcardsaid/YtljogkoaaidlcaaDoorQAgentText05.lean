/- Several texts in one: Lists, Fr, MarkL, ShB. -/
import Derived.Deep.Slices
import Derived.Laws.OwnMore
import Derived.Test.YtljogkoaaidlcaaDoorQAgentText02
/- Slices whose elements are structs of k cells, whatever they are: how they read; rows of the call's own. -/
namespace Go.Proofs.YtljogkoaaidlcaaDoor
open Go.ChangeShapes Go.WideShapes Go.ChangeAt Go.RowKit Go.Joins
set_option linter.unusedVariables false
set_option linter.unusedSimpArgs false

/-- How an element lies: k cells. -/
structure Lay (α : Type) where
  k : Nat
  cs : α → List Value
  d : α
  len : ∀ a, (cs a).length = k

variable {α : Type}

theorem flat_length (L : Lay α) : ∀ l : List α, (l.flatMap L.cs).length = l.length * L.k
  | [] => by simp
  | a :: l => by simp only [List.flatMap_cons, List.length_append, L.len, flat_length L l, List.length_cons]; rw [Nat.add_mul]; omega
theorem flat_get (L : Lay α) : ∀ (l : List α) (i j : Nat), i < l.length → j < L.k → (l.flatMap L.cs)[i * L.k + j]? = (L.cs (l.getD i L.d))[j]?
  | a :: l, 0, j, _, hj => by
    rw [Nat.zero_mul, Nat.zero_add, List.flatMap_cons, List.getElem?_append_left (by rw [L.len]; exact hj)]; rfl
  | a :: l, i + 1, j, h, hj => by
    have e : (i + 1) * L.k + j = L.k + (i * L.k + j) := by rw [Nat.add_mul]; omega
    rw [List.flatMap_cons, e, List.getElem?_append_right (by rw [L.len]; omega), L.len, Nat.add_sub_cancel_left]
    exact flat_get L l i j (by simpa using h) hj

/-- The slice that begins at o reads as l; its block lies below C. -/
def RdL (L : Lay α) (C : Nat) (w : World) (o : Option Addr) (l : List α) : Prop :=
  l = [] ∨ ∃ b off, o = some ⟨b, off, none⟩ ∧ b < C ∧ ∀ i, i < l.length → ∀ j, j < L.k → w.cell? ⟨b, off + i * L.k + j, none⟩ = (L.cs (l.getD i L.d))[j]?
theorem RdL.kept {L : Lay α} {C D : Nat} {w w' : World} {o : Option Addr} {l : List α} (h : RdL L C w o l) (hb : Below D w w') (hc : C ≤ D) : RdL L C w' o l := by
  rcases h with h | ⟨b, off, ho, hlt, r⟩
  · exact .inl h
  · exact .inr ⟨b, off, ho, hlt, fun i hi j hj => (hb.cell (p := ⟨b, off + i * L.k + j, none⟩) (Nat.lt_of_lt_of_le hlt hc)).trans (r i hi j hj)⟩
theorem RdL.le {L : Lay α} {C D : Nat} {w : World} {o : Option Addr} {l : List α} (h : RdL L C w o l) (hc : C ≤ D) : RdL L D w o l := by
  rcases h with h | ⟨b, off, ho, hlt, r⟩
  · exact .inl h
  · exact .inr ⟨b, off, ho, Nat.lt_of_lt_of_le hlt hc, r⟩

/-- A row of the call's own that holds l. -/
abbrev ownL (L : Lay α) (e : TypeId) (w : World) (base : Nat) (v : Value) (l : List α) : Prop := w.ownsRow base e L.k v l.length (l.flatMap L.cs)
theorem ownL.rd {L : Lay α} {e : TypeId} {w : World} {base g n cap : Nat} {l : List α} (h : ownL L e w base (.slice (some ⟨g, 0, none⟩) n cap) l) : RdL L w.heap.size w (some ⟨g, 0, none⟩) l := by
  have hn : n = l.length := by
    rcases h.2 with ⟨h', _⟩ | ⟨g', cap', cur, h', _⟩
    · simp at h'
    · simp at h'; exact h'.2.1
  subst hn
  refine .inr ⟨g, 0, rfl, (h.lt g rfl).2, fun i hi j hj => ?_⟩
  have hij : i * L.k + j < l.length * L.k := by
    have : (i + 1) * L.k ≤ l.length * L.k := Nat.mul_le_mul_right _ hi
    rw [Nat.add_mul] at this; omega
  rw [Nat.zero_add, h.cellAt _ hij, flat_get L l i j hi hj]
theorem ownL.open {L : Lay α} {e : TypeId} {w : World} {base : Nat} {v : Value} {l : List α} (h : ownL L e w base v l) : ∃ o cap, v = .slice o l.length cap ∧ RdL L w.heap.size w o l := by
  have h0 := h
  rcases h.2 with ⟨h1, h2⟩ | ⟨g, cap, cur, hv, _⟩
  · have e : l = [] := List.eq_nil_of_length_eq_zero h2
    subst e
    exact ⟨none, 0, by simpa using h1, .inl rfl⟩
  · subst hv
    exact ⟨_, cap, rfl, h0.rd⟩

theorem takeL_succ (L : Lay α) (l : List α) (k : Nat) (h : k < l.length) : l.take (k + 1) = l.take k ++ [l.getD k L.d] := by
  rw [List.take_succ_eq_append_getElem h]; simp [h]
def fillL (L : Lay α) (l : List α) (k : Nat) : List α := l.take k ++ List.replicate (l.length - k) L.d
theorem fillL_length (L : Lay α) (l : List α) (k : Nat) (h : k ≤ l.length) : (fillL L l k).length = l.length := by simp [fillL]; omega
theorem fillL_zero (L : Lay α) (l : List α) : fillL L l 0 = List.replicate l.length L.d := by simp [fillL]
theorem fillL_all (L : Lay α) (l : List α) : fillL L l l.length = l := by simp [fillL]
theorem fillL_set (L : Lay α) (l : List α) (k : Nat) (h : k < l.length) : (fillL L l k).set k (l.getD k L.d) = fillL L l (k + 1) := by
  have e1 : l.length - k = (l.length - (k + 1)) + 1 := by omega
  have e2 : (l.take k).length = k := by simp; omega
  unfold fillL
  rw [e1, List.replicate_succ, List.set_append_right _ _ (by omega), e2, Nat.sub_self, List.set_cons_zero, takeL_succ L l k h, List.append_assoc]
  rfl
/-- A row that 'make' laid: so many zero elements. -/
theorem made_flat (L : Lay α) (z : Value) (hz : z.cells.toList = L.cs L.d) (n : Nat) : (madeCells z.cells (n * L.k)).toList = (List.replicate n L.d).flatMap L.cs := by
  apply List.ext_getElem?
  intro j
  by_cases hj : j < n * L.k
  · have hk : 0 < L.k := by rcases Nat.eq_zero_or_pos L.k with h | h; · simp [h] at hj
                            · exact h
    have hjm : j % L.k < L.k := Nat.mod_lt _ hk
    have hjd : j / L.k < n := by rw [Nat.div_lt_iff_lt_mul hk]; exact hj
    have e : j = j / L.k * L.k + j % L.k := by rw [Nat.mul_comm]; exact (Nat.div_add_mod j L.k).symm
    have hs : z.cells.size = L.k := by rw [← Array.length_toList, hz, L.len]
    have hd : (List.replicate n L.d).getD (j / L.k) L.d = L.d := by simp [hjd]
    have hg := flat_get L (List.replicate n L.d) (j / L.k) (j % L.k) (by simpa using hjd) hjm
    rw [← e, hd, ← hz] at hg
    rw [hg]
    simp [madeCells, hj, hs]
    rw [getElem!_pos z.cells (j % L.k) (by omega), Array.getElem?_eq_getElem (by omega)]
  · have h2 : ((List.replicate n L.d).flatMap L.cs).length ≤ j := by rw [flat_length]; simpa using hj
    rw [List.getElem?_eq_none h2, List.getElem?_eq_none (by simp [madeCells]; omega)]

/-- A slice that came in, whose elements open as L says. -/
theorem open_list {H : Type} {enc : TypeId × Value → H} {P : Program} {W : World} {t e : TypeId} {fuel : Nat} {cs : List Value} {x : DataW H × List MemPlace} (L : Lay α) (hk : 0 < L.k) (ht : P.underlying t = some (.slice e)) (ce : P.cellsOf e = L.k)
    (hel : ∀ (n : Nat) (cs : List Value) (y : DataW H × List MemPlace), cs.length = L.k → DataW.trod enc P W 0 (fun _ => true) true n e cs = some y → ∃ a : α, cs = L.cs a)
    (h : DataW.trod enc P W 0 (fun _ => true) true fuel t cs = some x) :
    ∃ (o : Option Addr) (cap : Nat) (l : List α), cs = [.slice o l.length cap] ∧ l.length ≤ maxLen ∧ RdL L W.heap.size W o l := by
  rcases Go.Deep.open_slice ht h with ⟨hcs, _⟩ | ⟨a, len, cap, m, n, D, Pl, hcs, _, hl, hm, hmm, _, hx⟩
  · exact ⟨none, 0, [], hcs, Nat.zero_le _, .inl rfl⟩
  · have hlm : len ≤ m := by rw [hmm]; split <;> omega
    have ex : ∀ i, i < len → ∃ y : α, ∀ j, j < L.k → W.cell? (a.add (i * L.k + j)) = (L.cs y)[j]? := fun i hi => by
      obtain ⟨cs', h1, h2⟩ := hx i (by omega)
      rw [ce] at h1
      obtain ⟨_, hlen, hcell⟩ := World.cells?_some h1
      obtain ⟨y, rfl⟩ := hel n cs' _ hlen h2
      exact ⟨y, fun j hj => by have := hcell j hj; rwa [Go.Deep.add_add] at this⟩
    have hne : Inhabited α := ⟨L.d⟩
    obtain ⟨f, hf⟩ := Go.Deep.choose_lt ex
    refine ⟨some a, cap, (List.range len).map f, by simpa using hcs, by simp; omega, ?_⟩
    by_cases h0 : len = 0
    · left; simp [h0]
    · right
      obtain ⟨b, off, spot⟩ := a
      have hc := hf 0 (by omega) 0 hk
      rw [List.getElem?_eq_getElem (by rw [L.len]; exact hk)] at hc
      have hspot : spot = none := by simpa [Addr.add] using World.cell?_spot hc
      subst hspot
      have e2 : ∀ j, (⟨b, off, none⟩ : Addr).add j = ⟨b, off + j, none⟩ := fun j => by by_cases h : j = 0 <;> simp [Addr.add, h]
      refine ⟨b, off, rfl, ?_, fun i hi j hj => ?_⟩
      · rw [e2] at hc
        rcases Nat.lt_or_ge b W.heap.size with h | h
        · exact h
        · simp [World.cell?, Array.getElem?_eq_none h] at hc
      · have hi' : i < len := by simpa using hi
        have h1 := hf i hi' j hj
        rw [e2] at h1
        have g : ((List.range len).map f).getD i L.d = f i := by simp [hi']
        rw [g, ← h1, Nat.add_assoc]

end Go.Proofs.YtljogkoaaidlcaaDoor

/- Steps that turn no old block but some: what rows, boxes and readings are behind them. -/
namespace Go.Proofs.YtljogkoaaidlcaaDoor
open Go.ChangeShapes Go.WideShapes Go.ChangeAt Go.RowKit Go.Joins
set_option linter.unusedVariables false
set_option linter.unusedSimpArgs false

/-- From w to w' no block of w has turned but those from lo on, up to hi. -/
structure Stp (lo hi : Nat) (w w' : World) : Prop where
 os : w'.os = w.os
 tape : w'.tape = w.tape
 output : w'.output = w.output
 size : w.heap.size ≤ w'.heap.size
 block : ∀ k, k < w.heap.size → (k < lo ∨ hi ≤ k) → w'.heap[k]? = w.heap[k]?
theorem Stp.of {lo hi : Nat} {w w' : World} (h : Below w.heap.size w w') : Stp lo hi w w' := ⟨h.os, h.tape, h.output, h.size, fun k hk _ => h.block k hk⟩
theorem Stp.refl {lo hi : Nat} (w : World) : Stp lo hi w w := ⟨rfl, rfl, rfl, Nat.le_refl _, fun _ _ _ => rfl⟩
theorem Stp.below {lo hi B : Nat} {w w' : World} (h : Stp lo hi w w') (hB : B ≤ lo) (hs : B ≤ w.heap.size) : Below B w w' := ⟨h.os, h.tape, h.output, h.size, fun k hk => h.block k (Nat.lt_of_lt_of_le hk hs) (.inl (Nat.lt_of_lt_of_le hk hB))⟩
theorem Stp.trans {lo hi : Nat} {a b c : World} (h : Stp lo hi a b) (k : Stp lo hi b c) : Stp lo hi a c :=
 ⟨k.os.trans h.os, k.tape.trans h.tape, k.output.trans h.output, Nat.le_trans h.size k.size, fun i hi' hn => (k.block i (Nat.lt_of_lt_of_le hi' h.size) hn).trans (h.block i hi' hn)⟩
theorem Stp.grown {lo hi : Nat} {w w' : World} {r : Option Nat} (h : w.grownBy w' r) (hr : ∀ b, r = some b → lo ≤ b ∧ b < hi) : Stp lo hi w w' :=
 ⟨h.os, h.tape, h.output, h.size, fun k hk hn => h.block k hk (fun e => by have := hr k e.symm; omega)⟩
theorem Stp.box {lo hi k : Nat} {w w' : World} {X : Obj} (s : Stp lo hi w w') (h : w.heap[k]? = some X) (hk : k < lo ∨ hi ≤ k) : w'.heap[k]? = some X :=
 (s.block k (Array.getElem?_eq_some_iff.1 h).1 hk).trans h

/-- A row that lies in the blocks from lo up to hi. -/
def InRow (lo hi : Nat) (w : World) (e : TypeId) (size : Nat) (v : Value) (n : Nat) (xs : List Value) : Prop := w.ownsRow lo e size v n xs ∧ ∀ b, v.ownBlock = some b → b < hi
theorem InRow.of {lo : Nat} {w : World} {e : TypeId} {size : Nat} {v : Value} {n : Nat} {xs : List Value} (h : w.ownsRow lo e size v n xs) : InRow lo w.heap.size w e size v n xs := ⟨h, fun b e => (h.lt b e).2⟩
theorem InRow.mono {lo hi lo' hi' : Nat} {w : World} {e : TypeId} {size : Nat} {v : Value} {n : Nat} {xs : List Value} (h : InRow lo hi w e size v n xs) (h1 : lo' ≤ lo) (h2 : hi ≤ hi') : InRow lo' hi' w e size v n xs :=
 ⟨own_mono h.1 h1, fun b e => Nat.lt_of_lt_of_le (h.2 b e) h2⟩
theorem InRow.step {a b lo hi : Nat} {w w' : World} {e : TypeId} {size : Nat} {v : Value} {n : Nat} {xs : List Value} (h : InRow a b w e size v n xs) (s : Stp lo hi w w') (hd : hi ≤ a ∨ b ≤ lo) : InRow a b w' e size v n xs := by
 refine ⟨⟨h.1.1, ?_⟩, h.2⟩
 rcases h.1.2 with h1 | ⟨g, cap, cur, hv, hg, hc, r⟩
 ·exact .inl h1
 ·have hgb : g < b := h.2 g (by rw [hv]; rfl)
  exact .inr ⟨g, cap, cur, hv, hg, s.box hc (by omega), r⟩
theorem InRow.kept {a b : Nat} {w w' : World} {e : TypeId} {size : Nat} {v : Value} {n : Nat} {xs : List Value} {r : Option Nat} (h : InRow a b w e size v n xs) (hg : w.grownBy w' r) (hn : v.ownBlock = none ∨ v.ownBlock ≠ r) : InRow a b w' e size v n xs :=
 ⟨World.ownsRow.kept h.1 hg hn, h.2⟩

/-- A slice's value that reads as l, its block below C. -/
def RdV {α : Type} (L : Lay α) (C : Nat) (w : World) (v : Value) (l : List α) : Prop := ∃ o c, v = .slice o l.length c ∧ RdL L C w o l
theorem RdV.kept {α : Type} {L : Lay α} {C D : Nat} {w w' : World} {v : Value} {l : List α} (h : RdV L C w v l) (hb : Below D w w') (hc : C ≤ D) : RdV L C w' v l := by
 obtain ⟨o, c, e, r⟩ := h
 exact ⟨o, c, e, r.kept hb hc⟩
theorem RdV.le {α : Type} {L : Lay α} {C D : Nat} {w : World} {v : Value} {l : List α} (h : RdV L C w v l) (hc : C ≤ D) : RdV L D w v l := by
 obtain ⟨o, c, e, r⟩ := h
 exact ⟨o, c, e, r.le hc⟩
abbrev InL {α : Type} (L : Lay α) (e : TypeId) (lo hi : Nat) (w : World) (v : Value) (l : List α) : Prop := InRow lo hi w e L.k v l.length (l.flatMap L.cs)
theorem InL.rd {α : Type} {L : Lay α} {e : TypeId} {lo hi : Nat} {w : World} {v : Value} {l : List α} (h : InL L e lo hi w v l) : RdV L hi w v l := by
 have h0 := h.1
 rcases h.1.2 with ⟨h1, h2⟩ | ⟨g, cap, cur, hv, _⟩
 ·have e : l = [] := List.eq_nil_of_length_eq_zero h2
  subst e
  exact ⟨none, 0, by simpa using h1, .inl rfl⟩
 ·subst hv
  refine ⟨_, cap, rfl, ?_⟩
  rcases ownL.rd (L := L) h0 with h' | ⟨b, off, ho, hb, r⟩
  ·exact .inl h'
  ·cases ho
   exact .inr ⟨_, _, rfl, h.2 _ rfl, r⟩

/-- A slice of nothing has no room. -/
def capV (v : Value) : Prop := ∀ n c, v = .slice none n c → c = 0
theorem InRow.cap {lo hi : Nat} {w : World} {e : TypeId} {size : Nat} {v : Value} {n : Nat} {xs : List Value} (h : InRow lo hi w e size v n xs) : capV v := by
 intro n' c hv
 rcases h.1.2 with ⟨h1, _⟩ | ⟨g, cap, cur, h1, _⟩
 ·rw [h1] at hv; injection hv with _ _ h3; exact h3.symm
 ·rw [h1] at hv; injection hv with h3 _ _; cases h3

end Go.Proofs.YtljogkoaaidlcaaDoor

/- The laws' marks in a row of records of whole numbers, whatever their layout: what stands there behind them. -/
namespace Go.Proofs.YtljogkoaaidlcaaDoor
open Go.ChangeShapes Go.WideShapes Go.ChangeAt Go.RowKit Go.Joins
set_option linter.unusedVariables false
set_option linter.unusedSimpArgs false

variable {α : Type}

/-- n records, marked from k on, m numbers each. -/
def mkL (f : Int → α) (m : Nat) (k : Int) (n : Nat) : List α := (List.range n).map (fun (i : Nat) => f (k + (m : Int) * (i : Int)))
theorem mkL_length (f : Int → α) (m : Nat) (k : Int) (n : Nat) : (mkL f m k n).length = n := by simp [mkL]
theorem mkL_succ (f : Int → α) (m : Nat) (k : Int) (n : Nat) : mkL f m k (n + 1) = mkL f m k n ++ [f (k + (m : Int) * (n : Int))] := by simp [mkL, List.range_succ]
def mkTo (f : Int → α) (m : Nat) (l : List α) (k : Int) (i : Nat) : List α := mkL f m k i ++ l.drop i
theorem mkTo_zero (f : Int → α) (m : Nat) (l : List α) (k : Int) : mkTo f m l k 0 = l := by simp [mkTo, mkL]
theorem mkTo_all (f : Int → α) (m : Nat) (l : List α) (k : Int) : mkTo f m l k l.length = mkL f m k l.length := by simp [mkTo]
theorem mkTo_length (f : Int → α) (m : Nat) (l : List α) (k : Int) (i : Nat) (h : i ≤ l.length) : (mkTo f m l k i).length = l.length := by simp [mkTo, mkL_length]; omega
theorem mkTo_set (f : Int → α) (m : Nat) (l : List α) (k : Int) (i : Nat) (h : i < l.length) : (mkTo f m l k i).set i (f (k + (m : Int) * (i : Int))) = mkTo f m l k (i + 1) := by
 unfold mkTo
 rw [List.drop_eq_getElem_cons h, List.set_append_right _ _ (by rw [mkL_length]; exact Nat.le_refl _), mkL_length, Nat.sub_self, List.set_cons_zero, mkL_succ, List.append_assoc]
 rfl
theorem grown_set1 {w wr : World} {base g c n : Nat} {e : TypeId} {size : Nat} {xs : List Value} {j : Nat} {u : Value} (hown : wr.ownsRow base e size (.slice (some ⟨g, 0, none⟩) n c) n xs) (hg : w.grownBy wr (some g)) :
  (wr.setCell ⟨g, j, none⟩ u).ownsRow base e size (.slice (some ⟨g, 0, none⟩) n c) n (xs.set j u) ∧ w.grownBy (wr.setCell ⟨g, j, none⟩ u) (some g) := by
 have h := hown.stored j u
 exact ⟨h.1, ⟨hg.os, hg.tape, hg.output, by have := h.2.size; have := hg.size; omega, fun i hi hne => (h.2.block i (Nat.lt_of_lt_of_le hi hg.size) hne).trans (hg.block i hi hne)⟩⟩

end Go.Proofs.YtljogkoaaidlcaaDoor

/- Bytes by layout, and the laws' own helpers over them, in the words of Fr. -/
namespace Go.Proofs.YtljogkoaaidlcaaDoor
open Go.ChangeShapes Go.WideShapes Go.ChangeAt Go.RowKit Go.Joins
set_option linter.unusedVariables false
set_option linter.unusedSimpArgs false

def layB : Lay Int := ⟨1, fun a => [.int .u8 a], 0, fun _ => rfl⟩
theorem flat_bytes : ∀ l : List Int, l.flatMap layB.cs = l.map (Value.int .u8)
 | [] => rfl
 | a :: l => by rw [List.flatMap_cons, flat_bytes l]; rfl
theorem ownB_lay {w : World} {base : Nat} {v : Value} {l : List Int} : ownB w base v l ↔ ownL layB 5 w base v l := by
 unfold ownB ownL; rw [flat_bytes]; exact Iff.rfl
theorem RdB_lay {C : Nat} {w : World} {o : Option Addr} {l : List Int} : RdB C w o l ↔ RdL layB C w o l := by
 constructor
 ·rintro (h | ⟨b, off, ho, hb, r⟩)
  ·exact .inl h
  ·refine .inr ⟨b, off, ho, hb, fun i hi j hj => ?_⟩
   have hj0 : j = 0 := by have : j < 1 := hj; omega
   subst hj0
   have := r i hi
   rw [show layB.k = 1 from rfl, Nat.mul_one, Nat.add_zero]
   exact this
 ·rintro (h | ⟨b, off, ho, hb, r⟩)
  ·exact .inl h
  ·refine .inr ⟨b, off, ho, hb, fun i hi => ?_⟩
   have := r i hi 0 (by decide)
   rw [show layB.k = 1 from rfl, Nat.mul_one, Nat.add_zero] at this
   exact this
theorem RdB_rd {w : World} {o : Option Addr} {l : List Int} : RdL layB w.heap.size w o l ↔ Rd w o l := RdB_lay.symm
abbrev InB := InL layB 5
theorem InB.of {w : World} {base : Nat} {v : Value} {l : List Int} (h : ownB w base v l) : InB base w.heap.size w v l := InRow.of (ownB_lay.1 h)

theorem eqByteS_sh (v1 v2 : Value) (l : List Int) (w : World) (h1 : RdV layB w.heap.size w v1 l) (h2 : RdV layB w.heap.size w v2 l) (hl : l.length ≤ 1048576) :
  Calls Tryd.prog 8 #[v1, v2] w fun e w' => e = .returned (.bool true) ∧ Below w.heap.size w w' := by
 obtain ⟨o, c, rfl, r⟩ := h1
 obtain ⟨o2, c2, rfl, r2⟩ := h2
 exact eqByteS_same o o2 c c2 l w (RdB_rd.1 r) (RdB_rd.1 r2) hl
theorem markByteS_sh (lo hi : Nat) (v : Value) (l : List Int) (k : Int) (w : World) (hv : InB lo hi w v l) (h0 : 0 ≤ k) (h1 : k ≤ 1073741824) (hlen : l.length ≤ 1048576) :
  Calls Tryd.prog 11 #[v, .int .i64 k] w fun e w' => e = .returned (.int .i64 (k + l.length)) ∧ InB lo hi w' v (markL k l.length) ∧ w.grownBy w' v.ownBlock := by
 refine (markByteS_any lo v l k w (ownB_lay.2 hv.1) h0 h1 hlen).mono ?_
 rintro e w' ⟨rfl, ho, hg⟩
 exact ⟨rfl, ⟨ownB_lay.1 ho, hv.2⟩, hg⟩
theorem heldByteS_sh (v : Value) (n C : Nat) (k : Int) (w : World) (hR : RdV layB C w v (markL k n)) (hn : (markL k n).length = n) (hC : C ≤ w.heap.size) (h0 : 0 ≤ k) (h1 : k ≤ 1073741824) (hlen : n ≤ 1048576) :
  Calls Tryd.prog 12 #[v, .int .i64 k] w fun e w' => e = .returned (.int .i64 (k + n)) ∧ w = w' := by
 obtain ⟨o, c, rfl, r⟩ := hR
 rw [hn]
 exact heldByteS_any o c n k w (RdB_rd.1 (r.le hC)) h0 h1 hlen

end Go.Proofs.YtljogkoaaidlcaaDoor

