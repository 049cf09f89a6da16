/- Several texts in one: Bytes, Boxes. -/
import Derived.RegionTactic
import Derived.Deep.QuietTactic
import Derived.BigQuiet
import Derived.Test.YtpjkcgaohoinaaaGreatQLearn01
namespace Go.Proofs.YtpjkcgaohoinaaaGreat
open Go.ChangeShapes Go.WideShapes Go.ChangeAt Go.RowKit Go.Joins
set_option linter.unusedVariables false
set_option linter.unusedSimpArgs false

def Rd (w : World) (o : Option Addr) (l : List Int) : Prop :=
 l = [] ∨ ∃ b off, o = some ⟨b, off, none⟩ ∧ b < w.heap.size ∧ ∀ i, i < l.length → w.cell? ⟨b, off + i, none⟩ = some (.int .u8 (l.getD i 0))
def isB (l : List Int) : Prop := ∀ n ∈ l, 0 ≤ n ∧ n ≤ 255

theorem Rd.kept {w w' : World} {o : Option Addr} {l : List Int} (h : Rd w o l) (hb : Below w.heap.size w w') : Rd w' o l := by
 rcases h with h | ⟨b, off, ho, hlt, hc⟩
 ·exact .inl h
 ·exact .inr ⟨b, off, ho, Nat.lt_of_lt_of_le hlt hb.size, fun i hi => (hb.cell (p := ⟨b, off + i, none⟩) hlt).trans (hc i hi)⟩

theorem isB.get {l : List Int} (h : isB l) (k : Nat) : 0 ≤ l.getD k 0 ∧ l.getD k 0 ≤ 255 := by
 by_cases hk : k < l.length
 ·have := h (l[k]) (List.getElem_mem hk)
  simpa [List.getD_eq_getElem?_getD, List.getElem?_eq_getElem hk] using this
 ·simp [List.getD_eq_getElem?_getD, List.getElem?_eq_none (Nat.le_of_not_lt hk)]

abbrev ownB (w : World) (base : Nat) (v : Value) (l : List Int) : Prop := w.ownsRow base 5 1 v l.length (l.map (Value.int .u8))

theorem ownB.rd {w : World} {base g n cap : Nat} {l : List Int} (h : ownB w base (.slice (some ⟨g, 0, none⟩) n cap) l) : Rd w (some ⟨g, 0, none⟩) l := by
 have hn : n = l.length := by
  rcases h.2 with ⟨h', _⟩ | ⟨g', cap', cur, h', _⟩
  ·simp at h'
  ·simp at h'; exact h'.2.1
 subst hn
 refine .inr ⟨g, 0, rfl, ?_, fun i hi => ?_⟩
 ·exact (h.lt g rfl).2
 ·have := h.cellAt i (by omega)
  rw [Nat.zero_add, this]
  simp [hi]

theorem ownB.open {w : World} {base : Nat} {v : Value} {l : List Int} (h : ownB w base v l) : ∃ o cap, v = .slice o l.length cap ∧ Rd w o l := by
 have h0 := h
 rcases h.2 with ⟨h1, h2⟩ | ⟨g, cap, cur, hv, _⟩
 ·have e : l = [] := List.eq_nil_of_length_eq_zero h2
  subst e
  exact ⟨none, 0, by simpa using h1, .inl rfl⟩
 ·subst hv
  exact ⟨_, cap, rfl, h0.rd⟩
theorem ownB.pos {w : World} {base : Nat} {v : Value} {l : List Int} (h : ownB w base v l) (hp : 0 < l.length) : ∃ g cap, v = .slice (some ⟨g, 0, none⟩) l.length cap ∧ base ≤ g := by
 rcases h.2 with ⟨h1, h2⟩ | ⟨g, cap, cur, hv, hg, _⟩
 ·omega
 ·exact ⟨g, cap, hv, hg⟩

theorem Rd.news {w : World} {ad : Addr} {l : List Int} (h : Rd w (some ad) l) : ∀ j u, (l.map (Value.int .u8))[j]? = some u → w.cell? (ad.add j) = some u := by
 intro j u hj
 rcases h with h | ⟨b, off, ho, _, hc⟩
 ·subst h; simp at hj
 ·cases ho
  have hlt : j < l.length := by
   rcases Nat.lt_or_ge j l.length with h | h
   ·exact h
   ·simp [List.getElem?_eq_none h] at hj
  have e2 : (⟨b, off, none⟩ : Addr).add j = ⟨b, off + j, none⟩ := by by_cases h : j = 0 <;> simp [Addr.add, h]
  rw [e2, hc j hlt]
  simpa [hlt] using hj
theorem Rd.nil {w : World} {l : List Int} (h : Rd w none l) : l = [] := by
 rcases h with h | ⟨b, off, ho, _⟩
 ·exact h
 ·cases ho

def RdB (C : Nat) (w : World) (o : Option Addr) (l : List Int) : Prop :=
 l = [] ∨ ∃ b off, o = some ⟨b, off, none⟩ ∧ b < C ∧ ∀ i, i < l.length → w.cell? ⟨b, off + i, none⟩ = some (.int .u8 (l.getD i 0))
theorem RdB.rd {C : Nat} {w : World} {o : Option Addr} {l : List Int} (h : RdB C w o l) (hc : C ≤ w.heap.size) : Rd w o l := by
 rcases h with h | ⟨b, off, ho, hb, r⟩
 ·exact .inl h
 ·exact .inr ⟨b, off, ho, Nat.lt_of_lt_of_le hb hc, r⟩
theorem RdB.kept {C D : Nat} {w w' : World} {o : Option Addr} {l : List Int} (h : RdB C w o l) (hb : Below D w w') (hc : C ≤ D) : RdB C w' o l := by
 rcases h with h | ⟨b, off, ho, hlt, r⟩
 ·exact .inl h
 ·exact .inr ⟨b, off, ho, hlt, fun i hi => (hb.cell (p := ⟨b, off + i, none⟩) (Nat.lt_of_lt_of_le hlt hc)).trans (r i hi)⟩
theorem own_kept {w w' : World} {base : Nat} {e : TypeId} {size : Nat} {v : Value} {n : Nat} {xs : List Value} (h : w.ownsRow base e size v n xs) (hb : Below w.heap.size w w') : w'.ownsRow base e size v n xs :=
 h.kept (row := none) ⟨hb.os, hb.tape, hb.output, hb.size, fun k hk _ => hb.block k hk⟩ (by cases v.ownBlock <;> simp)

theorem getD_lt (l : List Int) (k : Nat) (h : k < l.length) : l.getD k 0 = l[k] := by simp [h]
theorem take_succ_getD (l : List Int) (k : Nat) (h : k < l.length) : l.take (k + 1) = l.take k ++ [l.getD k 0] := by
 rw [List.take_succ_eq_append_getElem h, getD_lt l k h]

end Go.Proofs.YtpjkcgaohoinaaaGreat

namespace Go.Proofs.YtpjkcgaohoinaaaGreat
open Go.ChangeShapes Go.WideShapes Go.ChangeAt Go.RowKit Go.Joins
set_option linter.unusedVariables false
set_option linter.unusedSimpArgs false

def boxed (k : Nat) (a b f s : Int) (v : Value) (w : World) : Prop :=
 w.cell? ⟨k, 0, none⟩ = some (.int .i64 a) ∧ w.cell? ⟨k, 1, none⟩ = some (.int .i64 b) ∧ w.cell? ⟨k, 2, none⟩ = some (.int .i64 f) ∧ w.cell? ⟨k, 3, none⟩ = some (.int .i64 s) ∧ w.cell? ⟨k, 4, none⟩ = some v
theorem boxed.kept {k : Nat} {a b f s : Int} {v : Value} {w w' : World} {B : Nat} (h : boxed k a b f s v w) (hb : Below B w w') (hk : k < B) : boxed k a b f s v w' :=
 ⟨(hb.cell (p := ⟨k, 0, none⟩) hk).trans h.1, (hb.cell (p := ⟨k, 1, none⟩) hk).trans h.2.1, (hb.cell (p := ⟨k, 2, none⟩) hk).trans h.2.2.1, (hb.cell (p := ⟨k, 3, none⟩) hk).trans h.2.2.2.1, (hb.cell (p := ⟨k, 4, none⟩) hk).trans h.2.2.2.2⟩
def empty5 (k : Nat) (w : World) : Prop := boxed k 0 0 0 0 (.slice none 0 0) w ∧ (w.frozen? ⟨k, 0, none⟩ = false ∧ w.frozen? ⟨k, 1, none⟩ = false ∧ w.frozen? ⟨k, 2, none⟩ = false ∧ w.frozen? ⟨k, 3, none⟩ = false ∧ w.frozen? ⟨k, 4, none⟩ = false)
theorem empty5.kept {k : Nat} {w w' : World} {B : Nat} (h : empty5 k w) (hb : Below B w w') (hk : k < B) : empty5 k w' :=
 ⟨h.1.kept hb hk, (hb.frozen (p := ⟨k, 0, none⟩) hk).trans h.2.1, (hb.frozen (p := ⟨k, 1, none⟩) hk).trans h.2.2.1, (hb.frozen (p := ⟨k, 2, none⟩) hk).trans h.2.2.2.1, (hb.frozen (p := ⟨k, 3, none⟩) hk).trans h.2.2.2.2.1, (hb.frozen (p := ⟨k, 4, none⟩) hk).trans h.2.2.2.2.2⟩
end Go.Proofs.YtpjkcgaohoinaaaGreat

