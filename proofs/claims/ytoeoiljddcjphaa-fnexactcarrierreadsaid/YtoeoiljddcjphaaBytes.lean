/- Slices of bytes: how they read. -/
import Derived.Test.YtoeoiljddcjphaaBase
import Derived.RegionTactic
import Derived.Deep.QuietTactic
import Derived.BigQuiet
namespace Go.Proofs.Ytoeoiljddcjphaa
open Go.ChangeShapes Go.WideShapes Go.ChangeAt Go.RowKit Go.Joins
set_option linter.unusedVariables false
set_option linter.unusedSimpArgs false

/-- The slice that begins at o reads as the bytes l. -/
def Rd (w : World) (o : Option Addr) (l : List Int) : Prop :=
  l = [] ∨ ∃ b off, o = some ⟨b, off, none⟩ ∧ b < w.heap.size ∧ ∀ i, i < l.length → w.cell? ⟨b, off + i, none⟩ = some (.int .u8 (l.getD i 0))
def isB (l : List Int) : Prop := ∀ n ∈ l, 0 ≤ n ∧ n ≤ 255

theorem Rd.kept {w w' : World} {o : Option Addr} {l : List Int} (h : Rd w o l) (hb : Below w.heap.size w w') : Rd w' o l := by
  rcases h with h | ⟨b, off, ho, hlt, hc⟩
  · exact .inl h
  · exact .inr ⟨b, off, ho, Nat.lt_of_lt_of_le hlt hb.size, fun i hi => (hb.cell (p := ⟨b, off + i, none⟩) hlt).trans (hc i hi)⟩

theorem isB.get {l : List Int} (h : isB l) (k : Nat) : 0 ≤ l.getD k 0 ∧ l.getD k 0 ≤ 255 := by
  by_cases hk : k < l.length
  · have := h (l[k]) (List.getElem_mem hk)
    simpa [List.getD_eq_getElem?_getD, List.getElem?_eq_getElem hk] using this
  · simp [List.getD_eq_getElem?_getD, List.getElem?_eq_none (Nat.le_of_not_lt hk)]

/-- A row of the call's own that holds the bytes l. -/
abbrev ownB (w : World) (base : Nat) (v : Value) (l : List Int) : Prop := w.ownsRow base 5 1 v l.length (l.map (Value.int .u8))

theorem ownB.rd {w : World} {base g n cap : Nat} {l : List Int} (h : ownB w base (.slice (some ⟨g, 0, none⟩) n cap) l) : Rd w (some ⟨g, 0, none⟩) l := by
  have hn : n = l.length := by
    rcases h.2 with ⟨h', _⟩ | ⟨g', cap', cur, h', _⟩
    · simp at h'
    · simp at h'; exact h'.2.1
  subst hn
  refine .inr ⟨g, 0, rfl, ?_, fun i hi => ?_⟩
  · exact (h.lt g rfl).2
  · have := h.cellAt i (by omega)
    rw [Nat.zero_add, this]
    simp [hi]

theorem ownB.open {w : World} {base : Nat} {v : Value} {l : List Int} (h : ownB w base v l) : ∃ o cap, v = .slice o l.length cap ∧ Rd w o l := by
  have h0 := h
  rcases h.2 with ⟨h1, h2⟩ | ⟨g, cap, cur, hv, _⟩
  · have e : l = [] := List.eq_nil_of_length_eq_zero h2
    subst e
    exact ⟨none, 0, by simpa using h1, .inl rfl⟩
  · subst hv
    exact ⟨_, cap, rfl, h0.rd⟩
theorem ownB.pos {w : World} {base : Nat} {v : Value} {l : List Int} (h : ownB w base v l) (hp : 0 < l.length) : ∃ g cap, v = .slice (some ⟨g, 0, none⟩) l.length cap ∧ base ≤ g := by
  rcases h.2 with ⟨h1, h2⟩ | ⟨g, cap, cur, hv, hg, _⟩
  · omega
  · exact ⟨g, cap, hv, hg⟩

theorem Rd.news {w : World} {ad : Addr} {l : List Int} (h : Rd w (some ad) l) : ∀ j u, (l.map (Value.int .u8))[j]? = some u → w.cell? (ad.add j) = some u := by
  intro j u hj
  rcases h with h | ⟨b, off, ho, _, hc⟩
  · subst h; simp at hj
  · cases ho
    have hlt : j < l.length := by
      rcases Nat.lt_or_ge j l.length with h | h
      · exact h
      · simp [List.getElem?_eq_none h] at hj
    have e2 : (⟨b, off, none⟩ : Addr).add j = ⟨b, off + j, none⟩ := by by_cases h : j = 0 <;> simp [Addr.add, h]
    rw [e2, hc j hlt]
    simpa [hlt] using hj
theorem Rd.nil {w : World} {l : List Int} (h : Rd w none l) : l = [] := by
  rcases h with h | ⟨b, off, ho, _⟩
  · exact h
  · cases ho

theorem ownB.rdo {w : World} {base n cap : Nat} {o : Option Addr} {l : List Int} (h : ownB w base (.slice o n cap) l) : Rd w o l := by
  obtain ⟨o', cap', e, r⟩ := h.open
  simp at e
  rw [e.1]; exact r

/-- As Rd, in a block below C. -/
def RdB (C : Nat) (w : World) (o : Option Addr) (l : List Int) : Prop :=
  l = [] ∨ ∃ b off, o = some ⟨b, off, none⟩ ∧ b < C ∧ ∀ i, i < l.length → w.cell? ⟨b, off + i, none⟩ = some (.int .u8 (l.getD i 0))
theorem Rd.toB {w : World} {o : Option Addr} {l : List Int} (h : Rd w o l) : RdB w.heap.size w o l := h
theorem RdB.rd {C : Nat} {w : World} {o : Option Addr} {l : List Int} (h : RdB C w o l) (hc : C ≤ w.heap.size) : Rd w o l := by
  rcases h with h | ⟨b, off, ho, hb, r⟩
  · exact .inl h
  · exact .inr ⟨b, off, ho, Nat.lt_of_lt_of_le hb hc, r⟩
theorem RdB.kept {C D : Nat} {w w' : World} {o : Option Addr} {l : List Int} (h : RdB C w o l) (hb : Below D w w') (hc : C ≤ D) : RdB C w' o l := by
  rcases h with h | ⟨b, off, ho, hlt, r⟩
  · exact .inl h
  · exact .inr ⟨b, off, ho, hlt, fun i hi => (hb.cell (p := ⟨b, off + i, none⟩) (Nat.lt_of_lt_of_le hlt hc)).trans (r i hi)⟩
theorem own_kept {w w' : World} {base : Nat} {e : TypeId} {size : Nat} {v : Value} {n : Nat} {xs : List Value} (h : w.ownsRow base e size v n xs) (hb : Below w.heap.size w w') : w'.ownsRow base e size v n xs :=
  h.kept (row := none) ⟨hb.os, hb.tape, hb.output, hb.size, fun k hk _ => hb.block k hk⟩ (by cases v.ownBlock <;> simp)

/-- Bytes that came in. -/
theorem open_bytes_cells {H : Type} {enc : TypeId × Value → H} {W : World} {fuel : Nat} {cs : List Value} {x : DataW H × List MemPlace} (h : DataW.trod enc Try.prog W 0 (fun _ => true) true fuel 22 cs = some x) :
    ∃ (o : Option Addr) (cap : Nat) (l : List Int), cs = [.slice o l.length cap] ∧ l.length ≤ maxLen ∧ Rd W o l ∧ isB l := by
  rcases open_ints Try.underlying22 Try.underlying5 (by kernel_rfl) h with ⟨hcs, _⟩ | ⟨a, len, cap, zs, hcs, _, hl, hm, hz, _, hcell, hwz⟩
  · exact ⟨none, 0, [], hcs, Nat.zero_le _, .inl rfl, fun n hn => by cases hn⟩
  · have hz' : zs.length = cap := by simpa using hz
    have htk : (zs.take len).length = len := by simp; omega
    refine ⟨some a, cap, zs.take len, by rw [htk]; exact hcs, by omega, ?_, ?_⟩
    · by_cases h0 : len = 0
      · left; simp [h0]
      · right
        obtain ⟨b, off, spot⟩ := a
        have hc := hcell 0 (by omega)
        have hspot : spot = none := by simpa [Addr.add] using World.cell?_spot hc
        subst hspot
        refine ⟨b, off, rfl, ?_, fun i hi => ?_⟩
        · have hc' : W.cell? ⟨b, off, none⟩ = some (.int .u8 (zs.getD 0 0)) := by simpa [Addr.add] using hc
          rcases Nat.lt_or_ge b W.heap.size with h | h
          · exact h
          · simp [World.cell?, Array.getElem?_eq_none h] at hc'
        · have h1 := hcell i (by omega)
          have e : (zs.take len).getD i 0 = zs.getD i 0 := by
            have : i < len := by omega
            simp [List.getD_eq_getElem?_getD, List.getElem?_take, this]
          have e2 : (⟨b, off, none⟩ : Addr).add i = ⟨b, off + i, none⟩ := by by_cases h : i = 0 <;> simp [Addr.add, h]
          rw [e, ← e2]
          exact h1
    · intro n hn
      have := hwz n (List.mem_of_mem_take hn)
      simpa [Lit.wf, IntKind.min, IntKind.max, IntKind.signed, IntKind.bits] using this

set_option maxRecDepth 100000 in
theorem open_bytes {H : Type} {enc : TypeId × Value → H} {W : World} {base : Nat} {v : Value} {d : DataW H} {p : List MemPlace}
    (hv : Value.okWide Try.prog W .any base 22 v) (h : DataW.Trod enc Try.prog W 0 (fun _ => true) true 22 v d p) :
    ∃ (o : Option Addr) (cap : Nat) (l : List Int), v = .slice o l.length cap ∧ l.length ≤ maxLen ∧ Rd W o l ∧ isB l := by
  obtain ⟨a0, len0, cap0, rfl⟩ := okWide_slice Try.underlying22 hv
  obtain ⟨fuel, hf⟩ := h
  obtain ⟨o, cap, l, hcs, r⟩ := open_bytes_cells hf
  simp [Value.cells] at hcs
  obtain ⟨rfl, rfl, rfl⟩ := hcs
  exact ⟨_, _, l, rfl, r⟩

theorem infoU8 : (Try.prog.info? 5).map (fun i => (i.zero, i.size, i.bytes)) = some (some (.int .u8 0), 1, 1) := by kernel_rfl

theorem getD_lt (l : List Int) (k : Nat) (h : k < l.length) : l.getD k 0 = l[k] := by simp [h]
theorem take_succ_getD (l : List Int) (k : Nat) (h : k < l.length) : l.take (k + 1) = l.take k ++ [l.getD k 0] := by
  rw [List.take_succ_eq_append_getElem h, getD_lt l k h]

end Go.Proofs.Ytoeoiljddcjphaa
