/- What is drawn for FnPackets: a packet, and bytes. -/
import Derived.Test.YtoeoiljddcjphaaDoorQCarriers08
import Derived.Test.YtoeoiljddcjphaaDoorQCarriers10
import Derived.Test.YtoeoiljddcjphaaDoorQCarriers12
import Derived.Test.YtoeoiljddcjphaaDoorQCarriers05
namespace Go.Proofs.YtoeoiljddcjphaaDoor
open Go.ChangeShapes Go.WideShapes Go.ChangeAt Go.RowKit Go.Joins
set_option linter.unusedVariables false
set_option linter.unusedSimpArgs false

theorem own_nilP {w : World} {base n c : Nat} {o : Option Addr} {l : List Int} (h : ownB w base (.slice o n c) l) : o = none → c = 0 := by
 intro e
 rcases h.2 with ⟨h1, _⟩ | ⟨g, cap, cur, h1, _⟩
 ·simp at h1; exact h1.2.2
 ·simp [e] at h1
theorem own_cap {w : World} {base g n c : Nat} {l : List Int} (h : ownB w base (.slice (some ⟨g, 0, none⟩) n c) l) : n ≤ c ∧ c ≤ maxLen := by
 rcases h.2 with ⟨h1, _⟩ | ⟨g', cap', cur, h', _, _, hn, hm, _⟩
 ·simp at h1
 ·simp only [Value.slice.injEq] at h'
  omega
theorem rd_take {w : World} {o : Option Addr} {l : List Int} (h : Rd w o l) (i : Nat) : Rd w o (l.take i) := by
 rcases h with h | ⟨b, off, ho, hb, hc⟩
 ·subst h; exact .inl (by simp)
 ·refine .inr ⟨b, off, ho, hb, fun j hj => ?_⟩
  have hj2 : j < i ∧ j < l.length := by simp at hj; omega
  rw [hc j hj2.2]
  simp [List.getD_eq_getElem?_getD, List.getElem?_take, hj2.1]

/-- What DrawPacketRead answers. -/
def drPost (w : World) (e : Ending) (w' : World) : Prop := ∃ (o' : Option Addr) (c' : Nat) (L : List Int), e = .returned (.slice o' L.length c') ∧ Rd w' o' L ∧ isB L ∧ L.length ≤ 100 ∧ L.length ≤ c' ∧ c' ≤ maxLen ∧ Below w.heap.size w w'
theorem drPost_mk {w w' : World} {base n c g : Nat} {P : List Int} (h : ownB w' base (.slice (some ⟨g, 0, none⟩) n c) P) (hB : isB P) (hl : P.length ≤ 100) (hb : Below w.heap.size w w') : drPost w (.returned (.slice (some ⟨g, 0, none⟩) n c)) w' := by
 have hn : n = P.length := by
  rcases h.2 with ⟨h1, _⟩ | ⟨g', cap', cur, h', _⟩
  ·simp at h1
  ·simp at h'; exact h'.2.1
 subst hn
 exact ⟨_, c, P, rfl, h.rd, hB, hl, (own_cap h).1, (own_cap h).2, hb⟩
end Go.Proofs.YtoeoiljddcjphaaDoor

