/- Bytes by layout, and the laws' own helpers over them, in the words of Fr. -/
import Derived.Test.YtoeoiljddcjphaaFr
import Derived.Test.YtoeoiljddcjphaaLBytes
import Derived.Test.YtoeoiljddcjphaaLMark
namespace Go.Proofs.Ytoeoiljddcjphaa
open Go.ChangeShapes Go.WideShapes Go.ChangeAt Go.RowKit Go.Joins
set_option linter.unusedVariables false
set_option linter.unusedSimpArgs false

def layB : Lay Int := ⟨1, fun a => [.int .u8 a], 0, fun _ => rfl⟩
theorem flat_bytes : ∀ l : List Int, l.flatMap layB.cs = l.map (Value.int .u8)
  | [] => rfl
  | a :: l => by rw [List.flatMap_cons, flat_bytes l]; rfl
theorem ownB_lay {w : World} {base : Nat} {v : Value} {l : List Int} : ownB w base v l ↔ ownL layB 5 w base v l := by
  unfold ownB ownL; rw [flat_bytes]; exact Iff.rfl
theorem RdB_lay {C : Nat} {w : World} {o : Option Addr} {l : List Int} : RdB C w o l ↔ RdL layB C w o l := by
  constructor
  · rintro (h | ⟨b, off, ho, hb, r⟩)
    · exact .inl h
    · refine .inr ⟨b, off, ho, hb, fun i hi j hj => ?_⟩
      have hj0 : j = 0 := by have : j < 1 := hj; omega
      subst hj0
      have := r i hi
      rw [show layB.k = 1 from rfl, Nat.mul_one, Nat.add_zero]
      exact this
  · rintro (h | ⟨b, off, ho, hb, r⟩)
    · exact .inl h
    · refine .inr ⟨b, off, ho, hb, fun i hi => ?_⟩
      have := r i hi 0 (by decide)
      rw [show layB.k = 1 from rfl, Nat.mul_one, Nat.add_zero] at this
      exact this
theorem RdB_rd {w : World} {o : Option Addr} {l : List Int} : RdL layB w.heap.size w o l ↔ Rd w o l := RdB_lay.symm
abbrev InB := InL layB 5
theorem InB.of {w : World} {base : Nat} {v : Value} {l : List Int} (h : ownB w base v l) : InB base w.heap.size w v l := InRow.of (ownB_lay.1 h)

theorem toByteS_sh (v : Value) (l : List Int) (w : World) (hR : RdV layB w.heap.size w v l) (hB8 : isB l) (hlen : l.length ≤ 1048576) :
    Calls Try.prog 16 #[v] w fun e w' => ∃ v', e = .returned v' ∧ InB w.heap.size w'.heap.size w' v' l ∧ Below w.heap.size w w' := by
  obtain ⟨o, c, rfl, r⟩ := hR
  refine (toByteS_any o c l w (RdB_rd.1 r) hB8 hlen).mono ?_
  rintro e w' ⟨g, rfl, ho, hb⟩
  exact ⟨_, rfl, InB.of ho, hb⟩
theorem eqByteS_sh (v1 v2 : Value) (l : List Int) (w : World) (h1 : RdV layB w.heap.size w v1 l) (h2 : RdV layB w.heap.size w v2 l) (hl : l.length ≤ 1048576) :
    Calls Try.prog 19 #[v1, v2] w fun e w' => e = .returned (.bool true) ∧ Below w.heap.size w w' := by
  obtain ⟨o, c, rfl, r⟩ := h1
  obtain ⟨o2, c2, rfl, r2⟩ := h2
  exact eqByteS_same o o2 c c2 l w (RdB_rd.1 r) (RdB_rd.1 r2) hl
theorem markByteS_sh (lo hi : Nat) (v : Value) (l : List Int) (k : Int) (w : World) (hv : InB lo hi w v l) (h0 : 0 ≤ k) (h1 : k ≤ 1073741824) (hlen : l.length ≤ 1048576) :
    Calls Try.prog 20 #[v, .int .i64 k] w fun e w' => e = .returned (.int .i64 (k + l.length)) ∧ InB lo hi w' v (markL k l.length) ∧ w.grownBy w' v.ownBlock := by
  refine (markByteS_any lo v l k w (ownB_lay.2 hv.1) h0 h1 hlen).mono ?_
  rintro e w' ⟨rfl, ho, hg⟩
  exact ⟨rfl, ⟨ownB_lay.1 ho, hv.2⟩, hg⟩
theorem heldByteS_sh (v : Value) (n C : Nat) (k : Int) (w : World) (hR : RdV layB C w v (markL k n)) (hn : (markL k n).length = n) (hC : C ≤ w.heap.size) (h0 : 0 ≤ k) (h1 : k ≤ 1073741824) (hlen : n ≤ 1048576) :
    Calls Try.prog 79 #[v, .int .i64 k] w fun e w' => e = .returned (.int .i64 (k + n)) ∧ w = w' := by
  obtain ⟨o, c, rfl, r⟩ := hR
  rw [hn]
  exact heldByteS_any o c n k w (RdB_rd.1 (r.le hC)) h0 h1 hlen

end Go.Proofs.Ytoeoiljddcjphaa
