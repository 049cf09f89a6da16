/- The laws' own helpers over rows of flows. -/
import Derived.Test.YtncdjmniphnpgaaLMarkF
import Derived.Test.YtncdjmniphnpgaaLFlow
import Derived.Test.YtncdjmniphnpgaaGrow
import Derived.Test.YtncdjmniphnpgaaFr
namespace Go.Proofs.Ytncdjmniphnpgaa
open Go.ChangeShapes Go.WideShapes Go.ChangeAt Go.RowKit Go.Joins
set_option linter.unusedVariables false
set_option linter.unusedSimpArgs false

set_option maxHeartbeats 2000000 in
theorem eqFlowS_same (o1 o2 : Option Addr) (c1 c2 : Nat) (l : List (Int × Int)) (w : World) (h1 : RdL layF w.heap.size w o1 l) (h2 : RdL layF w.heap.size w o2 l) (hl : l.length ≤ 1048576) :
    Calls Try.prog 53 #[.slice o1 l.length c1, .slice o2 l.length c2] w fun e w' => e = .returned (.bool true) ∧ Below w.heap.size w w' := by
  go_enter Try.func53, Try.ntmps53
  go_wp2
  go_loopw [5] (fun i wr => ∃ k : Nat, k ≤ l.length ∧ i = .int .i64 k ∧ Hid (Below w.heap.size w wr))
    (fun i _ => l.length - (intOf i).toNat)
  case atStart => exact ⟨0, Nat.zero_le _, rfl, Below.refl _ _⟩
  case round =>
    obtain ⟨k, hk, rfl, HB⟩ := hrel
    by_cases hlt : k < l.length
    · rcases h1 with h1 | ⟨b1, off1, rfl, hb1, r1⟩
      · subst h1; simp at hlt
      rcases h2 with h2 | ⟨b2, off2, rfl, hb2, r2⟩
      · subst h2; simp at hlt
      obtain ⟨⟨x, y⟩, hxy⟩ : ∃ s, l.getD k (0, 0) = s := ⟨_, rfl⟩
      have p0 := r1 k hlt 0 (by decide)
      have p1 := r1 k hlt 1 (by decide)
      have q0 := r2 k hlt 0 (by decide)
      have q1 := r2 k hlt 1 (by decide)
      rw [show l.getD k layF.d = (x, y) from hxy] at p0 p1 q0 q1
      have G0 : ∀ p : Grown wr, p.v.cell? ⟨b1, off1 + k * 2, none⟩ = some (.int .i64 x) := Grown.cell ((HB.out.cell (p := ⟨b1, off1 + k * 2, none⟩) hb1).trans p0) (Nat.lt_of_lt_of_le hb1 HB.out.size)
      have G1 : ∀ p : Grown wr, p.v.cell? ⟨b1, off1 + k * 2 + 1, none⟩ = some (.int .i64 y) := Grown.cell ((HB.out.cell (p := ⟨b1, off1 + k * 2 + 1, none⟩) hb1).trans p1) (Nat.lt_of_lt_of_le hb1 HB.out.size)
      have G2 : ∀ p : Grown wr, p.v.cell? ⟨b2, off2 + k * 2, none⟩ = some (.int .i64 x) := Grown.cell ((HB.out.cell (p := ⟨b2, off2 + k * 2, none⟩) hb2).trans q0) (Nat.lt_of_lt_of_le hb2 HB.out.size)
      have G3 : ∀ p : Grown wr, p.v.cell? ⟨b2, off2 + k * 2 + 1, none⟩ = some (.int .i64 y) := Grown.cell ((HB.out.cell (p := ⟨b2, off2 + k * 2 + 1, none⟩) hb2).trans q1) (Nat.lt_of_lt_of_le hb2 HB.out.size)
      have HE : Hid (∀ W, Calls Try.prog 86 #[.agg #[.int .i64 x, .int .i64 y], .agg #[.int .i64 x, .int .i64 y]] W fun e w' => e = .returned (.bool true) ∧ Below W.heap.size W w') := fun W => by have h := eqFlow_any x y x y W; rwa [decide_eq_true (⟨rfl, rfl⟩ : x = x ∧ y = y)] at h
      clear p0 p1 q0 q1 r1 r2 hxy
      have i1 : (k : Int) < (l.length : Int) := by omega
      go_wp2
      (refine wp_region_grown (by kernel_rfl) (by kernel_rfl) ?_; intro hne9; (repeat (go_big_quiet_step ((go_at_call 86; exact grown_of _ (HE.out _))))); (with_reducible refine wpQuiet_nil ?_); intro _ hw9; obtain ⟨pq, hw8⟩ := hw9; subst hw8)
      go_wp2
      go_roundw
      case rel => exact ⟨k + 1, by omega, by go_num, HB.out.trans (pq.b.mono HB.out.size)⟩
      case measure => simp [intOf]; omega
    · have e : k = l.length := by omega
      subst e
      go_wp2
      go_ret
      exact ⟨rfl, HB.out⟩

end Go.Proofs.Ytncdjmniphnpgaa
