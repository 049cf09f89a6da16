/- The laws' at: a byte of the code. -/
import Derived.Test.YtgnfcnajepbhpaaBytes
namespace Go.Proofs.Ytgnfcnajepbhpaa
open Go.ChangeShapes Go.WideShapes Go.ChangeAt Go.RowKit Go.Joins
set_option linter.unusedVariables false
set_option linter.unusedSimpArgs false

set_option maxRecDepth 100000 in
set_option maxHeartbeats 400000 in
theorem at_any (o : Option Addr) (cap : Nat) (l : List Int) (w : World) (hR : Rd w o l) (hB8 : isB l) (hm : l.length ≤ maxLen) :
    Calls Try.prog 25 #[.slice o l.length cap, .int .i64 1] w fun e w' => ∃ x : Int, e = .returned (.int .i64 x) ∧ 0 ≤ x ∧ x ≤ 255 ∧ w = w' := by
  unfold maxLen at hm
  by_cases h0 : l = []
  · subst h0
    go_enter Try.func25, Try.ntmps25
    go_wp2
    go_ret
    exact ⟨_, rfl, by omega, by omega, rfl⟩
  · rcases hR with hR | ⟨b, off, rfl, hbl, hcell⟩
    · exact absurd hR h0
    have hpos : 1 ≤ l.length := by rcases l with _ | ⟨a, t⟩; exact absurd rfl h0; simp
    have hq : 1 % l.length < l.length := Nat.mod_lt _ (by omega)
    have hc := hcell (1 % l.length) hq
    have b8 := hB8.get (1 % l.length)
    have eq1 : (1 : Int) % (l.length : Int) = ((1 % l.length : Nat) : Int) := by simp
    generalize 1 % l.length = q at *
    generalize l.getD q 0 = y at *
    clear hcell h0 hB8
    have zz : ((l.length : Int) == 0) = false := beq_eq_false_iff_ne.2 (by omega)
    have z1 : (q : Int) < (l.length : Int) := by omega
    go_enter Try.func25, Try.ntmps25
    go_wp2
    go_ret
    exact ⟨_, rfl, by omega, by omega, rfl⟩

end Go.Proofs.Ytgnfcnajepbhpaa
