/- A flow's bucket, on both sides. -/
import Derived.Test.YtldjaapbkihibaaSHash
import Derived.Deep.QuietTactic
import Derived.BigQuiet
import Derived.Deep.RegionWith
namespace Go.Proofs.Ytldjaapbkihibaa
open Go.ChangeShapes Go.WideShapes Go.ChangeAt Go.RowKit Go.Joins
set_option linter.unusedVariables false
set_option linter.unusedSimpArgs false

theorem quiet_eq {P : Program} {f : FuncId} {args : Array Value} {w : World} {n : Nat} {v : Value}
    (h : Calls P f args (w.drewN n) fun e w' => e = .returned v ∧ w.drewN n = w') : Calls P f args (w.drewN n) fun e w'' => e = .returned v ∧ ∃ m, w'' = w.drewN m :=
  h.mono fun _ _ ⟨he, hm⟩ => ⟨he, n, hm.symm⟩

theorem i64_xor_nat (a b : Nat) (ha : a < 9223372036854775808) (hb : b < 9223372036854775808) : bits .xor .i64 (a : Int) (b : Int) = ((a ^^^ b : Nat) : Int) := by
  have hx : a ^^^ b < 2 ^ 63 := Nat.xor_lt_two_pow (by omega) (by omega)
  show IntKind.i64.wrap ((BitVec.ofInt 64 (a : Int) ^^^ BitVec.ofInt 64 (b : Int)).toNat : Int) = _
  rw [BitVec.toNat_xor, ofInt_u64 a (by omega), ofInt_u64 b (by omega), wrap_i64 _ (by omega) (by omega)]
theorem xor_bd (h p : Int) (h0 : 0 ≤ h) (h1 : h < 2147483647) (p0 : 0 ≤ p) (p1 : p < 65536) : 0 ≤ bits .xor .i64 h p ∧ bits .xor .i64 h p < 2147483648 := by
  obtain ⟨a, rfl⟩ := Int.eq_ofNat_of_zero_le h0
  obtain ⟨b, rfl⟩ := Int.eq_ofNat_of_zero_le p0
  rw [i64_xor_nat a b (by omega) (by omega)]
  have hx : a ^^^ b < 2 ^ 31 := Nat.xor_lt_two_pow (by omega) (by omega)
  omega
def bucketI (k a p : Int) : Int := hashI k (bits .xor .i64 (hashI k a) p) / 7 % 8
theorem bucketI_bd (k a p : Int) : 0 ≤ bucketI k a p ∧ bucketI k a p < 8 := by unfold bucketI; omega
def bucketOfI (k a p : Int) : Int := if 0 ≤ k ∧ k < 1000000 ∧ flowOkB a p = true then bucketI k a p else -1

end Go.Proofs.Ytldjaapbkihibaa
