/- A flow's bucket, on both sides. -/
import Derived.Test.YtgnfcnajepbhpaaSHash
import Derived.Deep.QuietTactic
import Derived.BigQuiet
import Derived.Deep.RegionWith
namespace Go.Proofs.Ytgnfcnajepbhpaa
open Go.ChangeShapes Go.WideShapes Go.ChangeAt Go.RowKit Go.Joins
set_option linter.unusedVariables false
set_option linter.unusedSimpArgs false

theorem quiet_eq {P : Program} {f : FuncId} {args : Array Value} {w : World} {n : Nat} {v : Value}
    (h : Calls P f args (w.drewN n) fun e w' => e = .returned v ∧ w.drewN n = w') : Calls P f args (w.drewN n) fun e w'' => e = .returned v ∧ ∃ m, w'' = w.drewN m :=
  h.mono fun _ _ ⟨he, hm⟩ => ⟨he, n, hm.symm⟩

theorem i64_xor_nat (a b : Nat) (ha : a < 9223372036854775808) (hb : b < 9223372036854775808) : bits .xor .i64 (a : Int) (b : Int) = ((a ^^^ b : Nat) : Int) := by
  have hx : a ^^^ b < 2 ^ 63 := Nat.xor_lt_two_pow (by omega) (by omega)
  show IntKind.i64.wrap ((BitVec.ofInt 64 (a : Int) ^^^ BitVec.ofInt 64 (b : Int)).toNat : Int) = _
  rw [BitVec.toNat_xor, ofInt_u64 a (by omega), ofInt_u64 b (by omega), wrap_i64 _ (by omega) (by omega)]
theorem xor_bd (h p : Int) (h0 : 0 ≤ h) (h1 : h < 2147483647) (p0 : 0 ≤ p) (p1 : p < 65536) : 0 ≤ bits .xor .i64 h p ∧ bits .xor .i64 h p < 2147483648 := by
  obtain ⟨a, rfl⟩ := Int.eq_ofNat_of_zero_le h0
  obtain ⟨b, rfl⟩ := Int.eq_ofNat_of_zero_le p0
  rw [i64_xor_nat a b (by omega) (by omega)]
  have hx : a ^^^ b < 2 ^ 31 := Nat.xor_lt_two_pow (by omega) (by omega)
  omega
def bucketI (k a p : Int) : Int := hashI k (bits .xor .i64 (hashI k a) p) / 7 % 8
theorem bucketI_bd (k a p : Int) : 0 ≤ bucketI k a p ∧ bucketI k a p < 8 := by unfold bucketI; omega
def bucketOfI (k a p : Int) : Int := if 0 ≤ k ∧ k < 1000000 ∧ flowOkB a p = true then bucketI k a p else -1

set_option maxHeartbeats 1000000 in
theorem l3bucket_any (k a p : Int) (w : World) (h1 : 0 ≤ k) (h2 : k < 1000000) (a0 : 0 ≤ a) (a1 : a < 65536) (p0 : 0 ≤ p) (p1 : p < 65536) :
    Calls Try.prog 65 #[.int .i64 k, .agg #[.int .i64 a, .int .i64 p]] w fun e w' => e = .returned (.int .i64 (bucketI k a p)) ∧ Below w.heap.size w w' := by
  have hB : Below w.heap.size w w := Below.refl _ _
  have hh := hashI_bd k a
  have hx := xor_bd (hashI k a) p hh.1 hh.2 p0 p1
  have hh2 := hashI_bd k (bits .xor .i64 (hashI k a) p)
  have HE := hide (show hashI k (bits .xor .i64 (hashI k a) p) / 7 % 8 = bucketI k a p from rfl)
  go_enter Try.func65, Try.ntmps65
  go_wp2_with fail
  go_quiet (first | (go_at_call_of 64 (bits .xor .i64 (hashI k a) p); exact quiet_eq (l3hash_any k (bits .xor .i64 (hashI k a) p) _ h1 h2 hx.1 (by omega))) | (go_at_call_of 64 (Value.int .i64 a); exact quiet_eq (l3hash_any k a _ h1 h2 a0 (by omega))))
  go_wp2
  go_ret
  exact ⟨ret_int HE.out, by (repeat (first | with_reducible exact hB | with_reducible exact Below.refl _ _ | with_reducible refine Below.drew ?_ | with_reducible refine below_drewN ?_ _ | with_reducible refine Below.alloc ?_ ?_ _ | with_reducible refine Below.setCell ?_ ?_ _ | (focus (simp; done)) | (focus (simp; omega)) | omega))⟩

set_option maxHeartbeats 1000000 in
theorem specBucketOf_any (k a p : Int) (w : World) :
    Calls Try.prog 29 #[.int .i64 k, .agg #[.int .i64 a, .int .i64 p]] w fun e w' => e = .returned (.int .i64 (bucketOfI k a p)) ∧ Below w.heap.size w w' := by
  have hB : Below w.heap.size w w := Below.refl _ _
  by_cases hk : keyB k = true
  · obtain ⟨h1, h2⟩ := keyB_iff.1 hk
    by_cases hf : flowOkB a p = true
    · obtain ⟨a0, a1, p0, p1⟩ := flowOkB_iff.1 hf
      have HE := hide (show bucketI k a p = bucketOfI k a p by rw [bucketOfI, if_pos ⟨h1, h2, hf⟩])
      go_enter Try.func29, Try.ntmps29
      go_wp2_with (first | (go_at_call 63; refine (l3key_any k _).mono ?_; rw [hk]; rintro e w1 ⟨rfl, rfl⟩) | (go_at_call 17; refine (hf ▸ specFlowOk_any a p _).mono ?_; rintro e w1 ⟨rfl, hb⟩; obtain ⟨hc, hf⟩ := bcell hb; have hz0 : w.heap.size < w1.heap.size := (by have hz := hb.size; (try simp at hz); omega); have hB : Below w.heap.size w w1 := (by refine Below.trans ?_ (hb.mono (by have hs := hB.size; (try simp) <;> omega)); (repeat (first | with_reducible exact hB | with_reducible exact Below.refl _ _ | with_reducible refine Below.drew ?_ | with_reducible refine below_drewN ?_ _ | with_reducible refine Below.alloc ?_ ?_ _ | with_reducible refine Below.setCell ?_ ?_ _ | (focus (simp; done)) | (focus (simp; omega)) | omega)))) | (go_at_call 65; refine (l3bucket_any k a p _ h1 h2 a0 a1 p0 p1).mono ?_; rintro e w1b ⟨rfl, hbb⟩; obtain ⟨hcb, hfb⟩ := bcell hbb; have hz0b : w.heap.size < w1b.heap.size := (by have hz := hbb.size; (try simp at hz); omega); have hB : Below w.heap.size w w1b := (by refine Below.trans ?_ (hbb.mono (by have hs := hB.size; (try simp) <;> omega)); (repeat (first | with_reducible exact hB | with_reducible exact Below.refl _ _ | with_reducible refine Below.drew ?_ | with_reducible refine below_drewN ?_ _ | with_reducible refine Below.alloc ?_ ?_ _ | with_reducible refine Below.setCell ?_ ?_ _ | (focus (simp; done)) | (focus (simp; omega)) | omega)))))
      go_ret
      exact ⟨ret_int HE.out, by (repeat (first | with_reducible exact hB | with_reducible exact Below.refl _ _ | with_reducible refine Below.drew ?_ | with_reducible refine below_drewN ?_ _ | with_reducible refine Below.alloc ?_ ?_ _ | with_reducible refine Below.setCell ?_ ?_ _ | (focus (simp; done)) | (focus (simp; omega)) | omega))⟩
    · have HE := hide (show -1 = bucketOfI k a p by rw [bucketOfI, if_neg (fun q => hf q.2.2)])
      have hf' : flowOkB a p = false := by simpa using hf
      go_enter Try.func29, Try.ntmps29
      go_wp2_with (first | (go_at_call 63; refine (l3key_any k _).mono ?_; rw [hk]; rintro e w1 ⟨rfl, rfl⟩) | (go_at_call 17; refine (hf' ▸ specFlowOk_any a p _).mono ?_; rintro e w1 ⟨rfl, hb⟩; obtain ⟨hc, hf⟩ := bcell hb; have hz0 : w.heap.size < w1.heap.size := (by have hz := hb.size; (try simp at hz); omega); have hB : Below w.heap.size w w1 := (by refine Below.trans ?_ (hb.mono (by have hs := hB.size; (try simp) <;> omega)); (repeat (first | with_reducible exact hB | with_reducible exact Below.refl _ _ | with_reducible refine Below.drew ?_ | with_reducible refine below_drewN ?_ _ | with_reducible refine Below.alloc ?_ ?_ _ | with_reducible refine Below.setCell ?_ ?_ _ | (focus (simp; done)) | (focus (simp; omega)) | omega)))))
      go_ret
      exact ⟨ret_int HE.out, by (repeat (first | with_reducible exact hB | with_reducible exact Below.refl _ _ | with_reducible refine Below.drew ?_ | with_reducible refine below_drewN ?_ _ | with_reducible refine Below.alloc ?_ ?_ _ | with_reducible refine Below.setCell ?_ ?_ _ | (focus (simp; done)) | (focus (simp; omega)) | omega))⟩
  · have HE := hide (show -1 = bucketOfI k a p by rw [bucketOfI, if_neg (fun q => hk (keyB_iff.2 ⟨q.1, q.2.1⟩))])
    have hk' : keyB k = false := by simpa using hk
    go_enter Try.func29, Try.ntmps29
    go_wp2_with (go_at_call 63; refine (l3key_any k _).mono ?_; rw [hk']; rintro e w1 ⟨rfl, rfl⟩)
    go_ret
    exact ⟨ret_int HE.out, by (repeat (first | with_reducible exact hB | with_reducible exact Below.refl _ _ | with_reducible refine Below.drew ?_ | with_reducible refine below_drewN ?_ _ | with_reducible refine Below.alloc ?_ ?_ _ | with_reducible refine Below.setCell ?_ ?_ _ | (focus (simp; done)) | (focus (simp; omega)) | omega))⟩

set_option maxHeartbeats 1000000 in
theorem implBucketOf_any (k a p : Int) (w : World) :
    Calls Try.prog 16 #[.int .i64 k, .agg #[.int .i64 a, .int .i64 p]] w fun e w' => e = .returned (.int .i64 (bucketOfI k a p)) ∧ Below w.heap.size w w' := by
  have hB : Below w.heap.size w w := Below.refl _ _
  by_cases hk : keyB k = true
  · obtain ⟨h1, h2⟩ := keyB_iff.1 hk
    by_cases hf : flowOkB a p = true
    · obtain ⟨a0, a1, p0, p1⟩ := flowOkB_iff.1 hf
      have hh := hashI_bd k a
      have hx := xor_bd (hashI k a) p hh.1 hh.2 p0 p1
      have hh2 := hashI_bd k (bits .xor .i64 (hashI k a) p)
      have HE := hide (show hashI k (bits .xor .i64 (hashI k a) p) / 7 % 8 = bucketOfI k a p by rw [bucketOfI, if_pos ⟨h1, h2, hf⟩]; rfl)
      have ho : hashOfI k a = hashI k a := by rw [hashOfI, if_pos ⟨h1, h2, a0, by omega⟩]
      go_enter Try.func16, Try.ntmps16
      go_wp2_with (first | (go_at_call 53; refine (isKey_any k _).mono ?_; rw [hk]; rintro e w1 ⟨rfl, rfl⟩) | (go_at_call 56; refine (hf ▸ implFlowOk_any a p _).mono ?_; rintro e w1 ⟨rfl, hb⟩; obtain ⟨hc, hf⟩ := bcell hb; have hz0 : w.heap.size < w1.heap.size := (by have hz := hb.size; (try simp at hz); omega); have hB : Below w.heap.size w w1 := (by refine Below.trans ?_ (hb.mono (by have hs := hB.size; (try simp) <;> omega)); (repeat (first | with_reducible exact hB | with_reducible exact Below.refl _ _ | with_reducible refine Below.drew ?_ | with_reducible refine below_drewN ?_ _ | with_reducible refine Below.alloc ?_ ?_ _ | with_reducible refine Below.setCell ?_ ?_ _ | (focus (simp; done)) | (focus (simp; omega)) | omega)))))
      go_quiet (exact quiet_eq (ho ▸ implHashOf_any k a _))
      go_wp2_with (go_at_call 54; refine (hashAny_any k (bits .xor .i64 (hashI k a) p) _ h1 h2 hx.1 (by omega)).mono ?_; rintro e w1b ⟨rfl, rfl⟩)
      go_ret
      exact ⟨ret_int HE.out, by (repeat (first | with_reducible exact hB | with_reducible exact Below.refl _ _ | with_reducible refine Below.drew ?_ | with_reducible refine below_drewN ?_ _ | with_reducible refine Below.alloc ?_ ?_ _ | with_reducible refine Below.setCell ?_ ?_ _ | (focus (simp; done)) | (focus (simp; omega)) | omega))⟩
    · have HE := hide (show -1 = bucketOfI k a p by rw [bucketOfI, if_neg (fun q => hf q.2.2)])
      have hf' : flowOkB a p = false := by simpa using hf
      go_enter Try.func16, Try.ntmps16
      go_wp2_with (first | (go_at_call 53; refine (isKey_any k _).mono ?_; rw [hk]; rintro e w1 ⟨rfl, rfl⟩) | (go_at_call 56; refine (hf' ▸ implFlowOk_any a p _).mono ?_; rintro e w1 ⟨rfl, hb⟩; obtain ⟨hc, hf⟩ := bcell hb; have hz0 : w.heap.size < w1.heap.size := (by have hz := hb.size; (try simp at hz); omega); have hB : Below w.heap.size w w1 := (by refine Below.trans ?_ (hb.mono (by have hs := hB.size; (try simp) <;> omega)); (repeat (first | with_reducible exact hB | with_reducible exact Below.refl _ _ | with_reducible refine Below.drew ?_ | with_reducible refine below_drewN ?_ _ | with_reducible refine Below.alloc ?_ ?_ _ | with_reducible refine Below.setCell ?_ ?_ _ | (focus (simp; done)) | (focus (simp; omega)) | omega)))))
      go_ret
      exact ⟨ret_int HE.out, by (repeat (first | with_reducible exact hB | with_reducible exact Below.refl _ _ | with_reducible refine Below.drew ?_ | with_reducible refine below_drewN ?_ _ | with_reducible refine Below.alloc ?_ ?_ _ | with_reducible refine Below.setCell ?_ ?_ _ | (focus (simp; done)) | (focus (simp; omega)) | omega))⟩
  · have HE := hide (show -1 = bucketOfI k a p by rw [bucketOfI, if_neg (fun q => hk (keyB_iff.2 ⟨q.1, q.2.1⟩))])
    have hk' : keyB k = false := by simpa using hk
    go_enter Try.func16, Try.ntmps16
    go_wp2_with (go_at_call 53; refine (isKey_any k _).mono ?_; rw [hk']; rintro e w1 ⟨rfl, rfl⟩)
    go_ret
    exact ⟨ret_int HE.out, by (repeat (first | with_reducible exact hB | with_reducible exact Below.refl _ _ | with_reducible refine Below.drew ?_ | with_reducible refine below_drewN ?_ _ | with_reducible refine Below.alloc ?_ ?_ _ | with_reducible refine Below.setCell ?_ ?_ _ | (focus (simp; done)) | (focus (simp; omega)) | omega))⟩

end Go.Proofs.Ytgnfcnajepbhpaa
