/- Drawn keys, numbers and flows; and that one alone is its own pair. -/
import Derived.Test.YtgnfcnajepbhpaaSDraw5
import Derived.Test.YtgnfcnajepbhpaaSPair2
namespace Go.Proofs.Ytgnfcnajepbhpaa
open Go.ChangeShapes Go.WideShapes Go.ChangeAt Go.RowKit Go.Joins
set_option linter.unusedVariables false
set_option linter.unusedSimpArgs false

theorem put_over {B : Nat} {w w' : World} (h : Below B w w') (P o : Nat) (v : Value) (hP : B ≤ P) : Below B w (w'.setCell ⟨P, o, none⟩ v) :=
  Below.setCell (p := ⟨P, o, none⟩) h hP v
set_option maxRecDepth 100000 in
theorem fieldFlow (a b f s : Int) (v : Value) (w : World) : (Instr.field 76 (.agg #[.int .i64 a, .int .i64 b, .int .i64 f, .int .i64 s, v]) 0).run Try.prog w = .ok (.agg #[.int .i64 a, .int .i64 b]) w := by
  kernel_rfl

set_option maxHeartbeats 1000000 in
theorem l3someKey_any (k : Nat) (w : World) (hc : isCur k w) (hk : k < w.heap.size) :
    Calls Try.prog 50 #[.pointer (some ⟨k, 0, none⟩)] w fun e w' => ∃ x : Int, e = .returned (.int .i64 x) ∧ -1 ≤ x ∧ x ≤ 1000000 ∧ isCur k w' ∧ w.grownBy w' (some k) := by
  go_enter Try.func50, Try.ntmps50
  go_wp2_with fail
  refine (l1Below_any k 1000 _ hc (by omega) (by omega)).mono ?_
  rintro e w1 ⟨x, rfl, hx0, hx1, hc1, hg1⟩
  have hs1 : k < w1.heap.size := Nat.lt_of_lt_of_le hk hg1.size
  have hc1' := hc1.alloc hs1 (.cells #[.int .i64 0, .int .i64 1, .int .i64 77, .int .i64 999999, .int .i64 1000000, .int .i64 (-1), .int .i64 x] 3)
  have hg1' := grownBy_then hg1 (grown_alloc w1 (.cells #[.int .i64 0, .int .i64 1, .int .i64 77, .int .i64 999999, .int .i64 1000000, .int .i64 (-1), .int .i64 x] 3) k)
  clear hc hc1 hg1
  go_wp2_with fail
  refine (l1PickInt_any k w1.heap.size [0, 1, 77, 999999, 1000000, -1, x] _ hc1' (by simp) (by omega) (by simp) (by simp) ?hcl).mono ?_
  case hcl =>
    intro q hq
    have : q = 0 ∨ q = 1 ∨ q = 2 ∨ q = 3 ∨ q = 4 ∨ q = 5 ∨ q = 6 := by simp at hq; omega
    rcases this with h | h | h | h | h | h | h <;> subst h <;> simp
  rintro e w2 ⟨q, hq, rfl, hc2, hg2⟩
  have hbd : -1 ≤ ([0, 1, 77, 999999, 1000000, -1, x] : List Int).getD q 0 ∧ ([0, 1, 77, 999999, 1000000, -1, x] : List Int).getD q 0 ≤ 1000000 := by
    have : q = 0 ∨ q = 1 ∨ q = 2 ∨ q = 3 ∨ q = 4 ∨ q = 5 ∨ q = 6 := by simp at hq; omega
    rcases this with h | h | h | h | h | h | h <;> subst h <;> simp <;> omega
  generalize ([0, 1, 77, 999999, 1000000, -1, x] : List Int).getD q 0 = f at *
  have HC := hide hc2
  have HG := hide (grownBy_then hg1' hg2)
  clear hc1' hg1' hc2 hg2
  go_wp2
  go_ret
  exact ⟨f, rfl, hbd.1, hbd.2, HC.out, HG.out⟩

set_option maxHeartbeats 1000000 in
theorem drawHashOf_any (o : Option Addr) (cap : Nat) (l : List Int) (w : World) (hR : Rd w o l) (hB8 : isB l) (hm : l.length ≤ maxLen) :
    Calls Try.prog 13 #[.slice o l.length cap] w fun e w' => ∃ k x : Int, e = .returned (.tuple #[.int .i64 k, .int .i64 x]) ∧ (-1 ≤ k ∧ k ≤ 1000000) ∧ (-1 ≤ x ∧ x ≤ 2147483647) ∧ Below w.heap.size w w' := by
  go_enter Try.func13, Try.ntmps13
  go_wp2_with fail
  refine (l1New_any o cap l w hR hB8 hm).mono ?_
  rintro e w1 ⟨rfl, hc1, hb1, hs1⟩
  go_wp2_with fail
  refine (l3someKey_any w.heap.size w1 hc1 hs1).mono ?_
  rintro e w2 ⟨k, rfl, hk0, hk1, hc2, hg2⟩
  have hs2 := Nat.lt_of_lt_of_le hs1 hg2.size
  go_wp2_with fail
  refine (l1Below_any w.heap.size 1073741824 w2 hc2 (by omega) (by omega)).mono ?_
  rintro e w3 ⟨x, rfl, hx0, hx1, hc3, hg3⟩
  have hs3 := Nat.lt_of_lt_of_le hs2 hg3.size
  have hc3' := hc3.alloc hs3 (.cells #[.int .i64 0, .int .i64 1, .int .i64 2147483646, .int .i64 2147483647, .int .i64 (-1), .int .i64 x] 3)
  have hg3' := grownBy_then (grownBy_then hg2 hg3) (grown_alloc w3 (.cells #[.int .i64 0, .int .i64 1, .int .i64 2147483646, .int .i64 2147483647, .int .i64 (-1), .int .i64 x] 3) w.heap.size)
  clear hc1 hc2 hc3 hg2 hg3
  go_wp2_with fail
  refine (l1PickInt_any w.heap.size w3.heap.size [0, 1, 2147483646, 2147483647, -1, x] _ hc3' (by simp) (by omega) (by simp) (by simp) ?hcl).mono ?_
  case hcl =>
    intro q hq
    have : q = 0 ∨ q = 1 ∨ q = 2 ∨ q = 3 ∨ q = 4 ∨ q = 5 := by simp at hq; omega
    rcases this with h | h | h | h | h | h <;> subst h <;> simp
  rintro e w4 ⟨q, hq, rfl, hc4, hg4⟩
  have hbd : -1 ≤ ([0, 1, 2147483646, 2147483647, -1, x] : List Int).getD q 0 ∧ ([0, 1, 2147483646, 2147483647, -1, x] : List Int).getD q 0 ≤ 2147483647 := by
    have : q = 0 ∨ q = 1 ∨ q = 2 ∨ q = 3 ∨ q = 4 ∨ q = 5 := by simp at hq; omega
    rcases this with h | h | h | h | h | h <;> subst h <;> simp <;> omega
  generalize ([0, 1, 2147483646, 2147483647, -1, x] : List Int).getD q 0 = f at *
  have HB := hide (hb1.trans (below_of_grown (grownBy_then hg3' hg4) hs1))
  clear hc3' hg3' hc4 hg4 hb1
  go_wp2
  refine bodyPost_ret (v := .tuple #[.int .i64 k, .int .i64 f]) (by simp [results, Try.results13, go_sem]) rfl ⟨k, f, rfl, ⟨hk0, hk1⟩, hbd, HB.out⟩

set_option maxHeartbeats 1000000 in
theorem drawBucketOf_any (o : Option Addr) (cap : Nat) (l : List Int) (w : World) (hR : Rd w o l) (hB8 : isB l) (hm : l.length ≤ maxLen) :
    Calls Try.prog 15 #[.slice o l.length cap] w fun e w' => ∃ k a b : Int, e = .returned (.tuple #[.int .i64 k, .agg #[.int .i64 a, .int .i64 b]]) ∧ (-1 ≤ k ∧ k ≤ 1000000) ∧ Below w.heap.size w w' := by
  have c0 : (w.alloc (.cells #[.int .i64 0, .int .i64 0] 27)).cell? ⟨w.heap.size, 0, none⟩ = some (.int .i64 0) := by simp
  have c1 : (w.alloc (.cells #[.int .i64 0, .int .i64 0] 27)).cell? ⟨w.heap.size, 1, none⟩ = some (.int .i64 0) := by simp
  have f0 : (w.alloc (.cells #[.int .i64 0, .int .i64 0] 27)).frozen? ⟨w.heap.size, 0, none⟩ = false := by simp
  have f1 : (w.alloc (.cells #[.int .i64 0, .int .i64 0] 27)).frozen? ⟨w.heap.size, 1, none⟩ = false := by simp
  have hb0 : Below w.heap.size w (w.alloc (.cells #[.int .i64 0, .int .i64 0] 27)) := (Below.refl _ _).alloc (Nat.le_refl _) _
  have hR0 := hR.kept hb0
  go_enter Try.func15, Try.ntmps15
  go_wp2_with fail
  generalize hw0 : w.alloc (.cells #[.int .i64 0, .int .i64 0] 27) = w0 at *
  have hs0 : w.heap.size < w0.heap.size := by rw [← hw0]; simp
  clear hw0
  refine (l1New_any o cap l w0 hR0 hB8 hm).mono ?_
  rintro e w1 ⟨rfl, hc1, hb1, hs1⟩
  go_wp2_with fail
  refine (l3someKey_any w0.heap.size w1 hc1 hs1).mono ?_
  rintro e w2 ⟨k, rfl, hk0, hk1, hc2, hg2⟩
  have hs2 := Nat.lt_of_lt_of_le hs1 hg2.size
  go_wp2_with fail
  refine (l1bent_any w0.heap.size w2 hc2 hs2).mono ?_
  rintro e w3 ⟨a, b, f, s, v, L, rfl, hv, hL, hn, hc3, hg3⟩
  have hb3 : Below w0.heap.size w0 w3 := hb1.trans ((below_of_grown hg2 hs1).trans (below_of_grown hg3 hs2))
  replace c0 := (hb3.cell (p := ⟨w.heap.size, 0, none⟩) hs0).trans c0
  replace c1 := (hb3.cell (p := ⟨w.heap.size, 1, none⟩) hs0).trans c1
  replace f0 := (hb3.frozen (p := ⟨w.heap.size, 0, none⟩) hs0).trans f0
  replace f1 := (hb3.frozen (p := ⟨w.heap.size, 1, none⟩) hs0).trans f1
  have hb03 : Below w.heap.size w w3 := hb0.trans (hb3.mono (Nat.le_of_lt hs0))
  clear hb0 hb1 hb3 hg2 hg3 hc1 hc2 hc3 hv hR hR0
  have F3 := fieldFlow a b f s v w3
  unfold pkt
  go_wp2
  refine bodyPost_ret (v := .tuple #[.int .i64 k, .agg #[.int .i64 a, .int .i64 b]]) (by simp [results, Try.results15, go_sem, c0, c1]) rfl ⟨k, a, b, rfl, ⟨hk0, hk1⟩, ?_⟩
  exact hb03.trans (put_over (put_over (Below.refl w.heap.size w3) w.heap.size 0 _ (Nat.le_refl _)) w.heap.size 1 _ (Nat.le_refl _))

theorem pair_one : pairI 5 0 [(3, 1, false)] = [3, 3] := by first | decide | rfl | kernel_rfl
theorem bucketOfI_bd (k a p : Int) : -1 ≤ bucketOfI k a p ∧ bucketOfI k a p < 8 := by
  unfold bucketOfI
  split
  · unfold bucketI; omega
  · omega
theorem bucketOfI_pos (k a p : Int) : decide (0 ≤ bucketOfI k a p) = (keyB k && flowOkB a p) := by
  unfold bucketOfI
  by_cases h : 0 ≤ k ∧ k < 1000000 ∧ flowOkB a p = true
  · rw [if_pos h, keyB_iff.2 ⟨h.1, h.2.1⟩, h.2.2]
    have : 0 ≤ bucketI k a p := by unfold bucketI; omega
    simp [this]
  · rw [if_neg h]
    have : (keyB k && flowOkB a p) = false := by
      rw [Bool.and_eq_false_iff]
      by_cases hk : keyB k = true
      · right
        have := keyB_iff.1 hk
        simp at h
        exact h this.1 this.2
      · left; simpa using hk
    rw [this]; decide
theorem stirI_inj {a b : Int} (h : stirI a = stirI b) : a % 2147483647 = b % 2147483647 := by
  unfold stirI at h
  generalize ha : a % 2147483647 = x at *
  generalize hb : b % 2147483647 = y at *
  have : 0 ≤ x ∧ x < 2147483647 := by omega
  have : 0 ≤ y ∧ y < 2147483647 := by omega
  omega
theorem hashI_next {k x : Int} : hashI k x ≠ hashI k (x + 1) := by
  intro h
  unfold hashI at h
  have h1 := stirI_inj h
  have b1 := stirI_bd (stirI (k + 1) + x)
  have b2 := stirI_bd (stirI (k + 1) + (x + 1))
  have h2 : stirI (stirI (k + 1) + x) = stirI (stirI (k + 1) + (x + 1)) := by
    generalize stirI (stirI (k + 1) + x) = p at *
    generalize stirI (stirI (k + 1) + (x + 1)) = q at *
    omega
  have h3 := stirI_inj h2
  generalize stirI (k + 1) = t at *
  omega

end Go.Proofs.Ytgnfcnajepbhpaa
