/- Several texts in one: SBSame, LRing. -/
import Derived.BigQuiet
import Derived.Test.YtmmhgkkcpjhiiaaGreatQLearn11
import Derived.Test.YtmmhgkkcpjhiiaaGreatQLearn20
namespace Go.Proofs.YtmmhgkkcpjhiiaaGreat
open Go.ChangeShapes Go.WideShapes Go.ChangeAt Go.RowKit Go.Joins
set_option linter.unusedVariables false
set_option linter.unusedSimpArgs false


def ringSame (R1 R2 : List (List (List Int))) : Bool := decide (R1.length = R2.length) && (List.range R1.length).all (fun i => movedI (R1.getD i []) (R2.getD i []) == 0)
theorem bC7 {C b j : Nat} {w w' : World} {u : Value} (h : Below C w w') (hc : w.cell? ⟨b, j, none⟩ = some u) (hz : b < C) : w'.cell? ⟨b, j, none⟩ = some u := (h.cell (p := ⟨b, j, none⟩) hz).trans hc
theorem RiRows.atS {α : Type} {Q : Nat → Nat → World → Value → α → Prop} {d : α} {a C : Nat} {w : World} {o : Option Addr} {n c : Nat} {xs : List α} (h : RiRows Q d a C w (.slice o n c) xs) (hC : C ≤ w.heap.size) (i : Nat) (hi : i < xs.length) : ∃ b off u, o = some ⟨b, off, none⟩ ∧ b < C ∧ w.cell? ⟨b, off + i, none⟩ = some u ∧ Q a C w u (xs.getD i d) := by
 obtain ⟨hs, h0, h1, h2⟩ := h
 obtain ⟨o1, c1, e, r⟩ := h1.open
 injection e with e1 e2 e3
 subst e1
 rcases r with r | ⟨b, off, ho, hb, r⟩
 ·subst r; simp at h0; omega
 ·exact ⟨b, off, hv hs i, ho, hb, RdL.head r i (by omega), h2 i hi⟩
theorem ring_same_no {R1 R2 : List (List (List Int))} {i : Nat} (hi : i < R1.length) (h : movedI (R1.getD i []) (R2.getD i []) ≠ 0) : ringSame R1 R2 = false := by
 unfold ringSame
 rw [Bool.and_eq_false_iff]
 right
 rw [List.all_eq_false]
 exact ⟨i, by simpa using hi, by simpa using h⟩
theorem ring_same_yes {R1 R2 : List (List (List Int))} (hl : R1.length = R2.length) (h : ∀ i, i < R1.length → movedI (R1.getD i []) (R2.getD i []) = 0) : ringSame R1 R2 = true := by
 unfold ringSame
 rw [decide_eq_true hl, Bool.true_and, List.all_eq_true]
 intro i hi
 rw [h i (by simpa using hi)]
 rfl
theorem ring_same_len {R1 R2 : List (List (List Int))} (hl : R1.length ≠ R2.length) : ringSame R1 R2 = false := by
 unfold ringSame; rw [decide_eq_false hl]; rfl
theorem RdK.cells3 {C : Nat} {w : World} {o : Option Addr} {l : List Bk} (h : RdK C w o l) (j : Nat) (hj : j < l.length) : ∃ g off, o = some ⟨g, off, none⟩ ∧ g < C ∧ w.cell? ⟨g, off + j * 3, none⟩ = some (.int .i64 (l.getD j (0, 0, false)).1) ∧ w.cell? ⟨g, off + j * 3 + 1, none⟩ = some (.int .i64 (l.getD j (0, 0, false)).2.1) ∧ w.cell? ⟨g, off + j * 3 + 2, none⟩ = some (.bool (l.getD j (0, 0, false)).2.2) := by
 rcases h with r | ⟨b, off, ho, hb, r⟩
 ·subst r; exact absurd hj (Nat.not_lt_zero _)
 ·exact ⟨b, off, ho, hb, r j hj 0 (by decide), r j hj 1 (by decide), r j hj 2 (by decide)⟩
theorem take_snocK (l : List Bk) (k : Nat) (h : k < l.length) : l.take (k + 1) = l.take k ++ [l.getD k (0, 0, false)] := takeL_succ layK l k h

set_option maxRecDepth 100000 in
set_option maxHeartbeats 4000000 in
theorem backsEq_any (o1 o2 : Option Addr) (n1 n2 c1 c2 : Nat) (l1 l2 : List Bk) (w : World) (hn1 : n1 = l1.length) (hn2 : n2 = l2.length) (h1 : RdK w.heap.size w o1 l1) (h2 : RdK w.heap.size w o2 l2) (hl1 : l1.length ≤ 1048576) (hl2 : l2.length ≤ 1048576) :
  Calls Tryz.prog 311 #[.slice o1 n1 c1, .slice o2 n2 c2] w fun e w' => e = .returned (.bool (decide (l1 = l2))) ∧ Below w.heap.size w w' := by
 have HN1 := hide hn1
 have HN2 := hide hn2
 have H1 := hide h1
 have H2 := hide h2
 by_cases hlen : n1 = n2
 ·subst hlen
  rw [← hn1] at hl1
  clear hn1 hn2 h1 h2 hl2
  go_enter Tryz.func311, Tryz.ntmps311
  go_wp2
  go_loopw [4, 13] (fun rv i wr => ∃ k : Nat, k ≤ n1 ∧ i = .int .i64 (k : Int) ∧ rv = .bool false ∧ Hid (l1.take k = l2.take k) ∧ Hid (Below w.heap.size w wr))
   (fun _ i _ => n1 - (intOf i).toNat)
  case atStart => exact ⟨0, Nat.zero_le _, rfl, rfl, rfl, Below.refl _ _⟩
  case round =>
   rename World => wr
   obtain ⟨k, hk, rfl, rfl, HT, HBr⟩ := hrel
   by_cases hlt : k < n1
   ·have hlt' : (k : Int) < (n1 : Int) := by omega
    obtain ⟨g1, f1, rfl, hg1, a0, a1, a2⟩ := RdK.cells3 H1.out k (by rw [← HN1.out]; exact hlt)
    obtain ⟨g2, f2, rfl, hg2, b0, b1, b2⟩ := RdK.cells3 H2.out k (by rw [← HN2.out]; exact hlt)
    have Ga0 := Grown.cell (bC7 HBr.out a0 hg1) (Nat.lt_of_lt_of_le hg1 HBr.out.size)
    have Ga1 := Grown.cell (bC7 HBr.out a1 hg1) (Nat.lt_of_lt_of_le hg1 HBr.out.size)
    have Ga2 := Grown.cell (bC7 HBr.out a2 hg1) (Nat.lt_of_lt_of_le hg1 HBr.out.size)
    have Gb0 := Grown.cell (bC7 HBr.out b0 hg2) (Nat.lt_of_lt_of_le hg2 HBr.out.size)
    have Gb1 := Grown.cell (bC7 HBr.out b1 hg2) (Nat.lt_of_lt_of_le hg2 HBr.out.size)
    have Gb2 := Grown.cell (bC7 HBr.out b2 hg2) (Nat.lt_of_lt_of_le hg2 HBr.out.size)
    have T1 := hide (take_snocK l1 k (by rw [← HN1.out]; exact hlt))
    have T2 := hide (take_snocK l2 k (by rw [← HN2.out]; exact hlt))
    have N12 : Hid (l1 = l2 → l1.getD k (0, 0, false) = l2.getD k (0, 0, false)) := fun h => by rw [h]
    clear a0 a1 a2 b0 b1 b2
    generalize l1.getD k (0, 0, false) = d at *
    generalize l2.getD k (0, 0, false) = e at *
    by_cases hde : d = e
    ·subst hde
     obtain ⟨d0, d1, d2⟩ := d
     dsimp only at Ga0 Ga1 Ga2 Gb0 Gb1 Gb2
     clear N12
     go_wp2
     (refine wp_region_grown (by kernel_rfl) (by kernel_rfl) ?_; intro hne9; (repeat (go_big_quiet_step (fail))); (with_reducible refine wpQuiet_nil ?_); intro _ hw9; obtain ⟨pq, hw8⟩ := hw9; subst hw8)
     have HB9 := hide (HBr.out.trans (pq.b.mono HBr.out.size))
     go_wp2
     go_roundw
     case rel => exact ⟨k + 1, by omega, by go_num, rfl, (by unfold Hid; rw [T1.out, T2.out, HT.out]), HB9.out⟩
     case measure => simp [intOf]; omega
    ·have HX : Hid (l1 ≠ l2) := fun h => hde (N12.out h)
     obtain ⟨d0, d1, d2⟩ := d
     obtain ⟨e0, e1, e2⟩ := e
     dsimp only at Ga0 Ga1 Ga2 Gb0 Gb1 Gb2
     have hne : ¬ (d0 = e0 ∧ d1 = e1 ∧ d2 = e2) := fun h => hde (by rw [h.1, h.2.1, h.2.2])
     clear hde N12 T1 T2
     by_cases q0 : d0 = e0
     ·subst q0
      by_cases q1 : d1 = e1
      ·subst q1
       have q2 : ¬ d2 = e2 := fun h => hne ⟨rfl, rfl, h⟩
       clear hne
       cases d2 <;> cases e2 <;> first | exact absurd rfl q2 | skip
       all_goals clear q2
       all_goals go_wp2
       all_goals (refine wp_region_grown (by kernel_rfl) (by kernel_rfl) ?_; intro hne9; (repeat (go_big_quiet_step (fail))); (with_reducible refine wpQuiet_nil ?_); intro _ hw9; obtain ⟨pq, hw8⟩ := hw9; subst hw8)
       all_goals have HB9 := hide (HBr.out.trans (pq.b.mono HBr.out.size))
       all_goals go_wp2
       all_goals go_ret
       all_goals exact ⟨ret_bool (decide_eq_false HX.out).symm, HB9.out⟩
      ·clear hne
       have q1' : (d1 == e1) = false := by simpa using q1
       go_wp2
       (refine wp_region_grown (by kernel_rfl) (by kernel_rfl) ?_; intro hne9; (repeat (go_big_quiet_step (fail))); (with_reducible refine wpQuiet_nil ?_); intro _ hw9; obtain ⟨pq, hw8⟩ := hw9; subst hw8)
       have HB9 := hide (HBr.out.trans (pq.b.mono HBr.out.size))
       go_wp2
       go_ret
       exact ⟨ret_bool (decide_eq_false HX.out).symm, HB9.out⟩
     ·clear hne
      have q0' : (d0 == e0) = false := by simpa using q0
      go_wp2
      (refine wp_region_grown (by kernel_rfl) (by kernel_rfl) ?_; intro hne9; (repeat (go_big_quiet_step (fail))); (with_reducible refine wpQuiet_nil ?_); intro _ hw9; obtain ⟨pq, hw8⟩ := hw9; subst hw8)
      have HB9 := hide (HBr.out.trans (pq.b.mono HBr.out.size))
      go_wp2
      go_ret
      exact ⟨ret_bool (decide_eq_false HX.out).symm, HB9.out⟩
   ·have e : k = n1 := by omega
    subst e
    have HE : Hid (l1 = l2) := by
     have h := HT.out
     rw [List.take_of_length_le (by rw [← HN1.out]; exact Nat.le_refl _), List.take_of_length_le (by rw [← HN2.out]; exact Nat.le_refl _)] at h
     exact h
    go_wp2
    go_ret
    exact ⟨ret_bool (decide_eq_true HE.out).symm, HBr.out⟩
 ·have HE : Hid (l1 ≠ l2) := fun h => hlen (by rw [hn1, hn2, h])
  have hne : ¬ ((n1 : Int) = (n2 : Int)) := by omega
  clear hn1 hn2 hlen
  go_enter Tryz.func311, Tryz.ntmps311
  go_wp2
  go_ret
  exact ⟨ret_bool (decide_eq_false HE.out).symm, Below.refl _ _⟩

set_option maxHeartbeats 1000000 in
theorem samePairs_any (oa ob : Option Addr) (ca cb na nb : Nat) (aa bb : List (List Int)) (w : World) (hna : na = aa.length) (hnb : nb = bb.length) (hA : RdLL w.heap.size w oa aa) (hB : RdLL w.heap.size w ob bb) (la : aa.length ≤ 1048576) (lb : bb.length ≤ 1048576)
  (xa : ∀ i, i < aa.length → (aa.getD i []).length ≤ 1048576) (xb : ∀ i, i < bb.length → (bb.getD i []).length ≤ 1048576) :
  Calls Tryz.prog 313 #[.slice oa na ca, .slice ob nb cb] w fun e w' => e = .returned (.bool (movedI aa bb == 0)) ∧ Below w.heap.size w w' := by
 have HM := hide (implMoved_any oa ob ca cb aa bb w hA hB la lb xa xb)
 rw [← hna, ← hnb] at HM
 clear hA hB xa xb hna hnb
 generalize movedI aa bb = q at *
 go_enter Tryz.func313, Tryz.ntmps313
 go_wp2_with fail
 refine HM.out.mono ?_
 rintro e v1 ⟨rfl, hb⟩
 have HB := hide hb
 clear hb HM
 go_wp2
 go_ret
 exact ⟨rfl, HB.out⟩

set_option maxRecDepth 100000 in
set_option maxHeartbeats 4000000 in
theorem eqFunc_any (o1 o2 : Option Addr) (n1 n2 c1 c2 : Nat) (R1 R2 : List (List (List Int))) (w : World) (hn1 : n1 = R1.length) (hn2 : n2 = R2.length) (h1 : RiR 0 w.heap.size w (.slice o1 n1 c1) R1) (h2 : RiR 0 w.heap.size w (.slice o2 n2 c2) R2) (l1 : n1 ≤ 1048576) (x1 : ∀ i, i < R1.length → (R1.getD i []).length ≤ 1048576) (y1 : ∀ i, i < R1.length → ∀ j, j < (R1.getD i []).length → ((R1.getD i []).getD j []).length ≤ 1048576) (x2 : ∀ i, i < R2.length → (R2.getD i []).length ≤ 1048576) (y2 : ∀ i, i < R2.length → ∀ j, j < (R2.getD i []).length → ((R2.getD i []).getD j []).length ≤ 1048576) :
  Calls Tryz.prog 312 #[.slice o1 n1 c1, .slice o2 n2 c2, .func (Fn.func 313) #[] #[]] w fun e w' => e = .returned (.bool (ringSame R1 R2)) ∧ Below w.heap.size w w' := by
 have eS : ∀ args w, (callFunc 313 args).run Tryz.prog w = .ok (.enter 313 args) w := enters_of Tryz.func313 (by kernel_rfl) rfl
 have HN1 := hide hn1
 have HN2 := hide hn2
 have H1 := hide h1
 have H2 := hide h2
 have X1 := hide x1
 have Y1 := hide y1
 have X2 := hide x2
 have Y2 := hide y2
 by_cases hlen : n1 = n2
 ·subst hlen
  clear hn1 hn2 h1 h2 x1 y1 x2 y2
  go_enter Tryz.func312, Tryz.ntmps312
  go_wp2
  go_loopw [6, 17] (fun rv i wr => ∃ k : Nat, k ≤ n1 ∧ i = .int .i64 (k : Int) ∧ rv = .bool false ∧ Hid (∀ q, q < k → movedI (R1.getD q []) (R2.getD q []) = 0) ∧ Hid (Below w.heap.size w wr))
   (fun _ i _ => n1 - (intOf i).toNat)
  case atStart => exact ⟨0, Nat.zero_le _, rfl, rfl, fun q h => absurd h (Nat.not_lt_zero _), Below.refl _ _⟩
  case round =>
   rename World => wr
   obtain ⟨k, hk, rfl, rfl, HT, HBr⟩ := hrel
   by_cases hlt : k < n1
   ·have hlt' : (k : Int) < (n1 : Int) := by omega
    have hk1 : k < R1.length := by rw [← HN1.out]; exact hlt
    have hk2 : k < R2.length := by rw [← HN2.out]; exact hlt
    obtain ⟨g1, f1, u1, rfl, hg1, a1, t1⟩ := RiRows.atS H1.out (Nat.le_refl _) k hk1
    obtain ⟨g2, f2, u2, rfl, hg2, a2, t2⟩ := RiRows.atS H2.out (Nat.le_refl _) k hk2
    obtain ⟨o3, c3, rfl, r1⟩ := RiT.rd t1
    obtain ⟨o4, c4, rfl, r2⟩ := RiT.rd t2
    replace a1 := bC7 HBr.out a1 hg1
    replace a2 := bC7 HBr.out a2 hg2
    obtain ⟨m1, hm1⟩ : ∃ n, (R1.getD k []).length = n := ⟨_, rfl⟩
    obtain ⟨m2, hm2⟩ : ∃ n, (R2.getD k []).length = n := ⟨_, rfl⟩
    rw [hm1] at a1
    rw [hm2] at a2
    have HSP := hide (samePairs_any o3 o4 c3 c4 m1 m2 (R1.getD k []) (R2.getD k []) wr hm1.symm hm2.symm ((r1.kept HBr.out (Nat.le_refl _)).le HBr.out.size) ((r2.kept HBr.out (Nat.le_refl _)).le HBr.out.size) (X1.out k hk1) (X2.out k hk2) (Y1.out k hk1) (Y2.out k hk2))
    have HNO := hide (fun h => ring_same_no (R1 := R1) (R2 := R2) hk1 h)
    have HTK := HT
    clear t1 t2 r1 r2 hm1 hm2
    obtain ⟨q, hq⟩ : ∃ q, movedI (R1.getD k []) (R2.getD k []) = q := ⟨_, rfl⟩
    rw [hq] at HSP HNO
    have HQ := hide hq
    clear hq
    by_cases h0 : q = 0
    ·subst h0
     go_wp2_with fail
     refine HSP.out.mono ?_
     rintro e v1 ⟨rfl, hb⟩
     have HB9 := hide (HBr.out.trans (hb.mono HBr.out.size))
     have HT9 : Hid (∀ q, q < k + 1 → movedI (R1.getD q []) (R2.getD q []) = 0) := fun q hq => by
      rcases Nat.lt_succ_iff_lt_or_eq.1 hq with h | h
      ·exact HTK.out q h
      ·rw [h]; exact HQ.out
     clear hb HSP a1 a2
     go_wp2
     go_roundw
     case rel => exact ⟨k + 1, by omega, by go_num, rfl, HT9.out, HB9.out⟩
     case measure => simp [intOf]; omega
    ·have HE := hide (HNO.out h0)
     have hqb : (q == 0) = false := by simpa using h0
     rw [hqb] at HSP
     go_wp2_with fail
     refine HSP.out.mono ?_
     rintro e v1 ⟨rfl, hb⟩
     have HB9 := hide (HBr.out.trans (hb.mono HBr.out.size))
     clear hb HSP a1 a2
     go_wp2
     go_ret
     exact ⟨ret_bool HE.out.symm, HB9.out⟩
   ·have e : k = n1 := by omega
    subst e
    have HE : Hid (ringSame R1 R2 = true) := ring_same_yes (by rw [← HN1.out, ← HN2.out]) (fun i hi => HT.out i (by rw [HN1.out]; exact hi))
    go_wp2
    go_ret
    exact ⟨ret_bool HE.out.symm, HBr.out⟩
 ·have HE : Hid (ringSame R1 R2 = false) := ring_same_len (by rw [← hn1, ← hn2]; exact hlen)
  have hne : ¬ ((n1 : Int) = (n2 : Int)) := by omega
  clear hn1 hn2 hlen h1 h2 x1 y1 x2 y2
  go_enter Tryz.func312, Tryz.ntmps312
  go_wp2
  go_ret
  exact ⟨ret_bool HE.out.symm, Below.refl _ _⟩

end Go.Proofs.YtmmhgkkcpjhiiaaGreat

namespace Go.Proofs.YtmmhgkkcpjhiiaaGreat
open Go.ChangeShapes Go.WideShapes Go.ChangeAt Go.RowKit Go.Joins
set_option linter.unusedVariables false
set_option linter.unusedSimpArgs false

def sumN (S : Nat → Nat) : Nat → Nat
  | 0 => 0
  | n + 1 => sumN S n + S n
theorem sumN_le (S : Nat → Nat) {i n : Nat} (h : i ≤ n) : sumN S i ≤ sumN S n := by
  induction n with
  | zero => have : i = 0 := by omega
            subst this; exact Nat.le_refl _
  | succ n ih =>
    by_cases h' : i ≤ n
    · have := ih h'; show sumN S i ≤ sumN S n + S n; omega
    · have : i = n + 1 := by omega
      subst this; exact Nat.le_refl _
theorem sumN_at (S : Nat → Nat) {i n : Nat} (h : i < n) : sumN S i + S i ≤ sumN S n := sumN_le S (show i + 1 ≤ n from h)
theorem sumN_bd (S : Nat → Nat) (m : Nat) (h : ∀ i, S i ≤ m) : ∀ n, sumN S n ≤ m * n
  | 0 => Nat.zero_le _
  | n + 1 => by have := sumN_bd S m h n; have := h n; unfold sumN; rw [Nat.mul_succ]; omega
def lenT (ll : List (List Int)) (i : Nat) : Nat := (ll.getD i []).length
def szT (ll : List (List Int)) : Nat := sumN (lenT ll) ll.length
def lenR (lll : List (List (List Int))) (i : Nat) : Nat := szT (lll.getD i [])
def szR (lll : List (List (List Int))) : Nat := sumN (lenR lll) lll.length
def mk2To {α : Type} (f : Nat → α) (xs : List α) (d : α) (i : Nat) : List α := (List.range xs.length).map (fun j => if j < i then f j else xs.getD j d)
theorem mk2To_zero {α : Type} (f : Nat → α) (xs : List α) (d : α) : mk2To f xs d 0 = xs := by
  apply List.ext_getElem
  · simp [mk2To]
  · intro i h1 h2; simp [mk2To, h2]
theorem mk2To_len {α : Type} (f : Nat → α) (xs : List α) (d : α) (i : Nat) : (mk2To f xs d i).length = xs.length := by simp [mk2To]
theorem mk2To_get {α : Type} (f : Nat → α) (xs : List α) (d : α) (i : Nat) (h : i < xs.length) : (mk2To f xs d i).getD i d = xs.getD i d := by simp [mk2To, h]
theorem mk2To_set {α : Type} (f : Nat → α) (xs : List α) (d : α) (i : Nat) : (mk2To f xs d i).set i (f i) = mk2To f xs d (i + 1) := by
  apply List.ext_getElem
  · simp [mk2To]
  · intro j h1 h2
    simp [mk2To] at h1 h2
    by_cases e : i = j
    · subst e; simp [mk2To]
    · by_cases h3 : j < i
      · simp [mk2To, List.getElem_set, e, h3, show j < i + 1 by omega]
      · simp [mk2To, List.getElem_set, e, h3, show ¬ j < i + 1 by omega]
theorem mk2To_all {α : Type} (f : Nat → α) (xs : List α) (d : α) : mk2To f xs d xs.length = (List.range xs.length).map f := by
  unfold mk2To
  exact List.map_congr_left (fun a ha => by simp at ha; simp [ha])
def mkTf (k : Int) (ll : List (List Int)) (j : Nat) : List Int := markI (k + (sumN (lenT ll) j : Int)) (lenT ll j)
def mkT (k : Int) (ll : List (List Int)) : List (List Int) := (List.range ll.length).map (mkTf k ll)
def mkRf (k : Int) (lll : List (List (List Int))) (j : Nat) : List (List Int) := mkT (k + (sumN (lenR lll) j : Int)) (lll.getD j [])
def mkR (k : Int) (lll : List (List (List Int))) : List (List (List Int)) := (List.range lll.length).map (mkRf k lll)
theorem mkT_len (k : Int) (ll : List (List Int)) : (mkT k ll).length = ll.length := by simp [mkT]
theorem mkT_get (k : Int) (ll : List (List Int)) (i : Nat) (h : i < ll.length) : (mkT k ll).getD i [] = mkTf k ll i := by simp [mkT, h]
theorem mkR_len (k : Int) (ll : List (List (List Int))) : (mkR k ll).length = ll.length := by simp [mkR]
theorem mkR_get (k : Int) (ll : List (List (List Int))) (i : Nat) (h : i < ll.length) : (mkR k ll).getD i [] = mkRf k ll i := by simp [mkR, h]
theorem Stp.wide2 {a b lo hi : Nat} {w w' : World} (s : Stp a b w w') (h1 : lo ≤ a) (h2 : b ≤ hi) : Stp lo hi w w' := ⟨s.os, s.tape, s.output, s.size, fun k hk hn => s.block k hk (by omega)⟩

set_option maxRecDepth 100000 in
set_option maxHeartbeats 1000000 in
theorem markIntSS_in (lo hi : Nat) (v : Value) (ll : List (List Int)) (k : Int) (w : World) (h : InT lo hi w v ll) (h0 : 0 ≤ k) (h1 : k + (szT ll : Int) ≤ 10000000) (hn : ll.length ≤ 1048576) (hz : szT ll ≤ 1048576) :
    Calls Tryz.prog 347 #[v, .int .i64 k] w fun e w' => e = .returned (.int .i64 (k + (szT ll : Int))) ∧ InT lo hi w' v (mkT k ll) ∧ Stp lo hi w w' := by
  obtain ⟨hs, L, H, i0, i1, i2⟩ := h
  have hl := i1.len
  obtain ⟨o, c, e, r⟩ := InL.rd (L := layH) i0
  subst e
  rw [hl] at i0 i2 ⊢
  have HOUT := hide i2
  have HBD := hide i1.bd
  have I0 := hide i0
  have I1 := hide (show Rw InI [] (mk2To (mkTf k ll) ll [] 0) lo hi w hs L H by rw [mk2To_zero]; exact i1)
  have HL := hide hl
  clear i0 i1 i2 r hl
  go_enter Tryz.func347, Tryz.ntmps347
  go_wp2
  go_loopw [1, 5] (fun m j wr => ∃ i : Nat, i ≤ ll.length ∧ j = .int .i64 (i : Int) ∧ m = .int .i64 (k + (sumN (lenT ll) i : Int)) ∧ Hid (InL layH 47 lo hi wr (.slice o ll.length c) hs) ∧ Hid (Rw InI [] (mk2To (mkTf k ll) ll [] i) lo hi wr hs L H) ∧ Hid (Stp lo hi w wr))
    (fun _ j _ => ll.length - (intOf j).toNat)
  case atStart => exact ⟨0, Nat.zero_le _, rfl, by simp [sumN], I0.out, I1.out, Stp.refl _⟩
  case round =>
    obtain ⟨i, hi', rfl, rfl, HI, HR, HS⟩ := hrel
    clear I0 I1
    have hsm := sumN_le (lenT ll) hi'
    have hsz : sumN (lenT ll) ll.length = szT ll := rfl
    rw [hsz] at hsm
    clear hsz
    by_cases hlt : i < ll.length
    · obtain ⟨o', c', e', r⟩ := InL.rd (L := layH) HI.out
      injection e' with e1 e2 e3
      rw [← e1] at r
      rcases r with r | ⟨b, off, rfl, hb, r⟩
      · have := HL.out; rw [r] at this; simp at this; omega
      have hc := RdL.head r i (by rw [HL.out]; exact hlt)
      have hrow := HR.out.row i (by rw [mk2To_len]; exact hlt)
      rw [mk2To_get _ _ _ _ hlt] at hrow
      have hsa := sumN_at (lenT ll) hlt
      rw [show sumN (lenT ll) ll.length = szT ll from rfl] at hsa
      have hm := markIntS_any (L i) (hv hs i) (ll.getD i []) (k + (sumN (lenT ll) i : Int)) wr hrow.1 (by omega) (by omega) (by unfold lenT at hsa; omega)
      have HSU := hide (show k + (sumN (lenT ll) i : Int) + ((ll.getD i []).length : Int) = k + (sumN (lenT ll) (i + 1) : Int) by rw [show sumN (lenT ll) (i + 1) = sumN (lenT ll) i + (ll.getD i []).length from rfl]; omega)
      have HLT := hide (fun b e => And.intro (hrow.1.lt b e).1 (hrow.2 b e))
      have HNX := hide (fun w2 (s : Stp (L i) (H i) wr w2) q => Rw.mark InI.stp HR.out (i := i) (by rw [mk2To_len]; exact hlt) s (y := mkTf k ll i) q)
      have HBI := hide (HBD.out i hlt)
      have HRW := hide (hrow.2)
      have z1 : (i : Int) < (ll.length : Int) := by omega
      change wr.cell? ⟨b, off + i, none⟩ = some (hv hs i) at hc
      obtain ⟨q, hq⟩ : ∃ q, (ll.getD i []).length = q := ⟨_, rfl⟩
      rw [hq] at hm HSU
      have HQ := hide hq
      clear hq
      clear hrow r hsa HR e1 e2 e3
      generalize hv hs i = rv at *
      generalize hst : sumN (lenT ll) i = s0 at *
      have HST := hide hst
      clear hst
      go_wp2_with fail
      refine hm.mono ?_
      rintro e w2 ⟨rfl, ho2, hg2⟩
      have HS2 : Hid (Stp (L i) (H i) wr w2) := Stp.grown hg2 HLT.out
      have HO2 := hide (HNX.out w2 HS2.out ⟨by unfold mkTf; rw [HST.out, show lenT ll i = q from HQ.out]; exact ho2, HRW.out⟩)
      have HI2 := hide (InRow.steps HI.out HS2.out (fun g e => HOUT.out i hlt g e))
      clear ho2 hg2 hm hc HNX
      go_wp2
      go_roundw
      case rel => exact ⟨i + 1, by omega, by go_num, by rw [HSU.out], HI2.out, by rw [← mk2To_set]; exact HO2.out, HS.out.trans (HS2.out.wide2 HBI.out.1 HBI.out.2)⟩
      case measure => simp [intOf]; omega
    · have e : i = ll.length := by omega
      subst e
      go_wp2
      go_ret
      exact ⟨rfl, ⟨hs, L, H, HI.out, by unfold mkT; rw [← mk2To_all]; exact HR.out, by rw [mkT_len]; exact HOUT.out⟩, HS.out⟩

end Go.Proofs.YtmmhgkkcpjhiiaaGreat

