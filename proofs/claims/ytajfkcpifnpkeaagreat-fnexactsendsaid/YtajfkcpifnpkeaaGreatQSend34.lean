/- Several texts in one: SBFrom, SBSame, SBSame2, ShBal, SBBox. -/
import Derived.BigQuiet
import Derived.Test.YtajfkcpifnpkeaaGreatQSend33
import Derived.Test.YtajfkcpifnpkeaaGreatQSend06
import Derived.Test.YtajfkcpifnpkeaaGreatQSend27
import Derived.Test.YtajfkcpifnpkeaaGreatQSend23
import Derived.Test.YtajfkcpifnpkeaaGreatRows
import Derived.Test.YtajfkcpifnpkeaaGreatQSend24
import Derived.Test.YtajfkcpifnpkeaaGreatQSend30
import Derived.Test.YtajfkcpifnpkeaaGreatQSend21
/- Hints out of a table: the program's hintsFrom. -/
namespace Go.Proofs.YtajfkcpifnpkeaaGreat
open Go.ChangeShapes Go.WideShapes Go.ChangeAt Go.RowKit Go.Joins
set_option linter.unusedVariables false
set_option linter.unusedSimpArgs false


def isV (s : Sl) : Bool := decide (0 ≤ s.v) && decide (s.v < 6)
def hintB (l : List Sl) : Bool := tableOkB l && l.all isV
theorem take_allV (l : List Sl) (k : Nat) (h : k < l.length) : (l.take (k + 1)).all isV = ((l.take k).all isV && isV (l.getD k sl0)) := by
 rw [List.take_succ_eq_append_getElem h, List.all_append]
 simp [h]

set_option maxRecDepth 100000 in
set_option maxHeartbeats 8000000 in
theorem hintsFrom_any (o : Option Addr) (n c : Nat) (l : List Sl) (w : World) (hn : n = l.length) (hR : RdS w.heap.size w o l) (hl : l.length ≤ 1048576) :
  Calls Tryz.prog 111 #[tab (.slice o n c)] w fun e w' => ∃ o' n' c', e = .returned (.tuple #[tab (.slice o' n' c'), .bool (hintB l)]) ∧ (tableOkB l = true → ∃ g, o' = some ⟨g, 0, none⟩ ∧ n' = l.length ∧ c' = l.length ∧ ownL layS CellT w' w.heap.size (.slice (some ⟨g, 0, none⟩) l.length l.length) l) ∧ Below w.heap.size w w' := by
 have HTF := hide (fun W (hb : Below w.heap.size w W) => tableFrom_all o c l W ((hR.kept hb (Nat.le_refl _)).le hb.size) hl)
 have HHB := hide (show hintB l = (tableOkB l && l.all isV) from rfl)
 rw [← hn] at HTF
 have HN := hide hn
 clear hR hn
 obtain ⟨W0, hW0⟩ : ∃ W, ((w.alloc (.cells #[.slice o n c] 44)).alloc (.cells #[.slice none 0 0] 107)) = W := ⟨_, rfl⟩
 have hb_W0 : Below w.heap.size w W0 := by rw [← hW0]; exact (((Below.refl _ _).alloc (Nat.le_refl _) _).alloc (by simp <;> omega) _)
 have HB := hide hb_W0
 clear hb_W0
 have zz : w.heap.size < W0.heap.size := by rw [← hW0]; simp <;> omega
 have z0 : W0.cell? ⟨w.heap.size, 0, none⟩ = some (.slice o n c) := by rw [← hW0]; simp [go_sem]
 have zr : w.heap.size + 1 < W0.heap.size := by rw [← hW0]; simp
 have r0 : W0.cell? ⟨w.heap.size + 1, 0, none⟩ = some (.slice none 0 0) := by rw [← hW0]; simp [go_sem]
 have fr0 : W0.frozen? ⟨w.heap.size + 1, 0, none⟩ = false := by rw [← hW0]; simp [go_sem]
 have hzr := zr
 go_enter Tryz.func111, Tryz.ntmps111
 go_wp2_with fail
 refine (HTF.out W0 HB.out).mono ?_
 rintro e v1 ⟨o1, n1, c1, rfl, hway, hb⟩
 have HWY := hide hway
 clear hway
 have hs1 := hb.size
 replace z0 : v1.cell? ⟨w.heap.size, 0, none⟩ = some (.slice o n c) := (hb.cell (p := ⟨w.heap.size, 0, none⟩) zz).trans z0
 replace zz : w.heap.size < v1.heap.size := Nat.lt_of_lt_of_le zz hb.size
 replace r0 : v1.cell? ⟨w.heap.size + 1, 0, none⟩ = some (.slice none 0 0) := (hb.cell (p := ⟨w.heap.size + 1, 0, none⟩) zr).trans r0
 replace fr0 : v1.frozen? ⟨w.heap.size + 1, 0, none⟩ = false := (hb.frozen (p := ⟨w.heap.size + 1, 0, none⟩) zr).trans fr0
 replace zr : w.heap.size + 1 < v1.heap.size := Nat.lt_of_lt_of_le zr hb.size
 replace HB := hide (HB.out.trans (hb.mono HB.out.size))
 clear hb
 obtain ⟨W2, hW2⟩ : ∃ W, (v1.alloc (.cells #[.slice o1 n1 c1] 105)) = W := ⟨_, rfl⟩
 have hb_W2 : Below v1.heap.size v1 W2 := by rw [← hW2]; exact ((Below.refl _ _).alloc (Nat.le_refl _) _)
 replace z0 : W2.cell? ⟨w.heap.size, 0, none⟩ = some (.slice o n c) := (hb_W2.cell (p := ⟨w.heap.size, 0, none⟩) zz).trans z0
 replace zz : w.heap.size < W2.heap.size := Nat.lt_of_lt_of_le zz hb_W2.size
 replace r0 : W2.cell? ⟨w.heap.size + 1, 0, none⟩ = some (.slice none 0 0) := (hb_W2.cell (p := ⟨w.heap.size + 1, 0, none⟩) zr).trans r0
 replace fr0 : W2.frozen? ⟨w.heap.size + 1, 0, none⟩ = false := (hb_W2.frozen (p := ⟨w.heap.size + 1, 0, none⟩) zr).trans fr0
 replace zr : w.heap.size + 1 < W2.heap.size := Nat.lt_of_lt_of_le zr hb_W2.size
 replace HB := hide (HB.out.trans (hb_W2.mono HB.out.size))
 clear hb_W2
 have zf : v1.heap.size < W2.heap.size := by rw [← hW2]; simp
 have f0 : W2.cell? ⟨v1.heap.size, 0, none⟩ = some (.slice o1 n1 c1) := by rw [← hW2]; simp [go_sem]
 have hs2 : v1.heap.size < W2.heap.size := by rw [← hW2]; simp
 have hbv : Below v1.heap.size v1 W2 := by rw [← hW2]; exact (Below.refl _ _).alloc (Nat.le_refl _) _
 obtain ⟨tk, htk⟩ : ∃ b, tableOkB l = b := ⟨_, rfl⟩
 rw [htk] at HWY HHB ⊢
 have HTK := hide htk
 clear htk
 have HEN : Hid ((tk && (l.take n1).all isV) = hintB l ∧ n1 ≤ l.length) := by
  rcases HWY.out with ⟨h0, h1⟩ | ⟨g, hg, hn1, hc1, how⟩
  ·rw [HHB.out, h0, h1]; exact ⟨rfl, Nat.zero_le _⟩
  ·rw [HHB.out, hn1, HN.out, List.take_length]; exact ⟨rfl, Nat.le_refl _⟩
 have HCE : Hid (∀ k, k < n1 → ∃ g, o1 = some ⟨g, 0, none⟩ ∧ g < v1.heap.size ∧ v1.cell? ⟨g, k * 5, none⟩ = some (.bool (l.getD k sl0).u) ∧ v1.cell? ⟨g, k * 5 + 1, none⟩ = some (.int .i64 (l.getD k sl0).a) ∧ v1.cell? ⟨g, k * 5 + 2, none⟩ = some (.int .i64 (l.getD k sl0).p) ∧ v1.cell? ⟨g, k * 5 + 3, none⟩ = some (.int .i64 (l.getD k sl0).v) ∧ v1.cell? ⟨g, k * 5 + 4, none⟩ = some (.int .i64 (l.getD k sl0).t)) := by
  intro k hk
  rcases HWY.out with ⟨h0, h1⟩ | ⟨g, hg, hn1, hc1, how⟩
  ·omega
  ·refine ⟨g, hg, (how.lt g rfl).2, ?_⟩
   rcases ownL.rd (L := layS) how with h | ⟨b, off, e, hb, r⟩
   ·rw [hn1, HN.out, h] at hk; exact absurd hk (Nat.not_lt_zero _)
   ·injection e with e
    injection e with e1 e2 _
    subst e1 e2
    have hk' : k < l.length := by rw [← HN.out, ← hn1]; exact hk
    have q0 := r k hk' 0 (by decide)
    have q1 := r k hk' 1 (by decide)
    have q2 := r k hk' 2 (by decide)
    have q3 := r k hk' 3 (by decide)
    have q4 := r k hk' 4 (by decide)
    rw [Nat.zero_add] at q0 q1 q2 q3 q4
    exact ⟨q0, q1, q2, q3, q4⟩
 have hl1 : n1 ≤ 1048576 := by have := HEN.out.2; omega
 go_wp2
 go_loopw [5, 16] (fun okv iv wr => ∃ k : Nat, k ≤ n1 ∧ iv = .int .i64 (k : Int) ∧ okv = .bool (tk && (l.take k).all isV) ∧ Hid (Below W2.heap.size W2 wr))
  (fun _ iv _ => n1 - (intOf iv).toNat)
 case atStart => exact ⟨0, Nat.zero_le _, rfl, by simp, Below.refl _ _⟩
 case round =>
  rename World => wr
  obtain ⟨k, hk', rfl, rfl, HBr⟩ := hrel
  by_cases hlt : k < n1
  ·have hlt' : (k : Int) < (n1 : Int) := by omega
   obtain ⟨g, rfl, hg, a0, a1, a2, a3, a4⟩ := HCE.out k hlt
   have hBv := hide (hbv.trans (HBr.out.mono (Nat.le_of_lt hs2)))
   replace a0 := (hBv.out.cell (p := ⟨g, k * 5, none⟩) hg).trans a0
   replace a1 := (hBv.out.cell (p := ⟨g, k * 5 + 1, none⟩) hg).trans a1
   replace a2 := (hBv.out.cell (p := ⟨g, k * 5 + 2, none⟩) hg).trans a2
   replace a3 := (hBv.out.cell (p := ⟨g, k * 5 + 3, none⟩) hg).trans a3
   replace a4 := (hBv.out.cell (p := ⟨g, k * 5 + 4, none⟩) hg).trans a4
   have HTA := hide (take_allV l k (by have := HEN.out.2; omega))
   generalize l.getD k sl0 = s at *
   obtain ⟨su, sa, sp, sv, st⟩ := s
   dsimp only at a0 a1 a2 a3 a4
   obtain ⟨okk, hokk⟩ : ∃ b, (tk && (l.take k).all isV) = b := ⟨_, rfl⟩
   have HNX : Hid ((tk && (l.take (k + 1)).all isV) = (okk && isV ⟨su, sa, sp, sv, st⟩)) := by unfold Hid; rw [HTA.out, ← hokk, Bool.and_assoc]
   rw [hokk]
   clear hokk HTA
   obtain ⟨W5, hW5⟩ : ∃ W, wr.alloc (.cells #[.bool su, .int .i64 sa, .int .i64 sp, .int .i64 sv, .int .i64 st] 197) = W := ⟨_, rfl⟩
   have hb5 : Below wr.heap.size wr W5 := by rw [← hW5]; exact (Below.refl _ _).alloc (Nat.le_refl _) _
   have y3 : W5.cell? ⟨wr.heap.size, 3, none⟩ = some (.int .i64 sv) := by rw [← hW5]; simp [go_sem]
   have HB9 := hide (HBr.out.trans (hb5.mono HBr.out.size))
   clear hb5
   cases okk with
   | false =>
    go_wp2
    go_roundw
    case rel => exact ⟨k + 1, by omega, by go_num, by rw [HNX.out]; rfl, HB9.out⟩
    case measure => simp [intOf]; omega
   | true =>
    have HIB := hide (isBack_any sv W5)
    have HIV := hide (show isV ⟨su, sa, sp, sv, st⟩ = (decide (0 ≤ sv) && decide (sv < 6)) from rfl)
    generalize (decide (0 ≤ sv) && decide (sv < 6)) = ib at *
    go_wp2_with fail
    refine HIB.out.mono ?_
    rintro e _ ⟨rfl, rfl⟩
    go_wp2
    go_roundw
    case rel => exact ⟨k + 1, by omega, by go_num, by rw [HNX.out, HIV.out]; rfl, HB9.out⟩
    case measure => simp [intOf]; omega
  ·have e : k = n1 := by omega
   subst e
   have HB9 := hide (HB.out.trans (HBr.out.mono HB.out.size))
   have y0 := (HBr.out.cell (p := ⟨v1.heap.size, 0, none⟩) zf).trans f0
   have hr := (HBr.out.cell (p := ⟨w.heap.size + 1, 0, none⟩) zr).trans r0
   have hfr := (HBr.out.frozen (p := ⟨w.heap.size + 1, 0, none⟩) zr).trans fr0
   have HOF : Hid (tableOkB l = true → ∃ g, o1 = some ⟨g, 0, none⟩ ∧ k = l.length ∧ c1 = l.length ∧ ownL layS CellT (wr.setCell ⟨w.heap.size + 1, 0, none⟩ (.slice o1 k c1)) w.heap.size (.slice (some ⟨g, 0, none⟩) l.length l.length) l) := by
    intro ht
    rcases HWY.out with ⟨h0, h1⟩ | ⟨g, hg, hn1, hc1, how⟩
    ·rw [← HTK.out, ht] at h1; cases h1
    ·rw [HN.out] at hn1 hc1 how; exact ⟨g, hg, hn1, hc1, own_mono (ownsRow_setCell_below (own_kept (own_kept how hbv) HBr.out) (show w.heap.size + 1 < W0.heap.size from hzr) _) (Nat.le_of_lt (Nat.lt_of_succ_lt hzr))⟩
   rw [HEN.out.1]
   go_wp2
   refine bodyPost_ret (v := .tuple #[tab (.slice o1 k c1), .bool (hintB l)]) (by simp [results, Tryz.results111, go_sem, hr]) rfl ⟨o1, k, c1, rfl, HOF.out, HB9.out.setCell (p := ⟨w.heap.size + 1, 0, none⟩) (Nat.le_succ _) _⟩

end Go.Proofs.YtajfkcpifnpkeaaGreat

/- Are two pools one? On both sides. -/
namespace Go.Proofs.YtajfkcpifnpkeaaGreat
open Go.ChangeShapes Go.WideShapes Go.ChangeAt Go.RowKit Go.Joins
set_option linter.unusedVariables false
set_option linter.unusedSimpArgs false


def ringSame (R1 R2 : List (List (List Int))) : Bool := decide (R1.length = R2.length) && (List.range R1.length).all (fun i => movedI (R1.getD i []) (R2.getD i []) == 0)
theorem bC7 {C b j : Nat} {w w' : World} {u : Value} (h : Below C w w') (hc : w.cell? ⟨b, j, none⟩ = some u) (hz : b < C) : w'.cell? ⟨b, j, none⟩ = some u := (h.cell (p := ⟨b, j, none⟩) hz).trans hc
theorem RiRows.atS {α : Type} {Q : Nat → Nat → World → Value → α → Prop} {d : α} {a C : Nat} {w : World} {o : Option Addr} {n c : Nat} {xs : List α} (h : RiRows Q d a C w (.slice o n c) xs) (hC : C ≤ w.heap.size) (i : Nat) (hi : i < xs.length) : ∃ b off u, o = some ⟨b, off, none⟩ ∧ b < C ∧ w.cell? ⟨b, off + i, none⟩ = some u ∧ Q a C w u (xs.getD i d) := by
 obtain ⟨hs, h0, h1, h2⟩ := h
 obtain ⟨o1, c1, e, r⟩ := h1.open
 injection e with e1 e2 e3
 subst e1
 rcases r with r | ⟨b, off, ho, hb, r⟩
 ·subst r; simp at h0; omega
 ·exact ⟨b, off, hv hs i, ho, hb, RdL.head r i (by omega), h2 i hi⟩
theorem ring_same_no {R1 R2 : List (List (List Int))} {i : Nat} (hi : i < R1.length) (h : movedI (R1.getD i []) (R2.getD i []) ≠ 0) : ringSame R1 R2 = false := by
 unfold ringSame
 rw [Bool.and_eq_false_iff]
 right
 rw [List.all_eq_false]
 exact ⟨i, by simpa using hi, by simpa using h⟩
theorem ring_same_yes {R1 R2 : List (List (List Int))} (hl : R1.length = R2.length) (h : ∀ i, i < R1.length → movedI (R1.getD i []) (R2.getD i []) = 0) : ringSame R1 R2 = true := by
 unfold ringSame
 rw [decide_eq_true hl, Bool.true_and, List.all_eq_true]
 intro i hi
 rw [h i (by simpa using hi)]
 rfl
theorem ring_same_len {R1 R2 : List (List (List Int))} (hl : R1.length ≠ R2.length) : ringSame R1 R2 = false := by
 unfold ringSame; rw [decide_eq_false hl]; rfl
theorem RdK.cells3 {C : Nat} {w : World} {o : Option Addr} {l : List Bk} (h : RdK C w o l) (j : Nat) (hj : j < l.length) : ∃ g off, o = some ⟨g, off, none⟩ ∧ g < C ∧ w.cell? ⟨g, off + j * 3, none⟩ = some (.int .i64 (l.getD j (0, 0, false)).1) ∧ w.cell? ⟨g, off + j * 3 + 1, none⟩ = some (.int .i64 (l.getD j (0, 0, false)).2.1) ∧ w.cell? ⟨g, off + j * 3 + 2, none⟩ = some (.bool (l.getD j (0, 0, false)).2.2) := by
 rcases h with r | ⟨b, off, ho, hb, r⟩
 ·subst r; exact absurd hj (Nat.not_lt_zero _)
 ·exact ⟨b, off, ho, hb, r j hj 0 (by decide), r j hj 1 (by decide), r j hj 2 (by decide)⟩
theorem take_snocK (l : List Bk) (k : Nat) (h : k < l.length) : l.take (k + 1) = l.take k ++ [l.getD k (0, 0, false)] := takeL_succ layK l k h

set_option maxRecDepth 100000 in
set_option maxHeartbeats 4000000 in
theorem backsEq_any (o1 o2 : Option Addr) (n1 n2 c1 c2 : Nat) (l1 l2 : List Bk) (w : World) (hn1 : n1 = l1.length) (hn2 : n2 = l2.length) (h1 : RdK w.heap.size w o1 l1) (h2 : RdK w.heap.size w o2 l2) (hl1 : l1.length ≤ 1048576) (hl2 : l2.length ≤ 1048576) :
  Calls Tryz.prog 167 #[.slice o1 n1 c1, .slice o2 n2 c2] w fun e w' => e = .returned (.bool (decide (l1 = l2))) ∧ Below w.heap.size w w' := by
 have HN1 := hide hn1
 have HN2 := hide hn2
 have H1 := hide h1
 have H2 := hide h2
 by_cases hlen : n1 = n2
 ·subst hlen
  rw [← hn1] at hl1
  clear hn1 hn2 h1 h2 hl2
  go_enter Tryz.func167, Tryz.ntmps167
  go_wp2
  go_loopw [4, 13] (fun rv i wr => ∃ k : Nat, k ≤ n1 ∧ i = .int .i64 (k : Int) ∧ rv = .bool false ∧ Hid (l1.take k = l2.take k) ∧ Hid (Below w.heap.size w wr))
   (fun _ i _ => n1 - (intOf i).toNat)
  case atStart => exact ⟨0, Nat.zero_le _, rfl, rfl, rfl, Below.refl _ _⟩
  case round =>
   rename World => wr
   obtain ⟨k, hk, rfl, rfl, HT, HBr⟩ := hrel
   by_cases hlt : k < n1
   ·have hlt' : (k : Int) < (n1 : Int) := by omega
    obtain ⟨g1, f1, rfl, hg1, a0, a1, a2⟩ := RdK.cells3 H1.out k (by rw [← HN1.out]; exact hlt)
    obtain ⟨g2, f2, rfl, hg2, b0, b1, b2⟩ := RdK.cells3 H2.out k (by rw [← HN2.out]; exact hlt)
    have Ga0 := Grown.cell (bC7 HBr.out a0 hg1) (Nat.lt_of_lt_of_le hg1 HBr.out.size)
    have Ga1 := Grown.cell (bC7 HBr.out a1 hg1) (Nat.lt_of_lt_of_le hg1 HBr.out.size)
    have Ga2 := Grown.cell (bC7 HBr.out a2 hg1) (Nat.lt_of_lt_of_le hg1 HBr.out.size)
    have Gb0 := Grown.cell (bC7 HBr.out b0 hg2) (Nat.lt_of_lt_of_le hg2 HBr.out.size)
    have Gb1 := Grown.cell (bC7 HBr.out b1 hg2) (Nat.lt_of_lt_of_le hg2 HBr.out.size)
    have Gb2 := Grown.cell (bC7 HBr.out b2 hg2) (Nat.lt_of_lt_of_le hg2 HBr.out.size)
    have T1 := hide (take_snocK l1 k (by rw [← HN1.out]; exact hlt))
    have T2 := hide (take_snocK l2 k (by rw [← HN2.out]; exact hlt))
    have N12 : Hid (l1 = l2 → l1.getD k (0, 0, false) = l2.getD k (0, 0, false)) := fun h => by rw [h]
    clear a0 a1 a2 b0 b1 b2
    generalize l1.getD k (0, 0, false) = d at *
    generalize l2.getD k (0, 0, false) = e at *
    by_cases hde : d = e
    ·subst hde
     obtain ⟨d0, d1, d2⟩ := d
     dsimp only at Ga0 Ga1 Ga2 Gb0 Gb1 Gb2
     clear N12
     go_wp2
     (refine wp_region_grown (by kernel_rfl) (by kernel_rfl) ?_; intro hne9; (repeat (go_big_quiet_step (fail))); (with_reducible refine wpQuiet_nil ?_); intro _ hw9; obtain ⟨pq, hw8⟩ := hw9; subst hw8)
     have HB9 := hide (HBr.out.trans (pq.b.mono HBr.out.size))
     go_wp2
     go_roundw
     case rel => exact ⟨k + 1, by omega, by go_num, rfl, (by unfold Hid; rw [T1.out, T2.out, HT.out]), HB9.out⟩
     case measure => simp [intOf]; omega
    ·have HX : Hid (l1 ≠ l2) := fun h => hde (N12.out h)
     obtain ⟨d0, d1, d2⟩ := d
     obtain ⟨e0, e1, e2⟩ := e
     dsimp only at Ga0 Ga1 Ga2 Gb0 Gb1 Gb2
     have hne : ¬ (d0 = e0 ∧ d1 = e1 ∧ d2 = e2) := fun h => hde (by rw [h.1, h.2.1, h.2.2])
     clear hde N12 T1 T2
     by_cases q0 : d0 = e0
     ·subst q0
      by_cases q1 : d1 = e1
      ·subst q1
       have q2 : ¬ d2 = e2 := fun h => hne ⟨rfl, rfl, h⟩
       clear hne
       cases d2 <;> cases e2 <;> first | exact absurd rfl q2 | skip
       all_goals clear q2
       all_goals go_wp2
       all_goals (refine wp_region_grown (by kernel_rfl) (by kernel_rfl) ?_; intro hne9; (repeat (go_big_quiet_step (fail))); (with_reducible refine wpQuiet_nil ?_); intro _ hw9; obtain ⟨pq, hw8⟩ := hw9; subst hw8)
       all_goals have HB9 := hide (HBr.out.trans (pq.b.mono HBr.out.size))
       all_goals go_wp2
       all_goals go_ret
       all_goals exact ⟨ret_bool (decide_eq_false HX.out).symm, HB9.out⟩
      ·clear hne
       have q1' : (d1 == e1) = false := by simpa using q1
       go_wp2
       (refine wp_region_grown (by kernel_rfl) (by kernel_rfl) ?_; intro hne9; (repeat (go_big_quiet_step (fail))); (with_reducible refine wpQuiet_nil ?_); intro _ hw9; obtain ⟨pq, hw8⟩ := hw9; subst hw8)
       have HB9 := hide (HBr.out.trans (pq.b.mono HBr.out.size))
       go_wp2
       go_ret
       exact ⟨ret_bool (decide_eq_false HX.out).symm, HB9.out⟩
     ·clear hne
      have q0' : (d0 == e0) = false := by simpa using q0
      go_wp2
      (refine wp_region_grown (by kernel_rfl) (by kernel_rfl) ?_; intro hne9; (repeat (go_big_quiet_step (fail))); (with_reducible refine wpQuiet_nil ?_); intro _ hw9; obtain ⟨pq, hw8⟩ := hw9; subst hw8)
      have HB9 := hide (HBr.out.trans (pq.b.mono HBr.out.size))
      go_wp2
      go_ret
      exact ⟨ret_bool (decide_eq_false HX.out).symm, HB9.out⟩
   ·have e : k = n1 := by omega
    subst e
    have HE : Hid (l1 = l2) := by
     have h := HT.out
     rw [List.take_of_length_le (by rw [← HN1.out]; exact Nat.le_refl _), List.take_of_length_le (by rw [← HN2.out]; exact Nat.le_refl _)] at h
     exact h
    go_wp2
    go_ret
    exact ⟨ret_bool (decide_eq_true HE.out).symm, HBr.out⟩
 ·have HE : Hid (l1 ≠ l2) := fun h => hlen (by rw [hn1, hn2, h])
  have hne : ¬ ((n1 : Int) = (n2 : Int)) := by omega
  clear hn1 hn2 hlen
  go_enter Tryz.func167, Tryz.ntmps167
  go_wp2
  go_ret
  exact ⟨ret_bool (decide_eq_false HE.out).symm, Below.refl _ _⟩

set_option maxHeartbeats 1000000 in
theorem samePairs_any (oa ob : Option Addr) (ca cb na nb : Nat) (aa bb : List (List Int)) (w : World) (hna : na = aa.length) (hnb : nb = bb.length) (hA : RdLL w.heap.size w oa aa) (hB : RdLL w.heap.size w ob bb) (la : aa.length ≤ 1048576) (lb : bb.length ≤ 1048576)
  (xa : ∀ i, i < aa.length → (aa.getD i []).length ≤ 1048576) (xb : ∀ i, i < bb.length → (bb.getD i []).length ≤ 1048576) :
  Calls Tryz.prog 169 #[.slice oa na ca, .slice ob nb cb] w fun e w' => e = .returned (.bool (movedI aa bb == 0)) ∧ Below w.heap.size w w' := by
 have HM := hide (implMoved_any oa ob ca cb aa bb w hA hB la lb xa xb)
 rw [← hna, ← hnb] at HM
 clear hA hB xa xb hna hnb
 generalize movedI aa bb = q at *
 go_enter Tryz.func169, Tryz.ntmps169
 go_wp2_with fail
 refine HM.out.mono ?_
 rintro e v1 ⟨rfl, hb⟩
 have HB := hide hb
 clear hb HM
 go_wp2
 go_ret
 exact ⟨rfl, HB.out⟩

set_option maxRecDepth 100000 in
set_option maxHeartbeats 4000000 in
theorem eqFunc_any (o1 o2 : Option Addr) (n1 n2 c1 c2 : Nat) (R1 R2 : List (List (List Int))) (w : World) (hn1 : n1 = R1.length) (hn2 : n2 = R2.length) (h1 : RiR 0 w.heap.size w (.slice o1 n1 c1) R1) (h2 : RiR 0 w.heap.size w (.slice o2 n2 c2) R2) (l1 : n1 ≤ 1048576) (x1 : ∀ i, i < R1.length → (R1.getD i []).length ≤ 1048576) (y1 : ∀ i, i < R1.length → ∀ j, j < (R1.getD i []).length → ((R1.getD i []).getD j []).length ≤ 1048576) (x2 : ∀ i, i < R2.length → (R2.getD i []).length ≤ 1048576) (y2 : ∀ i, i < R2.length → ∀ j, j < (R2.getD i []).length → ((R2.getD i []).getD j []).length ≤ 1048576) :
  Calls Tryz.prog 168 #[.slice o1 n1 c1, .slice o2 n2 c2, .func (Fn.func 169) #[] #[]] w fun e w' => e = .returned (.bool (ringSame R1 R2)) ∧ Below w.heap.size w w' := by
 have eS : ∀ args w, (callFunc 169 args).run Tryz.prog w = .ok (.enter 169 args) w := enters_of Tryz.func169 (by kernel_rfl) rfl
 have HN1 := hide hn1
 have HN2 := hide hn2
 have H1 := hide h1
 have H2 := hide h2
 have X1 := hide x1
 have Y1 := hide y1
 have X2 := hide x2
 have Y2 := hide y2
 by_cases hlen : n1 = n2
 ·subst hlen
  clear hn1 hn2 h1 h2 x1 y1 x2 y2
  go_enter Tryz.func168, Tryz.ntmps168
  go_wp2
  go_loopw [6, 17] (fun rv i wr => ∃ k : Nat, k ≤ n1 ∧ i = .int .i64 (k : Int) ∧ rv = .bool false ∧ Hid (∀ q, q < k → movedI (R1.getD q []) (R2.getD q []) = 0) ∧ Hid (Below w.heap.size w wr))
   (fun _ i _ => n1 - (intOf i).toNat)
  case atStart => exact ⟨0, Nat.zero_le _, rfl, rfl, fun q h => absurd h (Nat.not_lt_zero _), Below.refl _ _⟩
  case round =>
   rename World => wr
   obtain ⟨k, hk, rfl, rfl, HT, HBr⟩ := hrel
   by_cases hlt : k < n1
   ·have hlt' : (k : Int) < (n1 : Int) := by omega
    have hk1 : k < R1.length := by rw [← HN1.out]; exact hlt
    have hk2 : k < R2.length := by rw [← HN2.out]; exact hlt
    obtain ⟨g1, f1, u1, rfl, hg1, a1, t1⟩ := RiRows.atS H1.out (Nat.le_refl _) k hk1
    obtain ⟨g2, f2, u2, rfl, hg2, a2, t2⟩ := RiRows.atS H2.out (Nat.le_refl _) k hk2
    obtain ⟨o3, c3, rfl, r1⟩ := RiT.rd t1
    obtain ⟨o4, c4, rfl, r2⟩ := RiT.rd t2
    replace a1 := bC7 HBr.out a1 hg1
    replace a2 := bC7 HBr.out a2 hg2
    obtain ⟨m1, hm1⟩ : ∃ n, (R1.getD k []).length = n := ⟨_, rfl⟩
    obtain ⟨m2, hm2⟩ : ∃ n, (R2.getD k []).length = n := ⟨_, rfl⟩
    rw [hm1] at a1
    rw [hm2] at a2
    have HSP := hide (samePairs_any o3 o4 c3 c4 m1 m2 (R1.getD k []) (R2.getD k []) wr hm1.symm hm2.symm ((r1.kept HBr.out (Nat.le_refl _)).le HBr.out.size) ((r2.kept HBr.out (Nat.le_refl _)).le HBr.out.size) (X1.out k hk1) (X2.out k hk2) (Y1.out k hk1) (Y2.out k hk2))
    have HNO := hide (fun h => ring_same_no (R1 := R1) (R2 := R2) hk1 h)
    have HTK := HT
    clear t1 t2 r1 r2 hm1 hm2
    obtain ⟨q, hq⟩ : ∃ q, movedI (R1.getD k []) (R2.getD k []) = q := ⟨_, rfl⟩
    rw [hq] at HSP HNO
    have HQ := hide hq
    clear hq
    by_cases h0 : q = 0
    ·subst h0
     go_wp2_with fail
     refine HSP.out.mono ?_
     rintro e v1 ⟨rfl, hb⟩
     have HB9 := hide (HBr.out.trans (hb.mono HBr.out.size))
     have HT9 : Hid (∀ q, q < k + 1 → movedI (R1.getD q []) (R2.getD q []) = 0) := fun q hq => by
      rcases Nat.lt_succ_iff_lt_or_eq.1 hq with h | h
      ·exact HTK.out q h
      ·rw [h]; exact HQ.out
     clear hb HSP a1 a2
     go_wp2
     go_roundw
     case rel => exact ⟨k + 1, by omega, by go_num, rfl, HT9.out, HB9.out⟩
     case measure => simp [intOf]; omega
    ·have HE := hide (HNO.out h0)
     have hqb : (q == 0) = false := by simpa using h0
     rw [hqb] at HSP
     go_wp2_with fail
     refine HSP.out.mono ?_
     rintro e v1 ⟨rfl, hb⟩
     have HB9 := hide (HBr.out.trans (hb.mono HBr.out.size))
     clear hb HSP a1 a2
     go_wp2
     go_ret
     exact ⟨ret_bool HE.out.symm, HB9.out⟩
   ·have e : k = n1 := by omega
    subst e
    have HE : Hid (ringSame R1 R2 = true) := ring_same_yes (by rw [← HN1.out, ← HN2.out]) (fun i hi => HT.out i (by rw [HN1.out]; exact hi))
    go_wp2
    go_ret
    exact ⟨ret_bool HE.out.symm, HBr.out⟩
 ·have HE : Hid (ringSame R1 R2 = false) := ring_same_len (by rw [← hn1, ← hn2]; exact hlen)
  have hne : ¬ ((n1 : Int) = (n2 : Int)) := by omega
  clear hn1 hn2 hlen h1 h2 x1 y1 x2 y2
  go_enter Tryz.func168, Tryz.ntmps168
  go_wp2
  go_ret
  exact ⟨ret_bool HE.out.symm, Below.refl _ _⟩

end Go.Proofs.YtajfkcpifnpkeaaGreat

/- The program's samePool and the model's l7same. -/
namespace Go.Proofs.YtajfkcpifnpkeaaGreat
open Go.ChangeShapes Go.WideShapes Go.ChangeAt Go.RowKit Go.Joins
set_option linter.unusedVariables false
set_option linter.unusedSimpArgs false


def samePB (m1 m2 : Pm) : Bool := decide (m1.key = m2.key) && decide (m1.l = m2.l) && ringSame m1.ring m2.ring
set_option maxRecDepth 100000 in
set_option maxHeartbeats 4000000 in
theorem implSamePool_any (v1 v2 : Value) (m1 m2 : Pm) (w : World) (h1 : RdPm w.heap.size w v1 m1) (h2 : RdPm w.heap.size w v2 m2) (hf1 : fitPm m1) (hf2 : fitPm m2) :
  Calls Tryz.prog 112 #[v1, v2] w fun e w' => e = .returned (.bool (samePB m1 m2)) ∧ Below w.heap.size w w' := by
 obtain ⟨vb1, vr1, rfl, hb1, r1⟩ := h1
 obtain ⟨vb2, vr2, rfl, hb2, r2⟩ := h2
 obtain ⟨o1, c1, rfl, k1⟩ := hb1.open
 obtain ⟨o2, c2, rfl, k2⟩ := hb2.open
 obtain ⟨oR1, cR1, rfl⟩ := RiR.len r1
 obtain ⟨oR2, cR2, rfl⟩ := RiR.len r2
 obtain ⟨f1, f2, f3, f4, f5⟩ := hf1
 obtain ⟨g1, g2, g3, g4, g5⟩ := hf2
 have HSB := hide (show samePB m1 m2 = (decide (m1.key = m2.key) && decide (m1.l = m2.l) && ringSame m1.ring m2.ring) from rfl)
 obtain ⟨p1, hp1⟩ : ∃ x, m1.key = x := ⟨_, rfl⟩
 obtain ⟨p2, hp2⟩ : ∃ x, m2.key = x := ⟨_, rfl⟩
 obtain ⟨b1, hb1'⟩ : ∃ x, m1.l.length = x := ⟨_, rfl⟩
 obtain ⟨b2, hb2'⟩ : ∃ x, m2.l.length = x := ⟨_, rfl⟩
 obtain ⟨q1, hq1⟩ : ∃ x, m1.ring.length = x := ⟨_, rfl⟩
 obtain ⟨q2, hq2⟩ : ∃ x, m2.ring.length = x := ⟨_, rfl⟩
 have HBK := hide (fun W (hb : Below w.heap.size w W) => backsEq_any o1 o2 b1 b2 c1 c2 m1.l m2.l W hb1'.symm hb2'.symm ((k1.kept hb (Nat.le_refl _)).le hb.size) ((k2.kept hb (Nat.le_refl _)).le hb.size) f1 g1)
 have HRG := hide (fun W (hb : Below w.heap.size w W) => eqFunc_any oR1 oR2 q1 q2 cR1 cR2 m1.ring m2.ring W hq1.symm hq2.symm (by rw [← hq1]; exact RiR.mon.go (RiR.stp.go r1 (Stp.of (lo := 0) (hi := 0) hb) (.inl (Nat.zero_le _))) (Nat.le_refl _) hb.size) (by rw [← hq2]; exact RiR.mon.go (RiR.stp.go r2 (Stp.of (lo := 0) (hi := 0) hb) (.inl (Nat.zero_le _))) (Nat.le_refl _) hb.size) (by rw [← hq1]; exact f2) f4 f5 g4 g5)
 rw [hp1, hp2, hb1', hb2', hq1, hq2]
 rw [hp1, hp2] at HSB
 clear r1 r2 k1 k2 hb1 hb2 f4 f5 g4 g5 hp1 hp2 hb1' hb2' hq1 hq2
 obtain ⟨W0, hW0⟩ : ∃ W, ((w.alloc (.cells #[.int .i64 p1, .slice o1 b1 c1, .slice oR1 q1 cR1] 41)).alloc (.cells #[.int .i64 p2, .slice o2 b2 c2, .slice oR2 q2 cR2] 41)) = W := ⟨_, rfl⟩
 have hb_W0 : Below w.heap.size w W0 := by rw [← hW0]; exact (((Below.refl _ _).alloc (Nat.le_refl _) _).alloc (by simp <;> omega) _)
 have HB := hide hb_W0
 clear hb_W0
 have zz : w.heap.size < W0.heap.size := by rw [← hW0]; simp <;> omega
 have z0 : W0.cell? ⟨w.heap.size, 0, none⟩ = some (.int .i64 p1) := by rw [← hW0]; simp [go_sem]
 have z1 : W0.cell? ⟨w.heap.size, 1, none⟩ = some (.slice o1 b1 c1) := by rw [← hW0]; simp [go_sem]
 have z2 : W0.cell? ⟨w.heap.size, 2, none⟩ = some (.slice oR1 q1 cR1) := by rw [← hW0]; simp [go_sem]
 have zu : w.heap.size + 1 < W0.heap.size := by rw [← hW0]; simp
 have u0 : W0.cell? ⟨w.heap.size + 1, 0, none⟩ = some (.int .i64 p2) := by rw [← hW0]; simp [go_sem]
 have u1 : W0.cell? ⟨w.heap.size + 1, 1, none⟩ = some (.slice o2 b2 c2) := by rw [← hW0]; simp [go_sem]
 have u2 : W0.cell? ⟨w.heap.size + 1, 2, none⟩ = some (.slice oR2 q2 cR2) := by rw [← hW0]; simp [go_sem]
 by_cases hk : p1 = p2
 ·subst hk
  rw [decide_eq_true rfl, Bool.true_and] at HSB
  obtain ⟨t1, ht1⟩ : ∃ t, decide (m1.l = m2.l) = t := ⟨_, rfl⟩
  rw [ht1] at HSB HBK
  clear ht1
  go_enter Tryz.func112, Tryz.ntmps112
  go_wp2_with fail
  refine (HBK.out W0 HB.out).mono ?_
  rintro e v1 ⟨rfl, hb⟩
  replace z0 := bC hb z0 zz
  replace z1 := bC hb z1 zz
  replace z2 := bC hb z2 zz
  replace zz := Nat.lt_of_lt_of_le zz hb.size
  replace u0 := bC hb u0 zu
  replace u1 := bC hb u1 zu
  replace u2 := bC hb u2 zu
  replace zu := Nat.lt_of_lt_of_le zu hb.size
  replace HB := hide (HB.out.trans (hb.mono HB.out.size))
  clear hb
  cases t1 with
  | false =>
   go_wp2
   go_ret
   exact ⟨ret_bool (by rw [HSB.out]; rfl), HB.out⟩
  | true =>
   go_wp2_with fail
   refine (HRG.out v1 HB.out).mono ?_
   rintro e v2 ⟨rfl, hb⟩
   replace z0 := bC hb z0 zz
   replace z1 := bC hb z1 zz
   replace z2 := bC hb z2 zz
   replace zz := Nat.lt_of_lt_of_le zz hb.size
   replace u0 := bC hb u0 zu
   replace u1 := bC hb u1 zu
   replace u2 := bC hb u2 zu
   replace zu := Nat.lt_of_lt_of_le zu hb.size
   replace HB := hide (HB.out.trans (hb.mono HB.out.size))
   clear hb
   go_wp2
   go_ret
   exact ⟨ret_bool (by rw [HSB.out]; rfl), HB.out⟩
 ·rw [decide_eq_false hk] at HSB
  go_enter Tryz.func112, Tryz.ntmps112
  go_wp2
  go_ret
  exact ⟨ret_bool (by rw [HSB.out]; rfl), HB.out⟩

set_option maxRecDepth 100000 in
set_option maxHeartbeats 8000000 in
theorem l7same_any (v1 v2 : Value) (m1 m2 : Pm) (w : World) (h1 : RdPm w.heap.size w v1 m1) (h2 : RdPm w.heap.size w v2 m2) (hf1 : fitPm m1) (hf2 : fitPm m2) :
  Calls Tryz.prog 49 #[v1, v2] w fun e w' => e = .returned (.bool (samePB m1 m2)) ∧ Below w.heap.size w w' := by
 obtain ⟨vb1, vr1, rfl, hb1, r1⟩ := h1
 obtain ⟨vb2, vr2, rfl, hb2, r2⟩ := h2
 obtain ⟨o1, c1, rfl, k1⟩ := hb1.open
 obtain ⟨o2, c2, rfl, k2⟩ := hb2.open
 obtain ⟨oR1, cR1, rfl⟩ := RiR.len r1
 obtain ⟨oR2, cR2, rfl⟩ := RiR.len r2
 obtain ⟨f1, f2, f3, f4, f5⟩ := hf1
 obtain ⟨g1, g2, g3, g4, g5⟩ := hf2
 have HSB := hide (show samePB m1 m2 = (decide (m1.key = m2.key) && decide (m1.l = m2.l) && ringSame m1.ring m2.ring) from rfl)
 obtain ⟨p1, hp1⟩ : ∃ x, m1.key = x := ⟨_, rfl⟩
 obtain ⟨p2, hp2⟩ : ∃ x, m2.key = x := ⟨_, rfl⟩
 obtain ⟨b1, hb1'⟩ : ∃ x, m1.l.length = x := ⟨_, rfl⟩
 obtain ⟨b2, hb2'⟩ : ∃ x, m2.l.length = x := ⟨_, rfl⟩
 obtain ⟨q1, hq1⟩ : ∃ x, m1.ring.length = x := ⟨_, rfl⟩
 obtain ⟨q2, hq2⟩ : ∃ x, m2.ring.length = x := ⟨_, rfl⟩
 have H1 := hide k1
 have H2 := hide k2
 have HR1 := hide r1
 have HR2 := hide r2
 have F4 := hide f4
 have F5 := hide f5
 have G4 := hide g4
 have G5 := hide g5
 rw [hq1] at HR1
 rw [hq2] at HR2
 have HN1 := hide hb1'
 have HN2 := hide hb2'
 have HQ1 := hide hq1
 have HQ2 := hide hq2
 rw [hb1'] at f1
 rw [hq1] at f2
 rw [hp1, hp2, hb1', hb2', hq1, hq2]
 rw [hp1, hp2] at HSB
 clear r1 r2 k1 k2 hb1 hb2 f4 f5 g4 g5 hp1 hp2 hb1' hb2' hq1 hq2 g1 g2 g3 f3
 obtain ⟨W0, hW0⟩ : ∃ W, ((w.alloc (.cells #[.int .i64 p1, .slice o1 b1 c1, .slice oR1 q1 cR1] 41)).alloc (.cells #[.int .i64 p2, .slice o2 b2 c2, .slice oR2 q2 cR2] 41)) = W := ⟨_, rfl⟩
 have hb_W0 : Below w.heap.size w W0 := by rw [← hW0]; exact (((Below.refl _ _).alloc (Nat.le_refl _) _).alloc (by simp <;> omega) _)
 have HB := hide hb_W0
 clear hb_W0
 have zz : w.heap.size < W0.heap.size := by rw [← hW0]; simp <;> omega
 have z0 : W0.cell? ⟨w.heap.size, 0, none⟩ = some (.int .i64 p1) := by rw [← hW0]; simp [go_sem]
 have z1 : W0.cell? ⟨w.heap.size, 1, none⟩ = some (.slice o1 b1 c1) := by rw [← hW0]; simp [go_sem]
 have z2 : W0.cell? ⟨w.heap.size, 2, none⟩ = some (.slice oR1 q1 cR1) := by rw [← hW0]; simp [go_sem]
 have zu : w.heap.size + 1 < W0.heap.size := by rw [← hW0]; simp
 have u0 : W0.cell? ⟨w.heap.size + 1, 0, none⟩ = some (.int .i64 p2) := by rw [← hW0]; simp [go_sem]
 have u1 : W0.cell? ⟨w.heap.size + 1, 1, none⟩ = some (.slice o2 b2 c2) := by rw [← hW0]; simp [go_sem]
 have u2 : W0.cell? ⟨w.heap.size + 1, 2, none⟩ = some (.slice oR2 q2 cR2) := by rw [← hW0]; simp [go_sem]
 by_cases hk : p1 = p2
 ·subst hk
  by_cases hb : b1 = b2
  ·subst hb
   by_cases hq : q1 = q2
   ·subst hq
    go_enter Tryz.func49, Tryz.ntmps49
    go_wp2
    go_loopw [4, 5] (fun rv iv wr => ∃ i : Nat, i ≤ b1 ∧ iv = .int .i64 (i : Int) ∧ rv = .bool false ∧ Hid (m1.l.take i = m2.l.take i) ∧ Hid (Below W0.heap.size W0 wr))
     (fun _ iv _ => b1 - (intOf iv).toNat)
    case atStart => exact ⟨0, Nat.zero_le _, rfl, rfl, rfl, Below.refl _ _⟩
    case round =>
     rename World => wr
     obtain ⟨i, hi', rfl, rfl, HT, HBr⟩ := hrel
     have z1' := bC HBr.out z1 zz
     have u1' := bC HBr.out u1 zu
     have zz' := Nat.lt_of_lt_of_le zz HBr.out.size
     have zu' := Nat.lt_of_lt_of_le zu HBr.out.size
     have HBw := hide (HB.out.trans (HBr.out.mono HB.out.size))
     by_cases hlt : i < b1
     ·have hlt' : (i : Int) < (b1 : Int) := by omega
      obtain ⟨g1, f1, rfl, hg1, a0, a1, a2⟩ := RdK.cells3 H1.out i (by rw [HN1.out]; exact hlt)
      obtain ⟨g2, f2, rfl, hg2, b0, b1, b2⟩ := RdK.cells3 H2.out i (by rw [HN2.out]; exact hlt)
      have G0 := Grown.cell z1' zz'
      have G1 := Grown.cell u1' zu'
      have Ga0 := Grown.cell (bC HBw.out a0 hg1) (Nat.lt_of_lt_of_le hg1 HBw.out.size)
      have Ga1 := Grown.cell (bC HBw.out a1 hg1) (Nat.lt_of_lt_of_le hg1 HBw.out.size)
      have Ga2 := Grown.cell (bC HBw.out a2 hg1) (Nat.lt_of_lt_of_le hg1 HBw.out.size)
      have Gb0 := Grown.cell (bC HBw.out b0 hg2) (Nat.lt_of_lt_of_le hg2 HBw.out.size)
      have Gb1 := Grown.cell (bC HBw.out b1 hg2) (Nat.lt_of_lt_of_le hg2 HBw.out.size)
      have Gb2 := Grown.cell (bC HBw.out b2 hg2) (Nat.lt_of_lt_of_le hg2 HBw.out.size)
      have T1 := hide (take_snocK m1.l i (by rw [HN1.out]; exact hlt))
      have T2 := hide (take_snocK m2.l i (by rw [HN2.out]; exact hlt))
      have N12 : Hid (m1.l = m2.l → m1.l.getD i (0, 0, false) = m2.l.getD i (0, 0, false)) := fun h => by rw [h]
      clear a0 a1 a2 b0 b1 b2
      generalize m1.l.getD i (0, 0, false) = d at *
      generalize m2.l.getD i (0, 0, false) = e at *
      by_cases hde : d = e
      ·subst hde
       obtain ⟨d0, d1, d2⟩ := d
       dsimp only at Ga0 Ga1 Ga2 Gb0 Gb1 Gb2
       clear N12
       go_wp2
       (refine wp_region_grown (by kernel_rfl) (by kernel_rfl) ?_; intro hne9; (repeat (go_big_quiet_step (fail))); (with_reducible refine wpQuiet_nil ?_); intro _ hw9; obtain ⟨pq, hw8⟩ := hw9; subst hw8)
       have HB9 := hide (HBr.out.trans (pq.b.mono HBr.out.size))
       go_wp2
       go_roundw
       case rel => exact ⟨i + 1, by omega, by go_num, rfl, (by unfold Hid; rw [T1.out, T2.out, HT.out]), HB9.out⟩
       case measure => simp [intOf]; omega
      ·have HX : Hid (samePB m1 m2 = false) := by
        unfold Hid
        rw [HSB.out, decide_eq_false (fun h => hde (N12.out h))]
        simp
       obtain ⟨d0, d1, d2⟩ := d
       obtain ⟨e0, e1, e2⟩ := e
       dsimp only at Ga0 Ga1 Ga2 Gb0 Gb1 Gb2
       have hne : ¬ (d0 = e0 ∧ d1 = e1 ∧ d2 = e2) := fun h => hde (by rw [h.1, h.2.1, h.2.2])
       clear hde N12 T1 T2 HSB
       by_cases q0 : d0 = e0
       ·subst q0
        by_cases q1 : d1 = e1
        ·subst q1
         have q2 : ¬ d2 = e2 := fun h => hne ⟨rfl, rfl, h⟩
         clear hne
         cases d2 <;> cases e2 <;> first | exact absurd rfl q2 | skip
         all_goals clear q2
         all_goals go_wp2
         all_goals (refine wp_region_grown (by kernel_rfl) (by kernel_rfl) ?_; intro hne9; (repeat (go_big_quiet_step (fail))); (with_reducible refine wpQuiet_nil ?_); intro _ hw9; obtain ⟨pq, hw8⟩ := hw9; subst hw8)
         all_goals have HB9 := hide (HBw.out.trans (pq.b.mono HBw.out.size))
         all_goals go_wp2
         all_goals go_ret
         all_goals exact ⟨ret_bool HX.out.symm, HB9.out⟩
        ·clear hne
         have q1' : (d1 == e1) = false := by simpa using q1
         go_wp2
         (refine wp_region_grown (by kernel_rfl) (by kernel_rfl) ?_; intro hne9; (repeat (go_big_quiet_step (fail))); (with_reducible refine wpQuiet_nil ?_); intro _ hw9; obtain ⟨pq, hw8⟩ := hw9; subst hw8)
         have HB9 := hide (HBw.out.trans (pq.b.mono HBw.out.size))
         go_wp2
         go_ret
         exact ⟨ret_bool HX.out.symm, HB9.out⟩
       ·clear hne
        have q0' : (d0 == e0) = false := by simpa using q0
        go_wp2
        (refine wp_region_grown (by kernel_rfl) (by kernel_rfl) ?_; intro hne9; (repeat (go_big_quiet_step (fail))); (with_reducible refine wpQuiet_nil ?_); intro _ hw9; obtain ⟨pq, hw8⟩ := hw9; subst hw8)
        have HB9 := hide (HBw.out.trans (pq.b.mono HBw.out.size))
        go_wp2
        go_ret
        exact ⟨ret_bool HX.out.symm, HB9.out⟩
     ·have e : i = b1 := by omega
      subst e
      have HLE : Hid (m1.l = m2.l) := by
       have h := HT.out
       rw [List.take_of_length_le (by rw [HN1.out]; exact Nat.le_refl _), List.take_of_length_le (by rw [HN2.out]; exact Nat.le_refl _)] at h
       exact h
      have HSR : Hid (samePB m1 m2 = ringSame m1.ring m2.ring) := by
       unfold Hid
       rw [HSB.out, decide_eq_true HLE.out]
       simp
      clear HSB
      go_wp2
      clear z1' u1' zz' zu'
      go_loopw [4, 6] (fun rv iv wq => ∃ k : Nat, k ≤ q1 ∧ iv = .int .i64 (k : Int) ∧ rv = .bool false ∧ Hid (∀ x, x < k → movedI (m1.ring.getD x []) (m2.ring.getD x []) = 0) ∧ Hid (Below W0.heap.size W0 wq))
       (fun _ iv _ => q1 - (intOf iv).toNat)
      case atStart => exact ⟨0, Nat.zero_le _, rfl, rfl, fun q h => absurd h (Nat.not_lt_zero _), HBr.out⟩
      case round =>
       rename World => wq
       obtain ⟨k, hk', rfl, rfl, HTK, HBq⟩ := hrel
       have z2' := bC HBq.out z2 zz
       have u2' := bC HBq.out u2 zu
       have zz' := Nat.lt_of_lt_of_le zz HBq.out.size
       have zu' := Nat.lt_of_lt_of_le zu HBq.out.size
       have HBv := hide (HB.out.trans (HBq.out.mono HB.out.size))
       by_cases hlt : k < q1
       ·have hlt' : (k : Int) < (q1 : Int) := by omega
        have hk1 : k < m1.ring.length := by rw [HQ1.out]; exact hlt
        have hk2 : k < m2.ring.length := by rw [HQ2.out]; exact hlt
        obtain ⟨e1, w1, x1, rfl, he1, a1, t1⟩ := RiRows.atS HR1.out (Nat.le_refl _) k hk1
        obtain ⟨e2, w2, x2, rfl, he2, a2, t2⟩ := RiRows.atS HR2.out (Nat.le_refl _) k hk2
        obtain ⟨o3, c3, rfl, rd1⟩ := RiT.rd t1
        obtain ⟨o4, c4, rfl, rd2⟩ := RiT.rd t2
        have HMv := hide (fun p : Grown wq => specMoved_any o3 o4 c3 c4 (m1.ring.getD k []) (m2.ring.getD k []) p.v ((rd1.kept (HBv.out.trans (p.b.mono HBv.out.size)) (Nat.le_refl _)).le (HBv.out.trans (p.b.mono HBv.out.size)).size) ((rd2.kept (HBv.out.trans (p.b.mono HBv.out.size)) (Nat.le_refl _)).le (HBv.out.trans (p.b.mono HBv.out.size)).size) (F4.out k hk1) (G4.out k hk2) (F5.out k hk1) (G5.out k hk2))
        have G0 := Grown.cell z2' zz'
        have G1 := Grown.cell u2' zu'
        have G2 := Grown.cell (bC HBv.out a1 he1) (Nat.lt_of_lt_of_le he1 HBv.out.size)
        have G3 := Grown.cell (bC HBv.out a2 he2) (Nat.lt_of_lt_of_le he2 HBv.out.size)
        have HNO := hide (fun h => ring_same_no (R1 := m1.ring) (R2 := m2.ring) hk1 h)
        clear t1 t2 rd1 rd2 a1 a2
        obtain ⟨r1, hr1⟩ : ∃ n, (m1.ring.getD k []).length = n := ⟨_, rfl⟩
        obtain ⟨r2, hr2⟩ : ∃ n, (m2.ring.getD k []).length = n := ⟨_, rfl⟩
        obtain ⟨mv, hmv⟩ : ∃ q, movedI (m1.ring.getD k []) (m2.ring.getD k []) = q := ⟨_, rfl⟩
        rw [hr1, hr2, hmv] at HMv
        rw [hr1] at G2
        rw [hr2] at G3
        rw [hmv] at HNO
        have HMQ := hide hmv
        clear hr1 hr2 hmv
        by_cases h0 : mv = 0
        ·subst h0
         go_wp2
         (refine wp_region_grown (by kernel_rfl) (by kernel_rfl) ?_; intro hne9; (repeat (go_big_quiet_step ((go_at_call 105; exact grown_of _ (HMv.out _))))); (with_reducible refine wpQuiet_nil ?_); intro _ hw9; obtain ⟨pq, hw8⟩ := hw9; subst hw8)
         have HB9 := hide (HBq.out.trans (pq.b.mono HBq.out.size))
         have HT9 : Hid (∀ x, x < k + 1 → movedI (m1.ring.getD x []) (m2.ring.getD x []) = 0) := fun x hx => by
          rcases Nat.lt_succ_iff_lt_or_eq.1 hx with h | h
          ·exact HTK.out x h
          ·rw [h]; exact HMQ.out
         go_wp2
         go_roundw
         case rel => exact ⟨k + 1, by omega, by go_num, rfl, HT9.out, HB9.out⟩
         case measure => simp [intOf]; omega
        ·have HE := hide (HSR.out.trans (HNO.out h0))
         have h0' : (mv == 0) = false := by simpa using h0
         go_wp2
         (refine wp_region_grown (by kernel_rfl) (by kernel_rfl) ?_; intro hne9; (repeat (go_big_quiet_step ((go_at_call 105; exact grown_of _ (HMv.out _))))); (with_reducible refine wpQuiet_nil ?_); intro _ hw9; obtain ⟨pq, hw8⟩ := hw9; subst hw8)
         have HB9 := hide (HBv.out.trans (pq.b.mono HBv.out.size))
         go_wp2
         go_ret
         exact ⟨ret_bool HE.out.symm, HB9.out⟩
       ·have e : k = q1 := by omega
        subst e
        have HE : Hid (samePB m1 m2 = true) := HSR.out.trans (ring_same_yes (by rw [HQ1.out, HQ2.out]) (fun i hi => HTK.out i (by rw [← HQ1.out]; exact hi)))
        go_wp2
        go_ret
        exact ⟨ret_bool HE.out.symm, HBv.out⟩
   ·have hq' : ¬ ((q1 : Int) = (q2 : Int)) := by omega
    have HE : Hid (samePB m1 m2 = false) := by
     unfold Hid
     rw [HSB.out]
     rw [ring_same_len (by rw [HQ1.out, HQ2.out]; exact hq)]; simp
    clear HSB
    go_enter Tryz.func49, Tryz.ntmps49
    go_wp2
    go_ret
    exact ⟨ret_bool HE.out.symm, HB.out⟩
  ·have hb' : ¬ ((b1 : Int) = (b2 : Int)) := by omega
   have HE : Hid (samePB m1 m2 = false) := by
    unfold Hid
    rw [HSB.out]
    rw [decide_eq_false (show ¬ m1.l = m2.l from fun h => hb (by rw [← HN1.out, ← HN2.out, h]))]; simp
   clear HSB
   go_enter Tryz.func49, Tryz.ntmps49
   go_wp2
   go_ret
   exact ⟨ret_bool HE.out.symm, HB.out⟩
 ·skip
  have HE : Hid (samePB m1 m2 = false) := by
   unfold Hid
   rw [HSB.out]
   rw [decide_eq_false hk]; rfl
  clear HSB
  go_enter Tryz.func49, Tryz.ntmps49
  go_wp2
  go_ret
  exact ⟨ret_bool HE.out.symm, HB.out⟩

end Go.Proofs.YtajfkcpifnpkeaaGreat

/- Balancers, as a shape: a journal, a pool and hints; the laws' own helpers over them. -/
namespace Go.Proofs.YtajfkcpifnpkeaaGreat
open Go.ChangeShapes Go.WideShapes Go.ChangeAt Go.RowKit Go.Joins
set_option linter.unusedVariables false
set_option linter.unusedSimpArgs false

/-- A balancer, as the model has it. -/
structure Bm where
 j : Jm
 p : Pm
 t : List Sl
abbrev balv (kj : Int) (vl : Value) (sf kp : Int) (vb vr vt : Value) : Value := .agg #[.int .i64 kj, vl, .int .i64 sf, .int .i64 kp, vb, vr, vt]
def RdBm (C : Nat) (w : World) (v : Value) (m : Bm) : Prop := ∃ vl vb vr vt, v = balv m.j.key vl m.j.safe m.p.key vb vr vt ∧ RdJm C w (jrn m.j.key vl m.j.safe) m.j ∧ RdPm C w (plv m.p.key vb vr) m.p ∧ RdT C w (tab vt) m.t
/-- A balancer in memory of its own: journal, pool and hints lie apart, in any order. -/
def InBm (lo hi : Nat) (w : World) (v : Value) (m : Bm) : Prop := ∃ vl vb vr vt j0 j1 p0 p1 t0 t1, v = balv m.j.key vl m.j.safe m.p.key vb vr vt ∧ (lo ≤ j0 ∧ j1 ≤ hi ∧ lo ≤ p0 ∧ p1 ≤ hi ∧ lo ≤ t0 ∧ t1 ≤ hi ∧ (j1 ≤ p0 ∨ p1 ≤ j0) ∧ (j1 ≤ t0 ∨ t1 ≤ j0) ∧ (p1 ≤ t0 ∨ t1 ≤ p0)) ∧ InJm j0 j1 w (jrn m.j.key vl m.j.safe) m.j ∧ InPm p0 p1 w (plv m.p.key vb vr) m.p ∧ InTb t0 t1 w (tab vt) m.t
theorem RdBm.kept {C D : Nat} {w w' : World} {v : Value} {m : Bm} (h : RdBm C w v m) (hb : Below D w w') (hc : C ≤ D) : RdBm C w' v m := by
 obtain ⟨vl, vb, vr, vt, e, h1, h2, h3⟩ := h
 exact ⟨vl, vb, vr, vt, e, h1.kept hb hc, h2.kept hb hc, h3.kept hb hc⟩
theorem RdBm.le {C D : Nat} {w : World} {v : Value} {m : Bm} (h : RdBm C w v m) (hc : C ≤ D) : RdBm D w v m := by
 obtain ⟨vl, vb, vr, vt, e, h1, h2, h3⟩ := h
 exact ⟨vl, vb, vr, vt, e, h1.le hc, h2.le hc, h3.le hc⟩
theorem InBm.rd {lo hi : Nat} {w : World} {v : Value} {m : Bm} (h : InBm lo hi w v m) : RdBm hi w v m := by
 obtain ⟨vl, vb, vr, vt, j0, j1, p0, p1, t0, t1, e, k, h1, h2, h3⟩ := h
 exact ⟨vl, vb, vr, vt, e, h1.rd.le (by omega), h2.rd.le (by omega), h3.rd.le (by omega)⟩
theorem InBm.step {x y lo hi : Nat} {w w' : World} {v : Value} {m : Bm} (h : InBm x y w v m) (s : Stp lo hi w w') (hd : hi ≤ x ∨ y ≤ lo) : InBm x y w' v m := by
 obtain ⟨vl, vb, vr, vt, j0, j1, p0, p1, t0, t1, e, k, h1, h2, h3⟩ := h
 exact ⟨vl, vb, vr, vt, j0, j1, p0, p1, t0, t1, e, k, h1.step s (by omega), h2.step s (by omega), h3.step s (by omega)⟩
theorem RdBm.opn {C : Nat} {w : World} {v : Value} {m : Bm} (h : RdBm C w v m) : ∃ (o : Option Addr) (c : Nat) (ob : Option Addr) (cb : Nat) (oR : Option Addr) (cR : Nat) (ot : Option Addr) (ct : Nat), v = balv m.j.key (.slice o m.j.l.length c) m.j.safe m.p.key (.slice ob m.p.l.length cb) (.slice oR m.p.ring.length cR) (.slice ot m.t.length ct) := by
 obtain ⟨vl, vb, vr, vt, e, ⟨vl', e1, o, c, e1', _⟩, h2, ⟨vt', e3, ot, ct, e3', _⟩⟩ := h
 obtain ⟨ob, cb, oR, cR, e2⟩ := h2.opn
 simp only [Value.agg.injEq, Array.mk.injEq, List.cons.injEq, and_true, true_and] at e1 e2 e3
 obtain ⟨e21, e22⟩ := e2
 subst e1 e1' e3 e3' e21 e22
 exact ⟨o, c, ob, cb, oR, cR, ot, ct, e⟩
def fitBm (m : Bm) : Prop := m.j.l.length ≤ 100000 ∧ fitPm m.p ∧ m.t.length ≤ 1048576
def fitB0 (m : Bm) : Prop := m.j.l.length ≤ 1048576 ∧ fitPm m.p ∧ m.t.length ≤ 1048576
theorem fitBm.b0 {m : Bm} (h : fitBm m) : fitB0 m := ⟨by have := h.1; omega, h.2.1, h.2.2⟩
def nBm (m : Bm) : Int := 3 * (m.j.l.length : Int) + nPm m.p + 5 * (m.t.length : Int)
theorem nBm_bd0 {m : Bm} (h : fitB0 m) : 0 ≤ nBm m ∧ nBm m ≤ 9999999 + 5242880 := by
 have h2 := nPm_bd h.2.1
 have h1 := h.1
 have h3 := h.2.2
 unfold nBm; omega
def mkBm (k : Int) (m : Bm) : Bm := ⟨mkJm k m.j, mkPm (k + 3 * (m.j.l.length : Int)) m.p, mkTb (k + 3 * (m.j.l.length : Int) + nPm m.p) m.t⟩

set_option maxRecDepth 100000 in
set_option maxHeartbeats 2000000 in
theorem eqBal_sh (v1 v2 : Value) (m : Bm) (w : World) (h1 : RdBm w.heap.size w v1 m) (h2 : RdBm w.heap.size w v2 m) (hf : fitB0 m) :
  Calls Tryz.prog 15 #[v1, v2] w fun e w' => e = .returned (.bool true) ∧ Below w.heap.size w w' := by
 obtain ⟨o1, c1, ob1, cb1, oR1, cR1, ot1, ct1, rfl⟩ := h1.opn
 obtain ⟨o2, c2, ob2, cb2, oR2, cR2, ot2, ct2, rfl⟩ := h2.opn
 obtain ⟨vl, vb, vr, vt, e, a1, a2, a3⟩ := h1
 simp only [Value.agg.injEq, Array.mk.injEq, List.cons.injEq, and_true, true_and] at e
 obtain ⟨e1, e2, e3, e4⟩ := e
 subst e1 e2 e3 e4
 obtain ⟨vl, vb, vr, vt, e, b1, b2, b3⟩ := h2
 simp only [Value.agg.injEq, Array.mk.injEq, List.cons.injEq, and_true, true_and] at e
 obtain ⟨e1, e2, e3, e4⟩ := e
 subst e1 e2 e3 e4
 have hfj : m.j.l.length ≤ 1048576 := by have := hf.1; omega
 have HJ := hide (fun W (hb : Below w.heap.size w W) => eqJournal_sh _ _ m.j W ((a1.kept hb (Nat.le_refl _)).le hb.size) ((b1.kept hb (Nat.le_refl _)).le hb.size) hfj)
 have HP := hide (fun W (hb : Below w.heap.size w W) => eqPool_sh _ _ m.p W ((a2.kept hb (Nat.le_refl _)).le hb.size) ((b2.kept hb (Nat.le_refl _)).le hb.size) hf.2.1)
 have HT := hide (fun W (hb : Below w.heap.size w W) => eqTable_sh _ _ m.t W ((a3.kept hb (Nat.le_refl _)).le hb.size) ((b3.kept hb (Nat.le_refl _)).le hb.size) hf.2.2)
 clear a1 a2 a3 b1 b2 b3 hfj
 obtain ⟨W0, hW0⟩ : ∃ W, ((w.alloc (.cells #[.int .i64 m.j.key, .slice o1 m.j.l.length c1, .int .i64 m.j.safe, .int .i64 m.p.key, .slice ob1 m.p.l.length cb1, .slice oR1 m.p.ring.length cR1, .slice ot1 m.t.length ct1] 46)).alloc (.cells #[.int .i64 m.j.key, .slice o2 m.j.l.length c2, .int .i64 m.j.safe, .int .i64 m.p.key, .slice ob2 m.p.l.length cb2, .slice oR2 m.p.ring.length cR2, .slice ot2 m.t.length ct2] 46)) = W := ⟨_, rfl⟩
 have hb_W0 : Below w.heap.size w W0 := by rw [← hW0]; exact (((Below.refl _ _).alloc (Nat.le_refl _) _).alloc (by simp <;> omega) _)
 have HB := hide hb_W0
 clear hb_W0
 have zz : w.heap.size < W0.heap.size := by rw [← hW0]; simp <;> omega
 have z0 : W0.cell? ⟨w.heap.size, 0, none⟩ = some (.int .i64 m.j.key) := by rw [← hW0]; simp [go_sem]
 have z1 : W0.cell? ⟨w.heap.size, 1, none⟩ = some (.slice o1 m.j.l.length c1) := by rw [← hW0]; simp [go_sem]
 have z2 : W0.cell? ⟨w.heap.size, 2, none⟩ = some (.int .i64 m.j.safe) := by rw [← hW0]; simp [go_sem]
 have z3 : W0.cell? ⟨w.heap.size, 3, none⟩ = some (.int .i64 m.p.key) := by rw [← hW0]; simp [go_sem]
 have z4 : W0.cell? ⟨w.heap.size, 4, none⟩ = some (.slice ob1 m.p.l.length cb1) := by rw [← hW0]; simp [go_sem]
 have z5 : W0.cell? ⟨w.heap.size, 5, none⟩ = some (.slice oR1 m.p.ring.length cR1) := by rw [← hW0]; simp [go_sem]
 have z6 : W0.cell? ⟨w.heap.size, 6, none⟩ = some (.slice ot1 m.t.length ct1) := by rw [← hW0]; simp [go_sem]
 have zu : w.heap.size + 1 < W0.heap.size := by rw [← hW0]; simp
 have u0 : W0.cell? ⟨w.heap.size + 1, 0, none⟩ = some (.int .i64 m.j.key) := by rw [← hW0]; simp [go_sem]
 have u1 : W0.cell? ⟨w.heap.size + 1, 1, none⟩ = some (.slice o2 m.j.l.length c2) := by rw [← hW0]; simp [go_sem]
 have u2 : W0.cell? ⟨w.heap.size + 1, 2, none⟩ = some (.int .i64 m.j.safe) := by rw [← hW0]; simp [go_sem]
 have u3 : W0.cell? ⟨w.heap.size + 1, 3, none⟩ = some (.int .i64 m.p.key) := by rw [← hW0]; simp [go_sem]
 have u4 : W0.cell? ⟨w.heap.size + 1, 4, none⟩ = some (.slice ob2 m.p.l.length cb2) := by rw [← hW0]; simp [go_sem]
 have u5 : W0.cell? ⟨w.heap.size + 1, 5, none⟩ = some (.slice oR2 m.p.ring.length cR2) := by rw [← hW0]; simp [go_sem]
 have u6 : W0.cell? ⟨w.heap.size + 1, 6, none⟩ = some (.slice ot2 m.t.length ct2) := by rw [← hW0]; simp [go_sem]
 go_enter Tryz.func15, Tryz.ntmps15
 go_wp2_with fail
 refine (HJ.out W0 HB.out).mono ?_
 rintro e v1 ⟨rfl, hb⟩
 replace z0 := bC hb z0 zz
 replace z1 := bC hb z1 zz
 replace z2 := bC hb z2 zz
 replace z3 := bC hb z3 zz
 replace z4 := bC hb z4 zz
 replace z5 := bC hb z5 zz
 replace z6 := bC hb z6 zz
 replace zz := Nat.lt_of_lt_of_le zz hb.size
 replace u0 := bC hb u0 zu
 replace u1 := bC hb u1 zu
 replace u2 := bC hb u2 zu
 replace u3 := bC hb u3 zu
 replace u4 := bC hb u4 zu
 replace u5 := bC hb u5 zu
 replace u6 := bC hb u6 zu
 replace zu := Nat.lt_of_lt_of_le zu hb.size
 replace HB := hide (HB.out.trans (hb.mono HB.out.size))
 clear hb
 go_wp2_with fail
 refine (HP.out v1 HB.out).mono ?_
 rintro e v2 ⟨rfl, hb⟩
 replace z0 := bC hb z0 zz
 replace z1 := bC hb z1 zz
 replace z2 := bC hb z2 zz
 replace z3 := bC hb z3 zz
 replace z4 := bC hb z4 zz
 replace z5 := bC hb z5 zz
 replace z6 := bC hb z6 zz
 replace zz := Nat.lt_of_lt_of_le zz hb.size
 replace u0 := bC hb u0 zu
 replace u1 := bC hb u1 zu
 replace u2 := bC hb u2 zu
 replace u3 := bC hb u3 zu
 replace u4 := bC hb u4 zu
 replace u5 := bC hb u5 zu
 replace u6 := bC hb u6 zu
 replace zu := Nat.lt_of_lt_of_le zu hb.size
 replace HB := hide (HB.out.trans (hb.mono HB.out.size))
 clear hb
 go_wp2_with fail
 refine (HT.out v2 HB.out).mono ?_
 rintro e v3 ⟨rfl, hb⟩
 replace z0 := bC hb z0 zz
 replace z1 := bC hb z1 zz
 replace z2 := bC hb z2 zz
 replace z3 := bC hb z3 zz
 replace z4 := bC hb z4 zz
 replace z5 := bC hb z5 zz
 replace z6 := bC hb z6 zz
 replace zz := Nat.lt_of_lt_of_le zz hb.size
 replace u0 := bC hb u0 zu
 replace u1 := bC hb u1 zu
 replace u2 := bC hb u2 zu
 replace u3 := bC hb u3 zu
 replace u4 := bC hb u4 zu
 replace u5 := bC hb u5 zu
 replace u6 := bC hb u6 zu
 replace zu := Nat.lt_of_lt_of_le zu hb.size
 replace HB := hide (HB.out.trans (hb.mono HB.out.size))
 clear hb
 go_wp2
 go_ret
 exact ⟨rfl, HB.out⟩

set_option maxRecDepth 100000 in
set_option maxHeartbeats 4000000 in
theorem markBal_sh0 (lo hi : Nat) (v : Value) (m : Bm) (k : Int) (w : World) (hv : InBm lo hi w v m) (h0 : 0 ≤ k) (h1 : k ≤ 100000) (hh : hi ≤ w.heap.size) (hf : fitB0 m) :
  Calls Tryz.prog 19 #[v, .int .i64 k] w fun e w' => e = .returned (.int .i64 (k + nBm m)) ∧ InBm lo hi w' v (mkBm k m) ∧ Stp lo hi w w' := by
 obtain ⟨o, c, ob, cb, oR, cR, ot, ct, rfl⟩ := hv.rd.opn
 obtain ⟨vl, vb, vr, vt, jl, jh, pl, ph, tl, th, e, ⟨k1, k2, k3, k4, k5, k6, k7, k8, k9⟩, i1, i2, i3⟩ := hv
 simp only [Value.agg.injEq, Array.mk.injEq, List.cons.injEq, and_true, true_and] at e
 obtain ⟨e1, e2, e3, e4⟩ := e
 subst e1 e2 e3 e4
 obtain ⟨f1, f2, f3⟩ := hf
 have hnp := nPm_bd f2
 obtain ⟨W0, hW0⟩ : ∃ W, w.alloc (.cells #[.int .i64 m.j.key, .slice o m.j.l.length c, .int .i64 m.j.safe, .int .i64 m.p.key, .slice ob m.p.l.length cb, .slice oR m.p.ring.length cR, .slice ot m.t.length ct] 46) = W := ⟨_, rfl⟩
 have hb0 : Below w.heap.size w W0 := by rw [← hW0]; exact (Below.refl _ _).alloc (Nat.le_refl _) _
 have HX0 : Hid (W0.heap[w.heap.size]? = some (.cells #[.int .i64 m.j.key, .slice o m.j.l.length c, .int .i64 m.j.safe, .int .i64 m.p.key, .slice ob m.p.l.length cb, .slice oR m.p.ring.length cR, .slice ot m.t.length ct] 46 (0, 0))) := by rw [← hW0]; exact World.alloc_heap_new w _
 have HS0 : Hid (Stp lo hi w W0) := Stp.of hb0
 have I1 := hide (i1.step (Stp.of (lo := 0) (hi := 0) hb0) (.inl (Nat.zero_le _)))
 have I2 := hide (i2.step (Stp.of (lo := 0) (hi := 0) hb0) (.inl (Nat.zero_le _)))
 have I3 := hide (i3.step (Stp.of (lo := 0) (hi := 0) hb0) (.inl (Nat.zero_le _)))
 have z0 : W0.cell? ⟨w.heap.size, 0, none⟩ = some (.int .i64 m.j.key) := bx_cell HX0.out 0 _ rfl
 have z1 : W0.cell? ⟨w.heap.size, 1, none⟩ = some (.slice o m.j.l.length c) := bx_cell HX0.out 1 _ rfl
 have z2 : W0.cell? ⟨w.heap.size, 2, none⟩ = some (.int .i64 m.j.safe) := bx_cell HX0.out 2 _ rfl
 have z3 : W0.cell? ⟨w.heap.size, 3, none⟩ = some (.int .i64 m.p.key) := bx_cell HX0.out 3 _ rfl
 have z4 : W0.cell? ⟨w.heap.size, 4, none⟩ = some (.slice ob m.p.l.length cb) := bx_cell HX0.out 4 _ rfl
 have z5 : W0.cell? ⟨w.heap.size, 5, none⟩ = some (.slice oR m.p.ring.length cR) := bx_cell HX0.out 5 _ rfl
 have z6 : W0.cell? ⟨w.heap.size, 6, none⟩ = some (.slice ot m.t.length ct) := bx_cell HX0.out 6 _ rfl
 clear i1 i2 i3 hb0
 go_enter Tryz.func19, Tryz.ntmps19
 go_wp2_with fail
 refine (markJournal_sh jl jh _ m.j k W0 I1.out h0 (by omega) (by omega)).mono ?_
 rintro e v1 ⟨rfl, j1, s1⟩
 clear z0 z1 z2 z3 z4 z5 z6
 have HJ := hide j1
 have HS1 := hide s1
 have HX1 := hide (s1.box HX0.out (.inr (show jh ≤ w.heap.size by omega)))
 replace I2 := hide (I2.out.step s1 (by omega))
 replace I3 := hide (I3.out.step s1 (by omega))
 have z0 : v1.cell? ⟨w.heap.size, 0, none⟩ = some (.int .i64 m.j.key) := bx_cell HX1.out 0 _ rfl
 have z1 : v1.cell? ⟨w.heap.size, 1, none⟩ = some (.slice o m.j.l.length c) := bx_cell HX1.out 1 _ rfl
 have z2 : v1.cell? ⟨w.heap.size, 2, none⟩ = some (.int .i64 m.j.safe) := bx_cell HX1.out 2 _ rfl
 have z3 : v1.cell? ⟨w.heap.size, 3, none⟩ = some (.int .i64 m.p.key) := bx_cell HX1.out 3 _ rfl
 have z4 : v1.cell? ⟨w.heap.size, 4, none⟩ = some (.slice ob m.p.l.length cb) := bx_cell HX1.out 4 _ rfl
 have z5 : v1.cell? ⟨w.heap.size, 5, none⟩ = some (.slice oR m.p.ring.length cR) := bx_cell HX1.out 5 _ rfl
 have z6 : v1.cell? ⟨w.heap.size, 6, none⟩ = some (.slice ot m.t.length ct) := bx_cell HX1.out 6 _ rfl
 clear j1 s1
 go_wp2_with fail
 refine (markPool_sh pl ph _ m.p (k + 3 * (m.j.l.length : Int)) v1 I2.out (by omega) (by omega) f2).mono ?_
 rintro e v2 ⟨rfl, p2, s2⟩
 clear z0 z1 z2 z3 z4 z5 z6
 have HP := hide p2
 have HS2 := hide s2
 have HX2 := hide (s2.box HX1.out (.inr (show ph ≤ w.heap.size by omega)))
 replace HJ := hide (HJ.out.step s2 (by omega))
 replace I3 := hide (I3.out.step s2 (by omega))
 have z0 : v2.cell? ⟨w.heap.size, 0, none⟩ = some (.int .i64 m.j.key) := bx_cell HX2.out 0 _ rfl
 have z1 : v2.cell? ⟨w.heap.size, 1, none⟩ = some (.slice o m.j.l.length c) := bx_cell HX2.out 1 _ rfl
 have z2 : v2.cell? ⟨w.heap.size, 2, none⟩ = some (.int .i64 m.j.safe) := bx_cell HX2.out 2 _ rfl
 have z3 : v2.cell? ⟨w.heap.size, 3, none⟩ = some (.int .i64 m.p.key) := bx_cell HX2.out 3 _ rfl
 have z4 : v2.cell? ⟨w.heap.size, 4, none⟩ = some (.slice ob m.p.l.length cb) := bx_cell HX2.out 4 _ rfl
 have z5 : v2.cell? ⟨w.heap.size, 5, none⟩ = some (.slice oR m.p.ring.length cR) := bx_cell HX2.out 5 _ rfl
 have z6 : v2.cell? ⟨w.heap.size, 6, none⟩ = some (.slice ot m.t.length ct) := bx_cell HX2.out 6 _ rfl
 clear p2 s2
 go_wp2_with fail
 refine (markTable_sh tl th _ m.t (k + 3 * (m.j.l.length : Int) + nPm m.p) v2 I3.out (by omega) (by omega) f3).mono ?_
 rintro e v3 ⟨rfl, t3, s3⟩
 clear z0 z1 z2 z3 z4 z5 z6
 have HFI : Hid (InBm lo hi v3 (balv m.j.key (.slice o m.j.l.length c) m.j.safe m.p.key (.slice ob m.p.l.length cb) (.slice oR m.p.ring.length cR) (.slice ot m.t.length ct)) (mkBm k m) ∧ Stp lo hi w v3) :=
  ⟨⟨_, _, _, _, jl, jh, pl, ph, tl, th, rfl, ⟨k1, k2, k3, k4, k5, k6, k7, k8, k9⟩, HJ.out.step s3 (by omega), HP.out.step s3 (by omega), t3⟩, HS0.out.trans (((HS1.out.wide2 k1 k2).trans (HS2.out.wide2 k3 k4)).trans (s3.wide2 k5 k6))⟩
 have HN := hide (show k + 3 * (m.j.l.length : Int) + nPm m.p + 5 * (m.t.length : Int) = k + nBm m by unfold nBm; omega)
 clear t3 s3
 go_wp2
 go_ret
 exact ⟨by rw [HN.out]; rfl, HFI.out.1, HFI.out.2⟩

end Go.Proofs.YtajfkcpifnpkeaaGreat

/- The box of a balancer. -/
namespace Go.Proofs.YtajfkcpifnpkeaaGreat
open Go.ChangeShapes Go.WideShapes Go.ChangeAt Go.RowKit Go.Joins
set_option linter.unusedVariables false
set_option linter.unusedSimpArgs false


/-- The seven cells of a balancer's box are set. -/
abbrev setB (W : World) (R : Nat) (x0 x1 x2 x3 x4 x5 x6 : Value) : World := ((((((W.setCell ⟨R, 0, none⟩ x0).setCell ⟨R, 1, none⟩ x1).setCell ⟨R, 2, none⟩ x2).setCell ⟨R, 3, none⟩ x3).setCell ⟨R, 4, none⟩ x4).setCell ⟨R, 5, none⟩ x5).setCell ⟨R, 6, none⟩ x6
theorem stp_setB (W : World) (R : Nat) (x0 x1 x2 x3 x4 x5 x6 : Value) : Stp R (R + 1) W (setB W R x0 x1 x2 x3 x4 x5 x6) := ((((((stp_set W R 0 x0).trans (stp_set _ R 1 x1)).trans (stp_set _ R 2 x2)).trans (stp_set _ R 3 x3)).trans (stp_set _ R 4 x4)).trans (stp_set _ R 5 x5)).trans (stp_set _ R 6 x6)
theorem setB_size (W : World) (R : Nat) (x0 x1 x2 x3 x4 x5 x6 : Value) : (setB W R x0 x1 x2 x3 x4 x5 x6).heap.size = W.heap.size := by simp [World.setCell]
theorem setB_below {C : Nat} {w W : World} {R : Nat} (h : Below C w W) (hB : C ≤ R) (x0 x1 x2 x3 x4 x5 x6 : Value) : Below C w (setB W R x0 x1 x2 x3 x4 x5 x6) := ((((((h.setCell (p := ⟨R, 0, none⟩) hB _).setCell (p := ⟨R, 1, none⟩) hB _).setCell (p := ⟨R, 2, none⟩) hB _).setCell (p := ⟨R, 3, none⟩) hB _).setCell (p := ⟨R, 4, none⟩) hB _).setCell (p := ⟨R, 5, none⟩) hB _).setCell (p := ⟨R, 6, none⟩) hB _
theorem inPm_wide {a b a' b' : Nat} {w : World} {v : Value} {m : Pm} (h : InPm a b w v m) (h1 : a' ≤ a) (h2 : b ≤ b') : InPm a' b' w v m := by
 obtain ⟨vb, vr, mid, e, k1, k2, i1, i2⟩ := h
 exact ⟨vb, vr, mid, e, by omega, by omega, InRow.mono i1 h1 (Nat.le_refl _), InRows.mono.go i2 (Nat.le_refl _) h2⟩
end Go.Proofs.YtajfkcpifnpkeaaGreat

