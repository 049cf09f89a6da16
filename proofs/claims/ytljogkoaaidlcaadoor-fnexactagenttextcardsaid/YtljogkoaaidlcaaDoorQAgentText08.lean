/- Several texts in one: SWay, SWay2. -/
import Derived.RegionTactic
import Derived.RangeFuncNested
import Derived.RangeFuncBound
import Derived.RangeFuncCalls
import Derived.RangeFuncLeaves
import Derived.RangeFuncBox
import Derived.Shelf.Abstract
import Derived.Shelf.RegionOpen
import Derived.WalkKit
import Derived.OwnWalkIn
import Derived.TacticsInMore
import Derived.LoopNIn
import Derived.LoopIn
import Derived.Test.YtljogkoaaidlcaaDoorQAgentText06
import Derived.Test.YtljogkoaaidlcaaDoorQAgentText01
/- The program's ways: home, behind, far; what is scanned on a way. -/
namespace Go.Proofs.YtljogkoaaidlcaaDoor
open Go.ChangeShapes Go.WideShapes Go.ChangeAt Go.RowKit Go.Joins Go.Shelf
set_option linter.unusedVariables false
set_option linter.unusedSimpArgs false

attribute [local go_sem] Oper.semAt_some

abbrev flowV (a p : Int) : Value := .agg #[.int .i64 a, .int .i64 p]
set_option maxHeartbeats 400000 in
theorem home_any (o : Option Addr) (n c : Nat) (a p : Int) (w : World) (hn : 0 < n) (hl : n ≤ 1048576) (hf : flowOkB a p = true) :
  Calls Tryd.prog 86 #[tab (.slice o n c), flowV a p] w fun e w' => e = .returned (.int .i64 (homeN n a p)) ∧ Below w.heap.size w w' := by
 have hB : Below w.heap.size w w := Below.refl _ _
 have hh := homeN_tmod' hn hf
 have hlt := homeN_lt hn a p
 have h0 := flowOkB_iff.1 hf
 have hne : ¬ ((n : Int) = 0) := by omega
 have hne' : ((n : Int) == 0) = false := by simpa using hne
 obtain ⟨h1, h2, h3, h4⟩ := h0
 go_enter Tryd.func86, Tryd.ntmps86
 go_wp2
 go_ret
 exact ⟨rfl, by (repeat (first | with_reducible exact hB | with_reducible exact Below.refl _ _ | with_reducible refine Below.drew ?_ | with_reducible refine below_drewN ?_ _ | with_reducible refine Below.alloc ?_ ?_ _ | with_reducible refine Below.setCell ?_ ?_ _ | (focus (simp; done)) | (focus (simp; omega)) | omega))⟩

set_option maxHeartbeats 400000 in
theorem behind_any (o : Option Addr) (n c i : Nat) (w : World) (hn : 0 < n) (hl : n ≤ 1048576) (hi : i < n) :
  Calls Tryd.prog 87 #[tab (.slice o n c), .int .i64 i] w fun e w' => e = .returned (.int .i64 ((i + 1) % n : Nat)) ∧ Below w.heap.size w w' := by
 have hB : Below w.heap.size w w := Below.refl _ _
 have hh := next_tmod n i
 have hlt := next_lt hn i
 have hne' : ((n : Int) == 0) = false := beq_eq_false_iff_ne.2 (by omega)
 go_enter Tryd.func87, Tryd.ntmps87
 go_wp2
 go_ret
 exact ⟨rfl, by (repeat (first | with_reducible exact hB | with_reducible exact Below.refl _ _ | with_reducible refine Below.drew ?_ | with_reducible refine below_drewN ?_ _ | with_reducible refine Below.alloc ?_ ?_ _ | with_reducible refine Below.setCell ?_ ?_ _ | (focus (simp; done)) | (focus (simp; omega)) | omega))⟩

/-- What is met on a way from h on. -/
abbrev Met := Nat × Sl
def metAt (l : List Sl) (h j : Nat) : Met := ((h + j) % l.length, l.getD ((h + j) % l.length) sl0)
def uptoM (f : Nat → Met) (k : Nat) : List Met := (List.range k).map f
theorem uptoM_succ (f : Nat → Met) (k : Nat) : uptoM f (k + 1) = uptoM f k ++ [f k] := by simp [uptoM, List.range_succ]
theorem uptoM_length (f : Nat → Met) (k : Nat) : (uptoM f k).length = k := by simp [uptoM]
theorem uptoM_cons (f : Nat → Met) (k : Nat) : uptoM f (k + 1) = f 0 :: uptoM (fun j => f (j + 1)) k := by
 simp [uptoM, List.range_succ_eq_map, Function.comp_def]
theorem uptoM_le (f : Nat → Met) {k m : Nat} (h : k ≤ m) : ∃ r, uptoM f m = uptoM f k ++ r := by
 obtain ⟨d, rfl⟩ := Nat.exists_eq_add_of_le h
 induction d with
 | zero => exact ⟨[], by simp⟩
 | succ d ih => obtain ⟨r, hr⟩ := ih (by omega); exact ⟨r ++ [f (k + d)], by rw [← Nat.add_assoc, uptoM_succ, hr, List.append_assoc]⟩
def scanX (a p : Int) (x : Met) : Option (Int × Bool) := if x.2.u = true then (if x.2.a = a ∧ x.2.p = p then some ((x.1 : Int), true) else none) else some ((x.1 : Int), false)
def scan (a p : Int) (l : List Met) : Option (Int × Bool) := l.findSome? (scanX a p)
theorem scan_snoc (a p : Int) (l : List Met) (x : Met) (h : scan a p l = none) : scan a p (l ++ [x]) = scanX a p x := by
 unfold scan at *
 rw [List.findSome?_append, h]; simp
theorem scan_more (a p : Int) (l r : List Met) {E : Int × Bool} (h : scan a p l = some E) : scan a p (l ++ r) = some E := by
 unfold scan at *
 rw [List.findSome?_append, h]; simp
theorem wayGo_scan (l : List Sl) (hn : 0 < l.length) (a p : Int) : ∀ (f i : Nat), i < l.length → wayGo l a p f i = (scan a p (uptoM (metAt l i) f)).getD (-1, false)
 | 0, i, _ => rfl
 | f + 1, i, hi => by
  have e0 : metAt l i 0 = (i, l.getD i sl0) := by simp [metAt, mod_small hi]
  have es : (fun j => metAt l i (j + 1)) = metAt l ((i + 1) % l.length) := by
   funext j
   unfold metAt
   rw [show (i + (j + 1)) % l.length = ((i + 1) % l.length + j) % l.length by rw [Nat.add_mod ((i + 1) % l.length), Nat.mod_mod, ← Nat.add_mod]; congr 1; omega]
  rw [uptoM_cons, e0, es]
  unfold scan
  rw [List.findSome?_cons]
  cases hu : (l.getD i sl0).u with
  | false => rw [wayGo_free hu, show scanX a p (i, l.getD i sl0) = some ((i : Int), false) by unfold scanX; rw [if_neg (by rw [hu]; decide)]]; rfl
  | true =>
   by_cases h : (l.getD i sl0).a = a ∧ (l.getD i sl0).p = p
   ·rw [wayGo_own hu h.1 h.2, show scanX a p (i, l.getD i sl0) = some ((i : Int), true) by unfold scanX; rw [if_pos hu, if_pos h]]; rfl
   ·rw [wayGo_next hu h, show scanX a p (i, l.getD i sl0) = none by unfold scanX; rw [if_pos hu, if_neg h]]
    exact wayGo_scan l hn a p f _ (next_lt hn i)
theorem endL_none {l : List Sl} (hn : 0 < l.length) {a p : Int} (h : scan a p (uptoM (metAt l (homeN l.length a p)) l.length) = none) : endL l a p = (-1, false) := by
 unfold endL; rw [wayGo_scan l hn a p _ _ (homeN_lt hn a p), h]; rfl
theorem endL_some {l : List Sl} (hn : 0 < l.length) {a p : Int} {k : Nat} {E : Int × Bool} (hk : k ≤ l.length) (h : scan a p (uptoM (metAt l (homeN l.length a p)) k) = some E) : endL l a p = E := by
 obtain ⟨r, hr⟩ := uptoM_le (metAt l (homeN l.length a p)) hk
 unfold endL; rw [wayGo_scan l hn a p _ _ (homeN_lt hn a p), hr, scan_more _ _ _ r h]; rfl

end Go.Proofs.YtljogkoaaidlcaaDoor

/- The program's ways, ranged over by a function: the contract of what wayOf hands back. -/
namespace Go.Proofs.YtljogkoaaidlcaaDoor
open Go.ChangeShapes Go.WideShapes Go.ChangeAt Go.RowKit Go.Joins Go.Shelf
set_option linter.unusedVariables false
set_option linter.unusedSimpArgs false

attribute [local go_sem] Oper.semAt_some

/-- What a round keeps: all that lay below n₀, and block Bs. -/
def KpW (n₀ Bs : Nat) (W W' : World) : Prop := Below n₀ W W' ∧ W'.heap[Bs]? = W.heap[Bs]?
theorem KpW.trans {n₀ Bs : Nat} {A B C : World} (h : KpW n₀ Bs A B) (k : KpW n₀ Bs B C) : KpW n₀ Bs A C := ⟨h.1.trans k.1, k.2.trans h.2⟩
theorem cell_of_blockW {W W' : World} {B o : Nat} (h : W'.heap[B]? = W.heap[B]?) : W'.cell? ⟨B, o, none⟩ = W.cell? ⟨B, o, none⟩ := by simp [World.cell?, h]
theorem grown_of_below {W W' : World} (h : Below W.heap.size W W') : W.grownBy W' none := ⟨h.os, h.tape, h.output, h.size, fun k hk _ => h.block k hk⟩

theorem step_mod (h k n : Nat) : (h + (k + 1)) % n = ((h + k) % n + 1) % n := by rw [Nat.mod_add_mod, Nat.add_assoc]
theorem metAt_eq (l : List Sl) (h k : Nat) : metAt l h k = ((h + k) % l.length, l.getD ((h + k) % l.length) sl0) := rfl

set_option maxRecDepth 100000 in
set_option maxHeartbeats 4000000 in
theorem wayOf1_in (n : Nat) (hn1 : 1 ≤ n) (y Bs Bf n₀ b off cap : Nat) (l : List Sl) (a p : Int) (hn : 0 < l.length) (hl : l.length ≤ 1048576) (hf : flowOkB a p = true) (hb : b < n₀) (J Jx : List Met → World → Prop)
  (hY : ∀ pre x W, J pre W → pre.length < l.length → YieldAt Fence.wide (n - 1) Tryd.prog y #[.int .i64 (x.1 : Nat), slot x.2] W fun e W' =>
   (e = .returned (.bool true) ∧ J (pre ++ [x]) W' ∧ KpW n₀ Bs W W') ∨ (e = .returned (.bool false) ∧ Jx (pre ++ [x]) W'))
  (W : World) (hc0 : W.cell? ⟨Bs, 0, none⟩ = some (.slice (some ⟨b, off, none⟩) l.length cap)) (hf0 : W.cell? ⟨Bf, 0, none⟩ = some (.int .i64 a)) (hf1 : W.cell? ⟨Bf, 1, none⟩ = some (.int .i64 p))
  (hc : ∀ i, i < l.length → ∀ j, j < layS.k → W.cell? ⟨b, off + i * layS.k + j, none⟩ = (layS.cs (l.getD i layS.d))[j]?) (hJA : ∀ pre W W', J pre W → Below W.heap.size W W' → J pre W') (hn0 : n₀ ≤ W.heap.size) (hBs0 : Bs < W.heap.size) (h0 : J [] W) :
  CallsIn Fence.wide n Tryd.prog 85 #[.func (.yield y) #[] #[], .pointer (some ⟨Bs, 0, none⟩), .pointer (some ⟨Bf, 0, none⟩)] W fun e W' => (∃ v, e = .returned v) ∧
   ((∃ ys, ys = uptoM (metAt l (homeN l.length a p)) l.length ∧ J ys W') ∨ (∃ pre, (∃ k, k ≤ l.length ∧ pre = uptoM (metAt l (homeN l.length a p)) k) ∧ Jx pre W')) := by
 refine callsIn_of_wp Tryd.func85 rfl trivial ?_ rfl
 simp only [Tryd.ntmps85, List.size_toArray, List.length_cons, List.length_nil, Nat.reduceAdd, Nat.reduceSub, Array.replicate_succ, Array.replicate_zero, List.push_toArray, List.append_toArray, List.nil_append, List.cons_append]
 have HC := hide hc
 have hh := homeN_lt hn a p
 clear hc
 gi_wp2_with (refine ⟨trivial, ?_⟩; gi_at_call 86; refine (callsIn_wide.2 (home_any (some ⟨b, off, none⟩) l.length cap a p W hn hl hf)).mono ?_; rintro e W2 ⟨rfl, hb2⟩; have hc0b := (hb2.cell (p := ⟨Bs, 0, none⟩) hBs0).trans hc0; have Hb2 := hide hb2; clear hb2)
 have hJ2 := hide (hJA _ _ _ h0 Hb2.out)
 have hn2 : n₀ ≤ W2.heap.size := Nat.le_trans hn0 Hb2.out.size
 have hBs2 : Bs < W2.heap.size := Nat.lt_of_lt_of_le hBs0 Hb2.out.size
 have HC2 : Hid (∀ i, i < l.length → ∀ j, j < layS.k → W2.cell? ⟨b, off + i * layS.k + j, none⟩ = (layS.cs (l.getD i layS.d))[j]?) := fun i hi j hj => (Hb2.out.cell (p := ⟨b, off + i * layS.k + j, none⟩) (Nat.lt_of_lt_of_le hb hn0)).trans (HC.out i hi j hj)
 clear HC h0 hc0 Hb2
 gi_loopw [4, 11] (fun at' i wr => ∃ k : Nat, k ≤ l.length ∧ i = .int .i64 k ∧ at' = .int .i64 (((homeN l.length a p + k) % l.length : Nat)) ∧ J (uptoM (metAt l (homeN l.length a p)) k) wr ∧ KpW n₀ Bs W2 wr ∧ W2.heap.size ≤ wr.heap.size)
  (fun _ i _ => l.length - (intOf i).toNat)
 case atStart => exact ⟨0, Nat.zero_le _, rfl, by rw [Nat.add_zero, mod_small hh], hJ2.out, ⟨Below.refl _ _, rfl⟩, Nat.le_refl _⟩
 case round =>
  obtain ⟨k, hk, rfl, rfl, hJs, ⟨hnx, hbx⟩, hsz⟩ := hrel
  by_cases hlt : k < l.length
  ·have hcr := (cell_of_blockW (o := 0) hbx).trans hc0b
   have hq := Nat.mod_lt (homeN l.length a p + k) hn
   have hstep := step_mod (homeN l.length a p) k l.length
   have hkx := metAt_eq l (homeN l.length a p) k
   have hcx := RdL.slot (C := n₀) HC2.out _ hq
   have Hst := hide hstep
   have Hkx := hide hkx
   clear hstep hkx
   generalize hqq : (homeN l.length a p + k) % l.length = q at *
   obtain ⟨s, hxy⟩ : ∃ s, l.getD q sl0 = s := ⟨_, rfl⟩
   rw [hxy] at hcx Hkx
   have e0 := (hnx.cell (p := ⟨b, off + q * 5, none⟩) hb).trans hcx.1
   have e1 := (hnx.cell (p := ⟨b, off + q * 5 + 1, none⟩) hb).trans hcx.2.1
   have e2 := (hnx.cell (p := ⟨b, off + q * 5 + 2, none⟩) hb).trans hcx.2.2.1
   have e3 := (hnx.cell (p := ⟨b, off + q * 5 + 3, none⟩) hb).trans hcx.2.2.2.1
   have e4 := (hnx.cell (p := ⟨b, off + q * 5 + 4, none⟩) hb).trans hcx.2.2.2.2
   have i1 : (q : Int) < (l.length : Int) := by omega
   have i2 : (k : Int) < (l.length : Int) := by omega
   obtain ⟨fn, tmps, assign, body, hy, hR⟩ := hY _ (metAt l (homeN l.length a p) k) wr hJs (by rw [uptoM_length]; exact hlt)
   rw [Hkx.out] at hy hR
   dsimp only at hy hR
   have HK := hide (show KpW n₀ Bs W2 wr from ⟨hnx, hbx⟩)
   have HJs := hide hJs
   clear hcx hxy hqq hnx hbx hJs hJ2 HC2 hY
   gi_wp2
   refine hR.mono ?_
   rintro e W3 (⟨rfl, hJ3, hk3⟩ | ⟨rfl, hJx3⟩)
   ·have hc3 := (cell_of_blockW (o := 0) hk3.2).trans hcr
    have HJ3 := hide hJ3
    have HK3 := hide (HK.out.trans hk3)
    have hB3 : Bs < W3.heap.size := Nat.lt_of_lt_of_le hBs2 (Nat.le_trans hsz hk3.1.size)
    have hs3 : W2.heap.size ≤ W3.heap.size := Nat.le_trans hsz hk3.1.size
    clear hJ3 hk3 hR hy
    gi_wp2_with (refine ⟨trivial, ?_⟩; gi_at_call 87; refine (callsIn_wide.2 (behind_any (some ⟨b, off, none⟩) l.length cap q W3 hn hl hq)).mono ?_; rintro e W4 ⟨rfl, hb4⟩; have Hb4 := hide hb4; clear hb4)
    go_roundw
    case rel =>
     refine ⟨k + 1, by omega, by simp, by rw [Hst.out]; simp, ?_, HK3.out.trans ⟨Hb4.out.mono (Nat.le_trans hn2 hs3), Hb4.out.block _ hB3⟩, Nat.le_trans hs3 Hb4.out.size⟩
     rw [uptoM_succ, Hkx.out]
     exact hJA _ _ _ HJ3.out Hb4.out
    case measure => simp [intOf]; omega
   ·gi_wp2
    refine bodyPost_ret (results_none rfl _ _ _) rfl ?_
    exact ⟨⟨_, rfl⟩, .inr ⟨_, ⟨k + 1, by omega, by rw [uptoM_succ, Hkx.out]⟩, hJx3⟩⟩
  ·obtain rfl : k = l.length := by omega
   gi_wp2
   go_end0
   exact ⟨⟨_, rfl⟩, .inl ⟨_, rfl, hJs⟩⟩

set_option maxHeartbeats 1000000 in
theorem wayOf_in (n : Nat) (v : Value) (a p : Int) (w : World) :
  CallsIn Fence.wide n Tryd.prog 75 #[tab v, flowV a p] w fun e w' => e = .returned (.func (.func 85) #[] #[.pointer (some ⟨w.heap.size, 0, none⟩), .pointer (some ⟨w.heap.size + 1, 0, none⟩)]) ∧ w' = (w.alloc (.cells #[v] 61)).alloc (.cells #[.int .i64 a, .int .i64 p] 48) := by
 refine callsIn_of_wp Tryd.func75 rfl trivial ?_ rfl
 simp only [Tryd.ntmps75, List.size_toArray, List.length_cons, List.length_nil, Nat.reduceAdd, Nat.reduceSub, Array.replicate_succ, Array.replicate_zero, List.push_toArray, List.append_toArray, List.nil_append, List.cons_append]
 gi_wp2
 go_ret
 exact ⟨rfl, rfl⟩

/-- What wayOf hands back gives each of the slots, from the flow's home on, or the first of them. -/
theorem way_stops (n : Nat) (hn1 : 1 ≤ n) (Bs Bf n₀ b off cap : Nat) (l : List Sl) (a p : Int) (hn : 0 < l.length) (hl : l.length ≤ 1048576) (hf : flowOkB a p = true) (w : World) (hBs : Bs < w.heap.size) (hBf : Bf < w.heap.size) (hb : b < n₀) (hn₀ : n₀ ≤ w.heap.size)
  (hc0 : w.cell? ⟨Bs, 0, none⟩ = some (.slice (some ⟨b, off, none⟩) l.length cap)) (hf0 : w.cell? ⟨Bf, 0, none⟩ = some (.int .i64 a)) (hf1 : w.cell? ⟨Bf, 1, none⟩ = some (.int .i64 p))
  (hc : ∀ i, i < l.length → ∀ j, j < layS.k → w.cell? ⟨b, off + i * layS.k + j, none⟩ = (layS.cs (l.getD i layS.d))[j]?) :
  SeqStopsK Fence.wide n Tryd.prog 85 #[.pointer (some ⟨Bs, 0, none⟩), .pointer (some ⟨Bf, 0, none⟩)] (fun x : Met => #[.int .i64 (x.1 : Nat), slot x.2]) (KpW n₀ Bs) (fun ys => ys = uptoM (metAt l (homeN l.length a p)) l.length)
   (fun pre => ∃ k, k ≤ l.length ∧ pre = uptoM (metAt l (homeN l.length a p)) k) l.length w := fun y J Jx W hW hJ _ hY h0 => by
 have hWn : Below n₀ w W := hW.mono hn₀
 exact wayOf1_in n hn1 y Bs Bf n₀ b off cap l a p hn hl hf hb J Jx hY W ((hW.cell (p := ⟨Bs, 0, none⟩) hBs).trans hc0) ((hW.cell (p := ⟨Bf, 0, none⟩) hBf).trans hf0) ((hW.cell (p := ⟨Bf, 1, none⟩) hBf).trans hf1)
  (fun i hi j hj => (hWn.cell (p := ⟨b, off + i * layS.k + j, none⟩) hb).trans (hc i hi j hj))
  (fun pre W1 W2 hs hb => hJ pre W1 W2 none hs (grown_of_below hb) (fun r e => by cases e)) (Nat.le_trans hn₀ hW.size) (Nat.lt_of_lt_of_le hBs hW.size) h0

end Go.Proofs.YtljogkoaaidlcaaDoor

