/- A drawn table that is bent. -/
import Derived.Test.YtncdjmniphnpgaaSDraw5T
import Derived.Test.YtncdjmniphnpgaaMarkL
import Derived.Test.YtncdjmniphnpgaaSDraw2
import Derived.Deep.RegionWith
namespace Go.Proofs.Ytncdjmniphnpgaa
open Go.ChangeShapes Go.WideShapes Go.ChangeAt Go.RowKit Go.Joins
set_option linter.unusedVariables false
set_option linter.unusedSimpArgs false

theorem flat_setj {α : Type} (L : Lay α) {a : α} {j : Nat} {u : Value} (hj : j < L.k) : ∀ (l : List α) (i : Nat), i < l.length → L.cs a = (L.cs (l.getD i L.d)).set j u → (l.flatMap L.cs).set (i * L.k + j) u = (l.set i a).flatMap L.cs
  | [], i, h, _ => absurd h (Nat.not_lt_zero _)
  | x :: l, 0, _, e => by
    have hx : (L.cs x).length = L.k := L.len x
    rw [List.set_cons_zero, List.flatMap_cons, List.flatMap_cons, Nat.zero_mul, Nat.zero_add, List.set_append_left _ _ (by omega), e]; rfl
  | x :: l, i + 1, h, e => by
    have hx : (L.cs x).length = L.k := L.len x
    have h2 := flat_setj L hj l i (by simpa using h) e
    rw [List.set_cons_succ, List.flatMap_cons, List.flatMap_cons, List.set_append_right _ _ (by rw [hx, Nat.succ_mul]; omega), ← h2, hx, show (i + 1) * L.k + j - L.k = i * L.k + j by rw [Nat.succ_mul]; omega]
/-- What holds while a drawn table is bent. -/
structure BInv (k B R : Nat) (w0 wr : World) (m : List Sl) (g c : Nat) : Prop where
  ln : 1 ≤ m.length ∧ m.length ≤ 16
  cur : isCur k wr
  box : wr.heap[B]? = some (.cells #[.slice (some ⟨g, 0, none⟩) m.length c] 25 (0, 0))
  res : wr.heap[R]? = some (.cells #[.slice none 0 0] 25 (0, 0))
  own : wr.ownsRow w0.heap.size 35 5 (.slice (some ⟨g, 0, none⟩) m.length c) m.length (m.flatMap layS.cs)
  gr : w0.grownBy wr (some k)
theorem BInv.draw {k B R : Nat} {w0 wr x : World} {m : List Sl} {g c : Nat} (h : BInv k B R w0 wr m g c) (hk : k < w0.heap.size) (hB : w0.heap.size ≤ B) (hR : w0.heap.size ≤ R) (hg : wr.grownBy x (some k)) (hc : isCur k x) : BInv k B R w0 x m g c := by
  have hb1 := (Array.getElem?_eq_some_iff.1 h.box).1
  have hr1 := (Array.getElem?_eq_some_iff.1 h.res).1
  have hgl := h.own.lt g rfl
  exact ⟨h.ln, hc, (hg.block B hb1 (by simp; omega)).trans h.box, (hg.block R hr1 (by simp; omega)).trans h.res, World.ownsRow.kept h.own hg (.inr (by simp [Value.ownBlock]; omega)), grownBy_then h.gr hg⟩
theorem BInv.drawd {k B R : Nat} {w0 wr x : World} {m : List Sl} {g c : Nat} (h : BInv k B R w0 wr m g c) (hk : k < w0.heap.size) (hB : w0.heap.size ≤ B) (hR : w0.heap.size ≤ R) (hg : wr.drew.grownBy x (some k)) (hc : isCur k x) : BInv k B R w0 x m g c :=
  h.draw hk hB hR ⟨hg.os, hg.tape, hg.output, hg.size, hg.block⟩ hc
theorem BInv.grown {k B R : Nat} {w0 wr x : World} {m : List Sl} {g c : Nat} (h : BInv k B R w0 wr m g c) (hk : k < w0.heap.size) (hB : w0.heap.size ≤ B) (hR : w0.heap.size ≤ R) (hb : Below wr.heap.size wr x) : BInv k B R w0 x m g c :=
  h.draw hk hB hR ⟨hb.os, hb.tape, hb.output, hb.size, fun i hi _ => hb.block i hi⟩ (h.cur.below (hb.mono (Nat.lt_of_lt_of_le hk h.gr.size)))
theorem BInv.apart {k B R : Nat} {w0 wr : World} {m : List Sl} {g c : Nat} (h : BInv k B R w0 wr m g c) : g ≠ B ∧ g ≠ R := by
  rcases h.own.2 with ⟨h1, _⟩ | ⟨g', cap, cur, h1, _, hc, _⟩
  · cases h1
  · injection h1 with h1 _ _
    injection h1 with h1
    injection h1 with h1 _ _
    subst h1
    constructor
    · intro e
      rw [e, h.box] at hc
      injection hc with hc
      injection hc with _ hc _
      exact absurd hc (by decide)
    · intro e
      rw [e, h.res] at hc
      injection hc with hc
      injection hc with _ hc _
      exact absurd hc (by decide)
theorem BInv.store {k B R : Nat} {w0 wr : World} {m : List Sl} {g c i j : Nat} {u : Value} (h : BInv k B R w0 wr m g c) (hk : k < w0.heap.size) (hB : w0.heap.size ≤ B) (hR : w0.heap.size ≤ R) (hj : j < 5) (hi : i < m.length) (s : Sl) (hs : layS.cs s = (layS.cs (m.getD i layS.d)).set j u) : BInv k B R w0 (wr.setCell ⟨g, i * 5 + j, none⟩ u) (m.set i s) g c := by
  have hgl := h.own.lt g rfl
  obtain ⟨ha, hb⟩ := h.apart
  have hst := stp_set wr g (i * 5 + j) u
  have hbl : Below w0.heap.size wr (wr.setCell ⟨g, i * 5 + j, none⟩ u) := hst.below hgl.1 h.gr.size
  have hg1 := grown_set1 (j := i * 5 + j) (u := u) h.own (World.grownBy.refl wr (some g))
  refine ⟨by rw [List.length_set]; exact h.ln, h.cur.below (hbl.mono hk), ?_, ?_, ?_, ?_⟩
  · rw [List.length_set]; exact (Below.heap_setCell wr ⟨g, i * 5 + j, none⟩ u B (fun e => ha e.symm)).trans h.box
  · exact (Below.heap_setCell wr ⟨g, i * 5 + j, none⟩ u R (fun e => hb e.symm)).trans h.res
  · rw [List.length_set, ← flat_setj layS hj m i hi hs]; exact hg1.1
  · exact ⟨hbl.os.trans h.gr.os, hbl.tape.trans h.gr.tape, hbl.output.trans h.gr.output, Nat.le_trans h.gr.size hbl.size, fun q hq hn => (hbl.block q hq).trans (h.gr.block q hq hn)⟩
theorem BInv.boxc {k B R : Nat} {w0 wr : World} {m : List Sl} {g c : Nat} (h : BInv k B R w0 wr m g c) : wr.cell? ⟨B, 0, none⟩ = some (.slice (some ⟨g, 0, none⟩) m.length c) := block_cell1 h.box 0 _ rfl
theorem BInv.resc {k B R : Nat} {w0 wr : World} {m : List Sl} {g c : Nat} (h : BInv k B R w0 wr m g c) : wr.cell? ⟨R, 0, none⟩ = some (.slice none 0 0) ∧ wr.frozen? ⟨R, 0, none⟩ = false := ⟨block_cell1 h.res 0 _ rfl, frozen_of h.res 0⟩
theorem BInv.row {k B R : Nat} {w0 wr : World} {m : List Sl} {g c : Nat} (h : BInv k B R w0 wr m g c) {i j : Nat} (hi : i < m.length) (hj : j < 5) : (∃ u, wr.cell? ⟨g, i * 5 + j, none⟩ = some u) ∧ wr.frozen? ⟨g, i * 5 + j, none⟩ = false := by
  have hl : (m.flatMap layS.cs).length = m.length * 5 := by rw [flat_length]; rfl
  have hij : i * 5 + j < m.length * 5 := by omega
  exact ⟨⟨_, (h.own.cellAt (i * 5 + j) hij).trans (List.getElem?_eq_getElem (by omega))⟩, h.own.frozenAt (i * 5 + j)⟩
theorem BInv.done {k B : Nat} {w wr : World} {m : List Sl} {g c : Nat} (h : BInv k B w.heap.size w wr m g c) (hk : k < w.heap.size) : InT w.heap.size (wr.setCell ⟨w.heap.size, 0, none⟩ (.slice (some ⟨g, 0, none⟩) m.length c)).heap.size (wr.setCell ⟨w.heap.size, 0, none⟩ (.slice (some ⟨g, 0, none⟩) m.length c)) (tab (.slice (some ⟨g, 0, none⟩) m.length c)) m ∧ isCur k (wr.setCell ⟨w.heap.size, 0, none⟩ (.slice (some ⟨g, 0, none⟩) m.length c)) ∧ w.grownBy (wr.setCell ⟨w.heap.size, 0, none⟩ (.slice (some ⟨g, 0, none⟩) m.length c)) (some k) := by
  obtain ⟨_, hb⟩ := h.apart
  have hbl : Below w.heap.size wr (wr.setCell ⟨w.heap.size, 0, none⟩ (.slice (some ⟨g, 0, none⟩) m.length c)) := ((Below.refl _ _).mono h.gr.size).setCell (p := ⟨w.heap.size, 0, none⟩) (Nat.le_refl _) _
  refine ⟨⟨_, rfl, InRow.of ?_⟩, h.cur.below (hbl.mono hk), hbl.os.trans h.gr.os, hbl.tape.trans h.gr.tape, hbl.output.trans h.gr.output, Nat.le_trans h.gr.size hbl.size, fun q hq hn => (hbl.block q hq).trans (h.gr.block q hq hn)⟩
  rcases h.own.2 with ⟨h1, _⟩ | ⟨g', cap, cur, h1, h2, hc, h3⟩
  · cases h1
  · refine ⟨h.own.1, .inr ⟨g', cap, cur, h1, h2, ?_, h3⟩⟩
    injection h1 with h1 _ _
    injection h1 with h1
    injection h1 with h1 _ _
    subst h1
    exact (Below.heap_setCell wr ⟨w.heap.size, 0, none⟩ _ g hb).trans hc

theorem BInv.doned {k B : Nat} {w wr : World} {m : List Sl} {g c : Nat} (h : BInv k B w.heap.size w wr m g c) (hk : k < w.heap.size) : InT w.heap.size (wr.setCell ⟨w.heap.size, 0, none⟩ (.slice (some ⟨g, 0, none⟩) m.length c)).drew.heap.size (wr.setCell ⟨w.heap.size, 0, none⟩ (.slice (some ⟨g, 0, none⟩) m.length c)).drew (tab (.slice (some ⟨g, 0, none⟩) m.length c)) m ∧ isCur k (wr.setCell ⟨w.heap.size, 0, none⟩ (.slice (some ⟨g, 0, none⟩) m.length c)).drew ∧ w.grownBy (wr.setCell ⟨w.heap.size, 0, none⟩ (.slice (some ⟨g, 0, none⟩) m.length c)).drew (some k) := by
  obtain ⟨h1, h2, h3⟩ := h.done hk
  exact ⟨h1.step (Stp.of (lo := 0) (hi := 0) (Below.drew (Below.refl _ _))) (.inl (Nat.zero_le _)), h2.below (Below.drew (Below.refl _ _)), h3.os, h3.tape, h3.output, h3.size, h3.block⟩
theorem pick3 (k g : Nat) (a b c : Int) (w : World) (hc : isCur k w) (hg : g < w.heap.size) (hne : g ≠ k) (p0 : w.cell? ⟨g, 0, none⟩ = some (.int .i64 a)) (p1 : w.cell? ⟨g, 1, none⟩ = some (.int .i64 b)) (p2 : w.cell? ⟨g, 2, none⟩ = some (.int .i64 c)) :
    Calls Try.prog 58 #[.pointer (some ⟨k, 0, none⟩), .slice (some ⟨g, 0, none⟩) 3 3] w fun e w' => ∃ x : Int, e = .returned (.int .i64 x) ∧ isCur k w' ∧ w.grownBy w' (some k) := by
  refine (l1PickInt_any k g [a, b, c] w hc hg hne (by simp) (by simp) ?_).mono ?_
  · intro q hq
    have hq3 : q < 3 := hq
    match q, hq3 with
    | 0, _ => exact p0
    | 1, _ => exact p1
    | 2, _ => exact p2
  · rintro e w' ⟨q, _, rfl, h1, h2⟩
    exact ⟨_, rfl, h1, h2⟩
theorem bent_flow {k B R : Nat} {w0 wr : World} {m : List Sl} {g c i : Nat} {su : Bool} {sa sp sv st : Int} (hx : m.getD i sl0 = ⟨su, sa, sp, sv, st⟩) (h : BInv k B R w0 wr m g c) (hk : k < w0.heap.size) (hB : w0.heap.size ≤ B) (him : i < m.length) (fa fp : Int) (hR : w0.heap.size ≤ R := by exact Nat.le_refl _) : BInv k B R w0 ((wr.setCell ⟨g, i * 5 + 1, none⟩ (.int .i64 fa)).setCell ⟨g, i * 5 + 2, none⟩ (.int .i64 fp)) (m.set i ⟨su, fa, fp, sv, st⟩) g c := by
  have h1 := h.store hk hB hR (show 1 < 5 by decide) him ⟨su, fa, sp, sv, st⟩ (u := .int .i64 fa) (by rw [show m.getD i layS.d = ⟨su, sa, sp, sv, st⟩ from hx]; rfl)
  have h2 := h1.store hk hB hR (show 2 < 5 by decide) (i := i) (by rw [List.length_set]; exact him) ⟨su, fa, fp, sv, st⟩ (u := .int .i64 fp) (by rw [show (m.set i ⟨su, fa, sp, sv, st⟩).getD i layS.d = ⟨su, fa, sp, sv, st⟩ from getD_set_self m i _ him]; rfl)
  rwa [List.set_set] at h2
theorem bent_3 {k B R : Nat} {w0 wr : World} {m : List Sl} {g c i : Nat} {su : Bool} {sa sp sv st : Int} (hx : m.getD i sl0 = ⟨su, sa, sp, sv, st⟩) (h : BInv k B R w0 wr m g c) (hk : k < w0.heap.size) (hB : w0.heap.size ≤ B) (him : i < m.length) (pv : Int) (hR : w0.heap.size ≤ R := by exact Nat.le_refl _) : BInv k B R w0 (wr.setCell ⟨g, i * 5 + 3, none⟩ (.int .i64 pv)) (m.set i ⟨su, sa, sp, pv, st⟩) g c :=
  h.store hk hB hR (show 3 < 5 by decide) him ⟨su, sa, sp, pv, st⟩ (u := .int .i64 pv) (by rw [show m.getD i layS.d = ⟨su, sa, sp, sv, st⟩ from hx]; rfl)
theorem bent_4 {k B R : Nat} {w0 wr : World} {m : List Sl} {g c i : Nat} {su : Bool} {sa sp sv st : Int} (hx : m.getD i sl0 = ⟨su, sa, sp, sv, st⟩) (h : BInv k B R w0 wr m g c) (hk : k < w0.heap.size) (hB : w0.heap.size ≤ B) (him : i < m.length) (pv : Int) (hR : w0.heap.size ≤ R := by exact Nat.le_refl _) : BInv k B R w0 (wr.setCell ⟨g, i * 5 + 4, none⟩ (.int .i64 pv)) (m.set i ⟨su, sa, sp, sv, pv⟩) g c :=
  h.store hk hB hR (show 4 < 5 by decide) him ⟨su, sa, sp, sv, pv⟩ (u := .int .i64 pv) (by rw [show m.getD i layS.d = ⟨su, sa, sp, sv, st⟩ from hx]; rfl)
set_option maxHeartbeats 8000000 in
theorem l5bent_any (k : Nat) (w : World) (hc : isCur k w) (hk : k < w.heap.size) :
    Calls Try.prog 68 #[.pointer (some ⟨k, 0, none⟩)] w fun e w' => ∃ v' m, e = .returned v' ∧ (1 ≤ m.length ∧ m.length ≤ 16) ∧ InT w.heap.size w'.heap.size w' v' m ∧ isCur k w' ∧ w.grownBy w' (some k) := by
  obtain ⟨W0, hW0⟩ : ∃ W, w.alloc (.cells #[.slice none 0 0] 25) = W := ⟨_, rfl⟩
  have hb0 : Below w.heap.size w W0 := by rw [← hW0]; exact (Below.refl _ _).alloc (Nat.le_refl _) _
  have hg0 : w.grownBy W0 (some k) := by rw [← hW0]; exact World.grownBy_alloc w _ _
  have HR0 : Hid (W0.heap[w.heap.size]? = some (.cells #[.slice none 0 0] 25 (0, 0))) := by rw [← hW0]; exact World.alloc_heap_new w _
  have hs0 : w.heap.size < W0.heap.size := by rw [← hW0]; simp
  have HC0 := hide (hc.below (hb0.mono hk))
  have HG0 := hide hg0
  clear hb0 hg0 hc
  go_enter Try.func68, Try.ntmps68
  go_wp2_with fail
  refine (l5draw_any k W0 HC0.out (by omega)).mono ?_
  rintro e v1 ⟨vt, m, rfl, hok, ⟨vl, rfl, hrow, _⟩, hc1, hg1⟩
  have hln := (tableOkB_iff.1 hok)
  have hln1 := hln.1
  have hln2 := hln.2.1
  obtain ⟨g, cap, rfl⟩ : ∃ g cap, vl = .slice (some ⟨g, 0, none⟩) m.length cap := by
    rcases hrow.2 with ⟨h1, h2⟩ | ⟨g, cap, cur, h1, _⟩
    · omega
    · exact ⟨g, cap, h1⟩
  obtain ⟨W2, hW2⟩ : ∃ W, v1.alloc (.cells #[.slice (some ⟨g, 0, none⟩) m.length cap] 25) = W := ⟨_, rfl⟩
  have hb2 : Below v1.heap.size v1 W2 := by rw [← hW2]; exact (Below.refl _ _).alloc (Nat.le_refl _) _
  have hs1 := hg1.size
  have HI2 : Hid (BInv k v1.heap.size w.heap.size w W2 m g cap) := by
    refine ⟨⟨hln1, hln2⟩, hc1.below (hb2.mono (by omega)), by rw [← hW2]; exact World.alloc_heap_new v1 _, (hb2.block _ (by omega)).trans ((hg1.block _ hs0 (by simp; omega)).trans HR0.out), own_kept (own_mono hrow (Nat.le_of_lt hs0)) hb2, grownBy_then (grownBy_then HG0.out hg1) ⟨hb2.os, hb2.tape, hb2.output, hb2.size, fun i hi _ => hb2.block i hi⟩⟩
  have hBw : w.heap.size ≤ v1.heap.size := by omega
  clear hln hok hrow hc1 hg1 hb2 HR0 HC0 HG0 hW0 hs0 hs1
  go_wp2_with fail
  refine (l1Once_any k 7 W2 HI2.out.cur (by decide) (by decide)).mono ?_
  rintro e v3 ⟨y, rfl, hc3, hg3⟩
  have HI3 := hide (HI2.out.draw hk hBw (Nat.le_refl _) hg3 hc3)
  clear hc3 hg3 HI2 hW2
  generalize v1.heap.size = B at *
  have ct := HI3.out.boxc
  cases y with
  | false =>
    have cr := HI3.out.resc.1
    have fr := HI3.out.resc.2
    have HD := hide (HI3.out.done hk)
    go_wp2
    refine bodyPost_ret (v := tab (.slice (some ⟨g, 0, none⟩) m.length cap)) (by simp [results, Try.results68, go_sem, cr]) rfl ⟨_, m, rfl, ⟨hln1, hln2⟩, HD.out.1, HD.out.2.1, HD.out.2.2⟩
  | true =>
    go_wp2_with fail
    refine (l1Below_any k (m.length : Int) v3 HI3.out.cur (by omega) (by omega)).mono ?_
    rintro e v4 ⟨iz, rfl, iz0, iz1, hc4, hg4⟩
    obtain ⟨i, rfl⟩ : ∃ i : Nat, iz = i := ⟨iz.toNat, by omega⟩
    have him : i < m.length := by omega
    have HI4 := hide (HI3.out.draw hk hBw (Nat.le_refl _) hg4 hc4)
    clear hc4 hg4 HI3 ct
    go_wp2_with fail
    refine (l1Below_any k 4 v4 HI4.out.cur (by decide) (by decide)).mono ?_
    rintro e v5 ⟨q, rfl, q0, q4, hc5, hg5⟩
    have HI5 := hide (HI4.out.draw hk hBw (Nat.le_refl _) hg5 hc5)
    clear hc5 hg5 HI4
    have ct := HI5.out.boxc
    have hk5 : k < v5.heap.size := Nat.lt_of_lt_of_le hk HI5.out.gr.size
    obtain ⟨s, hxy⟩ : ∃ s, m.getD i sl0 = s := ⟨_, rfl⟩
    have hrk := rd_row HI5.out.own rfl i him
    rw [hxy] at hrk
    have e0 := hrk.1
    have f0 : v5.frozen? ⟨g, i * 5, none⟩ = false := (HI5.out.row him (show 0 < 5 by decide)).2
    have HX := hide hxy
    clear hrk hxy
    obtain ⟨su, sa, sp, sv, st⟩ := s
    simp only at e0
    have hq : q = 0 ∨ q = 1 ∨ q = 2 ∨ q = 3 := by omega
    rcases hq with rfl | rfl | rfl | rfl
    · obtain ⟨W6, hW6⟩ : ∃ W, v5.setCell ⟨g, i * 5, none⟩ (.bool (!su)) = W := ⟨_, rfl⟩
      have HI6 : Hid (BInv k B w.heap.size w W6 (m.set i ⟨!su, sa, sp, sv, st⟩) g cap) := by
        rw [← hW6]
        exact (HI5.out.store hk hBw (Nat.le_refl _) (show 0 < 5 by decide) him ⟨!su, sa, sp, sv, st⟩ (u := .bool (!su)) (by rw [show m.getD i layS.d = ⟨su, sa, sp, sv, st⟩ from HX.out]; rfl))
      have HLn := hide (show (m.set i ⟨!su, sa, sp, sv, st⟩).length = m.length from List.length_set)
      have ct6 := HI6.out.boxc
      rw [HLn.out] at ct6
      have cr6 := HI6.out.resc.1
      have fr6 := HI6.out.resc.2
      have HD := hide (HI6.out.doned hk)
      rw [HLn.out] at HD
      have HL := hide HI6.out.ln
      clear HI6
      go_wp2
      go_region
      all_goals (
        go_wp2
        refine bodyPost_ret (v := tab (.slice (some ⟨g, 0, none⟩) m.length cap)) (by simp [results, Try.results68, go_sem, cr6]) rfl ⟨_, _, rfl, HL.out, HD.out.1, HD.out.2.1, HD.out.2.2⟩)
    · go_wp2
      go_region_with (first | (go_at_call 101; have hc_ := l1someFlow_any k v5.drew (HI5.out.grown hk hBw (Nat.le_refl _) (Below.drew (Below.refl _ _))).cur hk5; with_reducible refine hc_.mono ?_; clear hc_; rintro e x0 ⟨fa, fp, rfl, ha, hp, hcx, hgx⟩; have I0 := hide (HI5.out.drawd hk hBw (Nat.le_refl _) hgx hcx); have k0 := I0.out.boxc; obtain ⟨u1, c1⟩ := (I0.out.row him (show 1 < 5 by decide)).1; have f1 := (I0.out.row him (show 1 < 5 by decide)).2; obtain ⟨u2, c2⟩ := (I0.out.row him (show 2 < 5 by decide)).1; have f2 := (I0.out.row him (show 2 < 5 by decide)).2; have I6 := hide (bent_flow HX.out I0.out hk hBw him fa fp); obtain ⟨W6, hW6⟩ : ∃ W, (x0.setCell ⟨g, i * 5 + 1, none⟩ (.int .i64 fa)).setCell ⟨g, i * 5 + 2, none⟩ (.int .i64 fp) = W := ⟨_, rfl⟩; rw [hW6] at I6; have HI6 := I6; have HLn := hide (show (m.set i ⟨su, fa, fp, sv, st⟩).length = m.length from List.length_set); have ct6 := HI6.out.boxc; rw [HLn.out] at ct6; have cr6 := HI6.out.resc.1; have fr6 := HI6.out.resc.2; have HD := hide (HI6.out.done hk); rw [HLn.out] at HD; have HL := hide HI6.out.ln; clear hcx hgx I6 HI6 I0))
      all_goals (
        go_wp2
        refine bodyPost_ret (v := tab (.slice (some ⟨g, 0, none⟩) m.length cap)) (by simp [results, Try.results68, go_sem, cr6]) rfl ⟨_, _, rfl, HL.out, HD.out.1, HD.out.2.1, HD.out.2.2⟩)
    · obtain ⟨W7, hW7⟩ : ∃ W, v5.alloc (.cells #[.int .i64 (-1), .int .i64 100001, .int .i64 1] 3) = W := ⟨_, rfl⟩
      have HI7 : Hid (BInv k B w.heap.size w W7 m g cap) := by rw [← hW7]; exact HI5.out.grown hk hBw (Nat.le_refl _) ((Below.refl _ _).alloc (Nat.le_refl _) _)
      have p0 : W7.drew.cell? ⟨v5.heap.size, 0, none⟩ = some (.int .i64 (-1)) := by rw [← hW7]; simp [go_sem]
      have p1 : W7.drew.cell? ⟨v5.heap.size, 1, none⟩ = some (.int .i64 100001) := by rw [← hW7]; simp [go_sem]
      have p2 : W7.drew.cell? ⟨v5.heap.size, 2, none⟩ = some (.int .i64 1) := by rw [← hW7]; simp [go_sem]
      have HPK := hide (pick3 k v5.heap.size (-1) 100001 1 W7.drew (HI7.out.grown hk hBw (Nat.le_refl _) (Below.drew (Below.refl _ _))).cur (by rw [← hW7]; show v5.heap.size < (v5.alloc _).heap.size; simp) (by omega) p0 p1 p2)
      clear p0 p1 p2
      have hk7 : v5.heap.size < W7.heap.size := by rw [← hW7]; simp
      have ct7 := HI7.out.boxc
      go_wp2
      go_region_with (first | (go_at_call 58; have hc_ := HPK.out; with_reducible refine hc_.mono ?_; clear hc_; rintro e x0 ⟨pv, rfl, hcx, hgx⟩; have I0 := hide (HI7.out.drawd hk hBw (Nat.le_refl _) hgx hcx); have k0 := I0.out.boxc; obtain ⟨u1, c1⟩ := (I0.out.row him (show 3 < 5 by decide)).1; have f1 := (I0.out.row him (show 3 < 5 by decide)).2; have I6 := hide (bent_3 HX.out I0.out hk hBw him pv); obtain ⟨W6, hW6⟩ : ∃ W, x0.setCell ⟨g, i * 5 + 3, none⟩ (.int .i64 pv) = W := ⟨_, rfl⟩; rw [hW6] at I6; have HI6 := I6; have HLn := hide (show (m.set i ⟨su, sa, sp, pv, st⟩).length = m.length from List.length_set); have ct6 := HI6.out.boxc; rw [HLn.out] at ct6; have cr6 := HI6.out.resc.1; have fr6 := HI6.out.resc.2; have HD := hide (HI6.out.done hk); rw [HLn.out] at HD; have HL := hide HI6.out.ln; clear hcx hgx I6 HI6 I0))
      all_goals (
        go_wp2
        refine bodyPost_ret (v := tab (.slice (some ⟨g, 0, none⟩) m.length cap)) (by simp [results, Try.results68, go_sem, cr6]) rfl ⟨_, _, rfl, HL.out, HD.out.1, HD.out.2.1, HD.out.2.2⟩)
    · obtain ⟨W7, hW7⟩ : ∃ W, v5.alloc (.cells #[.int .i64 (-1), .int .i64 200001, .int .i64 1] 3) = W := ⟨_, rfl⟩
      have HI7 : Hid (BInv k B w.heap.size w W7 m g cap) := by rw [← hW7]; exact HI5.out.grown hk hBw (Nat.le_refl _) ((Below.refl _ _).alloc (Nat.le_refl _) _)
      have p0 : W7.drew.cell? ⟨v5.heap.size, 0, none⟩ = some (.int .i64 (-1)) := by rw [← hW7]; simp [go_sem]
      have p1 : W7.drew.cell? ⟨v5.heap.size, 1, none⟩ = some (.int .i64 200001) := by rw [← hW7]; simp [go_sem]
      have p2 : W7.drew.cell? ⟨v5.heap.size, 2, none⟩ = some (.int .i64 1) := by rw [← hW7]; simp [go_sem]
      have HPK := hide (pick3 k v5.heap.size (-1) 200001 1 W7.drew (HI7.out.grown hk hBw (Nat.le_refl _) (Below.drew (Below.refl _ _))).cur (by rw [← hW7]; show v5.heap.size < (v5.alloc _).heap.size; simp) (by omega) p0 p1 p2)
      clear p0 p1 p2
      have hk7 : v5.heap.size < W7.heap.size := by rw [← hW7]; simp
      have ct7 := HI7.out.boxc
      go_wp2
      go_region_with (first | (go_at_call 58; have hc_ := HPK.out; with_reducible refine hc_.mono ?_; clear hc_; rintro e x0 ⟨pv, rfl, hcx, hgx⟩; have I0 := hide (HI7.out.drawd hk hBw (Nat.le_refl _) hgx hcx); have k0 := I0.out.boxc; obtain ⟨u1, c1⟩ := (I0.out.row him (show 4 < 5 by decide)).1; have f1 := (I0.out.row him (show 4 < 5 by decide)).2; have I6 := hide (bent_4 HX.out I0.out hk hBw him pv); obtain ⟨W6, hW6⟩ : ∃ W, x0.setCell ⟨g, i * 5 + 4, none⟩ (.int .i64 pv) = W := ⟨_, rfl⟩; rw [hW6] at I6; have HI6 := I6; have HLn := hide (show (m.set i ⟨su, sa, sp, sv, pv⟩).length = m.length from List.length_set); have ct6 := HI6.out.boxc; rw [HLn.out] at ct6; have cr6 := HI6.out.resc.1; have fr6 := HI6.out.resc.2; have HD := hide (HI6.out.done hk); rw [HLn.out] at HD; have HL := hide HI6.out.ln; clear hcx hgx I6 HI6 I0))
      all_goals (
        go_wp2
        refine bodyPost_ret (v := tab (.slice (some ⟨g, 0, none⟩) m.length cap)) (by simp [results, Try.results68, go_sem, cr6]) rfl ⟨_, _, rfl, HL.out, HD.out.1, HD.out.2.1, HD.out.2.2⟩)

end Go.Proofs.Ytncdjmniphnpgaa
