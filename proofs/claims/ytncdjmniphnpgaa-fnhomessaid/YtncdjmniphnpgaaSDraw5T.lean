/- A drawn table. -/
import Derived.Test.YtncdjmniphnpgaaSExp2
import Derived.Test.YtncdjmniphnpgaaDropElse
import Derived.Test.YtncdjmniphnpgaaSDraw3
import Derived.Test.YtncdjmniphnpgaaSPlain
import Derived.Deep.RegionWith
namespace Go.Proofs.Ytncdjmniphnpgaa
open Go.ChangeShapes Go.WideShapes Go.ChangeAt Go.RowKit Go.Joins
set_option linter.unusedVariables false
set_option linter.unusedSimpArgs false

/-- What holds while a table is drawn: the cursor, the table's box, the answer's box, the row. -/
structure DInv (k B R : Nat) (w0 wr : World) (m : List Sl) (b off c : Nat) : Prop where
  ok : tableOkB m = true
  cur : isCur k wr
  box : wr.heap[B]? = some (.cells #[.slice (some ⟨b, off, none⟩) m.length c] 25 (0, 0))
  res : wr.heap[R]? = some (.cells #[.slice none 0 0] 25 (0, 0))
  lt : b < wr.heap.size
  ge : w0.heap.size ≤ b
  rd : (∀ i, i < m.length → ∀ j, j < layS.k → wr.cell? ⟨b, off + i * layS.k + j, none⟩ = (layS.cs (m.getD i layS.d))[j]?)
  gr : w0.grownBy wr (some k)
theorem DInv.draw {k B R : Nat} {w0 wr x : World} {m : List Sl} {b off c : Nat} (h : DInv k B R w0 wr m b off c) (hk : k < w0.heap.size) (hB : w0.heap.size ≤ B) (hR : w0.heap.size ≤ R) (hg : wr.drew.grownBy x (some k)) (hc : isCur k x) : DInv k B R w0 x m b off c := by
  have hg' : wr.grownBy x (some k) := ⟨hg.os, hg.tape, hg.output, hg.size, hg.block⟩
  have hb1 := (Array.getElem?_eq_some_iff.1 h.box).1
  have hr1 := (Array.getElem?_eq_some_iff.1 h.res).1
  have hbg := h.ge
  refine ⟨h.ok, hc, (hg'.block B hb1 (by simp; omega)).trans h.box, (hg'.block R hr1 (by simp; omega)).trans h.res, Nat.lt_of_lt_of_le h.lt hg'.size, h.ge, fun i hi j hj => (grown_cell hg' h.lt (by omega)).trans (h.rd i hi j hj), grownBy_then h.gr hg'⟩
theorem DInv.draw0 {k B R : Nat} {w0 wr x : World} {m : List Sl} {b off c : Nat} (h : DInv k B R w0 wr m b off c) (hk : k < w0.heap.size) (hB : w0.heap.size ≤ B) (hR : w0.heap.size ≤ R) (hg : wr.grownBy x (some k)) (hc : isCur k x) : DInv k B R w0 x m b off c :=
  h.draw hk hB hR ⟨hg.os, hg.tape, hg.output, hg.size, hg.block⟩ hc
theorem DInv.cell {k B R : Nat} {w0 wr : World} {m : List Sl} {b off c : Nat} (h : DInv k B R w0 wr m b off c) : wr.cell? ⟨B, 0, none⟩ = some (.slice (some ⟨b, off, none⟩) m.length c) := block_cell1 h.box 0 _ rfl
theorem DInv.curd {k B R : Nat} {w0 wr : World} {m : List Sl} {b off c : Nat} (h : DInv k B R w0 wr m b off c) : isCur k wr.drew := h.cur.below (Below.drew (Below.refl _ _))
theorem DInv.size {k B R : Nat} {w0 wr : World} {m : List Sl} {b off c : Nat} (h : DInv k B R w0 wr m b off c) (hk : k < w0.heap.size) : k < wr.heap.size := Nat.lt_of_lt_of_le hk h.gr.size
theorem DInv.store {k B R : Nat} {w0 x y : World} {m m2 : List Sl} {b off c b2 off2 c2 : Nat} (h : DInv k B R w0 x m b off c) (hk : k < w0.heap.size) (hB : w0.heap.size ≤ B) (hBR : R < B) (hR : w0.heap.size ≤ R) (hm : tableOkB m2 = true) (hb : Below x.heap.size x y) (hlt : b2 < y.heap.size) (hrd : (∀ i, i < m2.length → ∀ j, j < layS.k → y.cell? ⟨b2, off2 + i * layS.k + j, none⟩ = (layS.cs (m2.getD i layS.d))[j]?)) (hloc : b2 = b ∨ x.heap.size ≤ b2) : DInv k B R w0 (y.setCell ⟨B, 0, none⟩ (.slice (some ⟨b2, off2, none⟩) m2.length c2)) m2 b2 off2 c2 := by
  have hb1 := (Array.getElem?_eq_some_iff.1 h.box).1
  have hr1 := (Array.getElem?_eq_some_iff.1 h.res).1
  have hbx := (hb.block B hb1).trans h.box
  have hrx := (hb.block R hr1).trans h.res
  have hne : b2 ≠ B := row_ne_box (by have := (tableOkB_iff.1 hm).1; omega) hbx hrd
  have hsx := h.gr.size
  have hge := h.ge
  have hb' : Below (k + 1) x (y.setCell ⟨B, 0, none⟩ (.slice (some ⟨b2, off2, none⟩) m2.length c2)) := (hb.mono (by omega)).setCell (p := ⟨B, 0, none⟩) (show k + 1 ≤ B by omega) _
  refine ⟨hm, h.cur.below hb', box_set1 y B 0 _ _ _ hbx, (Below.heap_setCell y ⟨B, 0, none⟩ _ R (by simp; omega)).trans hrx, by simpa using hlt, by omega, fun i hi j hj => (World.cell?_setCell_far _ _ _ _ (fun e => hne e.symm)).trans (hrd i hi j hj), ?_⟩
  have hw : Below w0.heap.size x (y.setCell ⟨B, 0, none⟩ (.slice (some ⟨b2, off2, none⟩) m2.length c2)) := (hb.mono hsx).setCell (p := ⟨B, 0, none⟩) hB _
  exact ⟨hw.os.trans h.gr.os, hw.tape.trans h.gr.tape, hw.output.trans h.gr.output, Nat.le_trans h.gr.size hw.size, fun i hi hn => (hw.block i hi).trans (h.gr.block i hi hn)⟩
theorem someFlow_ok {a p : Int} (ha : 1 ≤ a ∧ a ≤ 3) (hp : 80 ≤ p ∧ p ≤ 82) : flowOkB a p = true := flowOkB_iff.2 (by omega)
theorem dropL_ok {l : List Sl} {a p : Int} (h : tableOkB l = true) : tableOkB (dropL l a p) = true := by
  have hn := (tableOkB_iff.1 h).1
  rcases endL_cases l (by omega) a p with e | ⟨i, hi, ⟨e, _⟩ | ⟨e, _⟩⟩
  · rw [dropL_no (by rw [e])]; exact h
  · rw [dropL_no (by rw [e])]; exact h
  · rw [dropL_yes e]; exact dropAtL_ok h hi

theorem DInv.boxlt {k B R : Nat} {w0 wr : World} {m : List Sl} {b off c : Nat} (h : DInv k B R w0 wr m b off c) : B < wr.heap.size := (Array.getElem?_eq_some_iff.1 h.box).1
theorem DInv.frz {k B R : Nat} {w0 wr : World} {m : List Sl} {b off c : Nat} (h : DInv k B R w0 wr m b off c) : wr.frozen? ⟨B, 0, none⟩ = false := frozen_of h.box 0
theorem DInv.dropped {k B : Nat} {w x y : World} {m : List Sl} {a p : Int} {b off c b2 off2 c2 : Nat} (h : DInv k B w.heap.size w x m b off c) (hk : k < w.heap.size) (hB : w.heap.size < B) (hlt : b2 < y.heap.size) (hrd : (∀ i, i < (dropL m a p).length → ∀ j, j < layS.k → y.cell? ⟨b2, off2 + i * layS.k + j, none⟩ = (layS.cs ((dropL m a p).getD i layS.d))[j]?)) (hb : Below x.heap.size x y) (hloc : b2 = b ∨ x.heap.size ≤ b2) : DInv k B w.heap.size w (y.setCell ⟨B, 0, none⟩ (.slice (some ⟨b2, off2, none⟩) m.length c2)) (dropL m a p) b2 off2 c2 := by
  have h2 := h.store (c2 := c2) hk (Nat.le_of_lt hB) hB (Nat.le_refl _) (dropL_ok h.ok) hb hlt hrd hloc
  rwa [dropL_length] at h2
theorem DInv.putted {k B : Nat} {w x y : World} {m : List Sl} {a p v t : Int} {b off c b2 off2 c2 : Nat} (h : DInv k B w.heap.size w x m b off c) (hk : k < w.heap.size) (hB : w.heap.size < B) (hf : flowOkB a p = true) (hv0 : 0 ≤ v) (hv : v < 6) (ht0 : 0 ≤ t) (ht : t < 40) (hlt : b2 < y.heap.size) (hrd : (∀ i, i < (putL m a p v t).length → ∀ j, j < layS.k → y.cell? ⟨b2, off2 + i * layS.k + j, none⟩ = (layS.cs ((putL m a p v t).getD i layS.d))[j]?)) (hb : Below x.heap.size x y) (hloc : b2 = b ∨ x.heap.size ≤ b2) : DInv k B w.heap.size w (y.setCell ⟨B, 0, none⟩ (.slice (some ⟨b2, off2, none⟩) m.length c2)) (putL m a p v t) b2 off2 c2 := by
  have h2 := h.store (c2 := c2) hk (Nat.le_of_lt hB) hB (Nat.le_refl _) (putL_ok h.ok hf ⟨hv0, by omega⟩ ⟨ht0, by omega⟩) hb hlt hrd hloc
  rwa [putL_length] at h2
theorem DInv.ended {k B : Nat} {w x y : World} {m : List Sl} {b off c : Nat} (h : DInv k B w.heap.size w x m b off c) (hk : k < w.heap.size) (hb : Below x.heap.size x y) (v : Value) : isCur k (y.setCell ⟨w.heap.size, 0, none⟩ v) ∧ w.grownBy (y.setCell ⟨w.heap.size, 0, none⟩ v) (some k) := by
  have hs := h.gr.size
  have h1 : Below w.heap.size x (y.setCell ⟨w.heap.size, 0, none⟩ v) := (hb.mono hs).setCell (p := ⟨w.heap.size, 0, none⟩) (Nat.le_refl _) v
  refine ⟨h.cur.below (h1.mono hk), h1.os.trans h.gr.os, h1.tape.trans h.gr.tape, h1.output.trans h.gr.output, Nat.le_trans hs h1.size, fun i hi hn => (h1.block i hi).trans (h.gr.block i hi hn)⟩
theorem new_ok {n : Int} (h1 : 1 ≤ n) (h2 : n ≤ 16) : tableOkB (newM n) = true := by
  have e : newM n = List.replicate n.toNat sl0 := by unfold newM; rw [if_pos ⟨h1, h2⟩]
  rw [e]
  refine tableOkB_iff.2 ⟨by rw [List.length_replicate]; omega, by rw [List.length_replicate]; omega, fun i hi => ?_⟩
  rw [List.length_replicate] at hi
  have e2 : (List.replicate n.toNat sl0).getD i sl0 = sl0 := by simp [List.getD_eq_getElem?_getD, List.getElem?_replicate, hi]
  exact tabAt_free (by rw [e2] <;> rfl) (by rw [e2] <;> rfl)
set_option maxHeartbeats 8000000 in
theorem l5draw_any (k : Nat) (w : World) (hc : isCur k w) (hk : k < w.heap.size) :
    Calls Try.prog 99 #[.pointer (some ⟨k, 0, none⟩)] w fun e w' => ∃ v' m, e = .returned v' ∧ tableOkB m = true ∧ InT w.heap.size w'.heap.size w' v' m ∧ isCur k w' ∧ w.grownBy w' (some k) := by
  obtain ⟨W0, hW0⟩ : ∃ W, w.alloc (.cells #[.slice none 0 0] 25) = W := ⟨_, rfl⟩
  have hb0 : Below w.heap.size w W0 := by rw [← hW0]; exact (Below.refl _ _).alloc (Nat.le_refl _) _
  have hg0 : w.grownBy W0 (some k) := by rw [← hW0]; exact World.grownBy_alloc w _ _
  have HR0 : Hid (W0.heap[w.heap.size]? = some (.cells #[.slice none 0 0] 25 (0, 0))) := by rw [← hW0]; exact World.alloc_heap_new w _
  have hs0 : w.heap.size < W0.heap.size := by rw [← hW0]; simp
  have HC0 := hide (hc.below (hb0.mono hk))
  have HG0 := hide hg0
  clear hb0 hg0 hc
  go_enter Try.func99, Try.ntmps99
  go_wp2_with fail
  refine (l1Below_any k 8 W0 HC0.out (by decide) (by decide)).mono ?_
  rintro e v1 ⟨x, rfl, x0, x8, hc1, hg1⟩
  have HC1 := hide hc1
  have HG1 := hide (grownBy_then HG0.out hg1)
  have HR1 : Hid (v1.heap[w.heap.size]? = some (.cells #[.slice none 0 0] 25 (0, 0))) := (hg1.block _ hs0 (by simp; omega)).trans HR0.out
  have hs1 : w.heap.size < v1.heap.size := Nat.lt_of_lt_of_le hs0 hg1.size
  clear hc1 hg1 HR0 HC0 HG0 hW0 hs0
  go_wp2_with fail
  refine (specTableNew_any (1 + x) v1).mono ?_
  rintro e v2 ⟨vt, rfl, ⟨vl, rfl, hrow, _⟩, hb2⟩
  have HK := hide (new_ok (n := 1 + x) (by omega) (by omega))
  generalize newB (1 + x) = fb
  obtain ⟨m, hm⟩ : ∃ m, newM (1 + x) = m := ⟨_, rfl⟩
  rw [hm] at hrow HK
  clear hm
  obtain ⟨g, cap, rfl⟩ : ∃ g cap, vl = .slice (some ⟨g, 0, none⟩) m.length cap := by
    rcases hrow.2 with ⟨h1, h2⟩ | ⟨g, cap, cur, h1, _⟩
    · have := (tableOkB_iff.1 HK.out).1; omega
    · exact ⟨g, cap, h1⟩
  have hgl := hrow.lt g rfl
  obtain ⟨W3, hW3⟩ : ∃ W, v2.alloc (.cells #[.slice (some ⟨g, 0, none⟩) m.length cap] 25) = W := ⟨_, rfl⟩
  have hs2 := hb2.size
  have hb3 : Below v2.heap.size v2 W3 := by rw [← hW3]; exact (Below.refl _ _).alloc (Nat.le_refl _) _
  have hg3 : v1.grownBy W3 (some k) := by
    have h : Below v1.heap.size v1 W3 := hb2.trans (hb3.mono hs2)
    exact ⟨h.os, h.tape, h.output, h.size, fun i hi _ => h.block i hi⟩
  have HI3 : Hid (DInv k v2.heap.size w.heap.size w W3 m g 0 cap) := by
    have h13 : Below v1.heap.size v1 W3 := hb2.trans (hb3.mono hs2)
    refine ⟨HK.out, HC1.out.below (h13.mono (by omega)), by rw [← hW3]; exact World.alloc_heap_new v2 _, (h13.block _ hs1).trans HR1.out, Nat.lt_of_lt_of_le hgl.2 hb3.size, by omega, fun i hi j hj => (hb3.cell (p := ⟨g, 0 + i * layS.k + j, none⟩) hgl.2).trans (rd_of_own hrow rfl i hi j hj), grownBy_then HG1.out hg3⟩
  have hBw : w.heap.size < v2.heap.size := by omega
  generalize hBq : v2.heap.size = B at *
  clear hb2 hb3 hg3 hrow hgl HR1 HC1 HG1 HK hs2 hs1
  go_wp2_with fail
  refine (l1Below_any k 10 W3 HI3.out.cur (by decide) (by decide)).mono ?_
  rintro e v4 ⟨n2, rfl, n0, n10, hc4, hg4⟩
  have HI4 := hide (HI3.out.draw0 hk (Nat.le_of_lt hBw) (Nat.le_refl _) hg4 hc4)
  clear hc4 hg4 HI3 hW3 hBq
  go_wp2
  go_loopw [6] (fun iv wr => ∃ (i : Nat) (m : List Sl) (b off c : Nat), (i : Int) ≤ n2 ∧ iv = .int .i64 i ∧ Hid (DInv k B w.heap.size w wr m b off c))
    (fun iv _ => n2.toNat - (intOf iv).toNat)
  case atStart => exact ⟨0, m, g, 0, cap, n0, rfl, HI4⟩
  case round =>
    clear HI4
    obtain ⟨i, m, b, off, c, hi, rfl, HI⟩ := hrel
    have h1 := (tableOkB_iff.1 HI.out.ok).1
    have h16 := (tableOkB_iff.1 HI.out.ok).2.1
    by_cases hlt : (i : Int) < n2
    · go_wp2_with fail
      refine (l1Once_any k 4 wr HI.out.cur (by decide) (by decide)).mono ?_
      rintro e v5 ⟨y, rfl, hc5, hg5⟩
      have HI5 := hide (HI.out.draw0 hk (Nat.le_of_lt hBw) (Nat.le_refl _) hg5 hc5)
      have ct := HI5.out.cell
      have hk5 := HI5.out.size hk
      clear hc5 hg5 HI
      cases y with
      | true =>
        go_wp2
        go_region_with (first | (go_at_call 101; have hc_ := l1someFlow_any k v5.drew HI5.out.curd hk5; with_reducible refine hc_.mono ?_; clear hc_; rintro e x0 ⟨fa, fp, rfl, ha, hp, hcx, hgx⟩; have I0 := hide (HI5.out.draw hk (Nat.le_of_lt hBw) (Nat.le_refl _) hgx hcx); have k0 := I0.out.cell; have hF := hide (someFlow_ok ha hp); clear hcx hgx) | (go_at_call 89; have hc_ := l5dropW_any b off c m fa fp x0 (by omega) h16 hF.out (flowsOk_of I0.out.ok) I0.out.lt I0.out.rd; with_reducible refine hc_.mono ?_; clear hc_; rintro e x1 ⟨b2, off2, c2, rfl, hb2, hr2, hB2, hl2⟩; have k1 := (hB2.cell (p := ⟨B, 0, none⟩) I0.out.boxlt).trans k0; have f1 := (hB2.frozen (p := ⟨B, 0, none⟩) I0.out.boxlt).trans I0.out.frz; have HS := hide (I0.out.dropped (c2 := c2) hk hBw hb2 hr2 hB2 hl2); clear hb2 hr2 hB2 hl2))
        all_goals (
          go_wp2
          go_roundw
          case rel => exact ⟨i + 1, _, b2, off2, c2, by omega, by go_num, HS.out⟩
          case measure => simp [intOf]; omega)
      | false =>
        go_wp2
        go_region_with (first | (go_at_call 101; have hc_ := l1someFlow_any k v5.drew HI5.out.curd hk5; with_reducible refine hc_.mono ?_; clear hc_; rintro e x0 ⟨fa, fp, rfl, ha, hp, hcx, hgx⟩; have I0 := hide (HI5.out.draw hk (Nat.le_of_lt hBw) (Nat.le_refl _) hgx hcx); have k0 := I0.out.cell; have hF := hide (someFlow_ok ha hp); clear hcx hgx) | (go_at_call 57; have hc_ := l1Below_any k 6 x0 I0.out.cur (by decide) (by decide); with_reducible refine hc_.mono ?_; clear hc_; rintro e x1 ⟨av, rfl, av0, av6, hcx, hgx⟩; have I1 := hide (I0.out.draw0 hk (Nat.le_of_lt hBw) (Nat.le_refl _) hgx hcx); have k1 := I1.out.cell; clear hcx hgx) | (go_at_call 57; have hc_ := l1Below_any k 40 x1 I1.out.cur (by decide) (by decide); with_reducible refine hc_.mono ?_; clear hc_; rintro e x2 ⟨tv, rfl, tv0, tv40, hcx, hgx⟩; have I2 := hide (I1.out.draw0 hk (Nat.le_of_lt hBw) (Nat.le_refl _) hgx hcx); have k2 := I2.out.cell; clear hcx hgx) | (go_at_call 87; have hc_ := l5putW_any b off c m fa fp av tv x2 (by omega) (by omega) hF.out I2.out.lt I2.out.rd; with_reducible refine hc_.mono ?_; clear hc_; rintro e x3 ⟨b2, off2, c2, rfl, hb2, hr2, hB2, hl2⟩; have k3 := (hB2.cell (p := ⟨B, 0, none⟩) I2.out.boxlt).trans k2; have f3 := (hB2.frozen (p := ⟨B, 0, none⟩) I2.out.boxlt).trans I2.out.frz; have HS := hide (I2.out.putted (c2 := c2) hk hBw hF.out av0 av6 tv0 tv40 hb2 hr2 hB2 hl2); clear hb2 hr2 hB2 hl2))
        all_goals (
          go_wp2
          go_roundw
          case rel => exact ⟨i + 1, _, b2, off2, c2, by omega, by go_num, HS.out⟩
          case measure => simp [intOf]; omega)
    · have e : (i : Int) = n2 := by omega
      have ct := HI.out.cell
      have hi2 : decide ((i : Int) < n2) = false := decide_eq_false hlt
      have hown := l5own_any b off c m wr HI.out.lt HI.out.rd (by omega)
      have hrl : w.heap.size < wr.heap.size := (Array.getElem?_eq_some_iff.1 HI.out.res).1
      clear e
      go_wp2_with fail
      refine hown.mono ?_
      rintro e y ⟨o2, c2, rfl, ho, hby⟩
      have HE := hide (HI.out.ended hk hby (.slice o2 m.length c2))
      have cr0 := block_cell1 ((hby.block _ hrl).trans HI.out.res) 0 _ rfl
      have fr0 := frozen_of ((hby.block _ hrl).trans HI.out.res) 0
      have HO := hide ho
      have hok := hide HI.out.ok
      have hsz := hide HI.out.gr.size
      clear hown ho hby ct HI
      go_wp2
      refine bodyPost_ret (v := tab (.slice o2 m.length c2)) (by simp [results, Try.results99, go_sem, cr0]) rfl ⟨_, m, rfl, hok.out, ⟨_, rfl, ?_⟩, HE.out.1, HE.out.2⟩
      have h := ownsRow_setCell_below HO.out (a := ⟨w.heap.size, 0, none⟩) hrl (.slice o2 m.length c2)
      exact InRow.of (own_mono h hsz.out)

end Go.Proofs.Ytncdjmniphnpgaa
