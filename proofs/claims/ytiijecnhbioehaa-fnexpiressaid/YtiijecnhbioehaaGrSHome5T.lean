/- Several texts in one: SWhere5T, SHome5T. -/
import Derived.Test.YtiijecnhbioehaaGrSBent5T
import Derived.Test.YtiijecnhbioehaaSFlows
import Derived.Test.YtiijecnhbioehaaGrSDraw7
/- A flow drawn beside a table. -/
namespace Go.Proofs.Ytiijecnhbioehaa
open Go.ChangeShapes Go.WideShapes Go.ChangeAt Go.RowKit Go.Joins
set_option linter.unusedVariables false
set_option linter.unusedSimpArgs false

structure FInv (k R : Nat) (w0 wr : World) : Prop where
  cur : isCur k wr
  res : wr.heap[R]? = some (.cells #[.int .i64 0, .int .i64 0] 27 (0, 0))
  gr : w0.grownBy wr (some k)
theorem FInv.draw {k R : Nat} {w0 wr x : World} (h : FInv k R w0 wr) (hk : k < w0.heap.size) (hR : w0.heap.size ≤ R) (hg : wr.grownBy x (some k)) (hc : isCur k x) : FInv k R w0 x := by
  have hr1 := (Array.getElem?_eq_some_iff.1 h.res).1
  exact ⟨hc, (hg.block R hr1 (by simp; omega)).trans h.res, grownBy_then h.gr hg⟩
theorem FInv.facts {k R : Nat} {w0 wr : World} (h : FInv k R w0 wr) : wr.cell? ⟨R, 0, none⟩ = some (.int .i64 0) ∧ wr.cell? ⟨R, 1, none⟩ = some (.int .i64 0) ∧ wr.frozen? ⟨R, 0, none⟩ = false ∧ wr.frozen? ⟨R, 1, none⟩ = false := ⟨block_cell1 h.res 0 _ rfl, block_cell1 h.res 1 _ rfl, frozen_of h.res 0, frozen_of h.res 1⟩
theorem FInv.done {k R : Nat} {w0 wr : World} (h : FInv k R w0 wr) (hk : k < w0.heap.size) (hR : w0.heap.size ≤ R) (a b : Value) : isCur k ((wr.setCell ⟨R, 0, none⟩ a).setCell ⟨R, 1, none⟩ b) ∧ w0.grownBy ((wr.setCell ⟨R, 0, none⟩ a).setCell ⟨R, 1, none⟩ b) (some k) := by
  have hbl : Below w0.heap.size wr ((wr.setCell ⟨R, 0, none⟩ a).setCell ⟨R, 1, none⟩ b) := (((Below.refl _ _).mono h.gr.size).setCell (p := ⟨R, 0, none⟩) hR _).setCell (p := ⟨R, 1, none⟩) hR _
  exact ⟨h.cur.below (hbl.mono hk), hbl.os.trans h.gr.os, hbl.tape.trans h.gr.tape, hbl.output.trans h.gr.output, Nat.le_trans h.gr.size hbl.size, fun q hq hn => (hbl.block q hq).trans (h.gr.block q hq hn)⟩

set_option maxHeartbeats 4000000 in
theorem l5where_any (k : Nat) (o : Option Addr) (c : Nat) (l : List Sl) (w : World) (hc : isCur k w) (hk : k < w.heap.size) (hR : RdS w.heap.size w o l) (hl : l.length ≤ 1048576) :
    Calls Try.prog 73 #[.pointer (some ⟨k, 0, none⟩), tab (.slice o l.length c)] w fun e w' => ∃ a p, e = .returned (flow a p) ∧ isCur k w' ∧ w.grownBy w' (some k) := by
  obtain ⟨W0, hW0⟩ : ∃ W, (w.alloc (.cells #[.slice o l.length c] 25)).alloc (.cells #[.int .i64 0, .int .i64 0] 27) = W := ⟨_, rfl⟩
  have hb0 : Below w.heap.size w W0 := by rw [← hW0]; exact ((Below.refl _ _).alloc (Nat.le_refl _) _).alloc (by simp) _
  have ct0 : W0.cell? ⟨w.heap.size, 0, none⟩ = some (.slice o l.length c) := by rw [← hW0]; simp [go_sem]
  have HR0 : Hid (W0.heap[w.heap.size + 1]? = some (.cells #[.int .i64 0, .int .i64 0] 27 (0, 0))) := by
    have h := World.alloc_heap_new (w.alloc (.cells #[.slice o l.length c] 25)) (.cells #[.int .i64 0, .int .i64 0] 27)
    rw [World.size_alloc] at h
    rw [← hW0]; exact h
  have hs0 : w.heap.size + 1 < W0.heap.size := by rw [← hW0]; simp
  have hff := specFlowsOf_any o c l W0 ((hR.kept hb0 (Nat.le_refl _)).le hb0.size) hl
  have HB0 := hide hb0
  have HC := hide hc
  have hfld := fun (a b f s : Int) (v : Value) (w : World) => fieldFlow a b f s v w
  clear hb0 hc hR
  go_enter Try.func73, Try.ntmps73
  go_wp2_with fail
  refine hff.mono ?_
  rintro e v1 ⟨vf, rfl, hown, hb1⟩
  have HI : Hid (FInv k (w.heap.size + 1) w v1) := by
    have hb : Below w.heap.size w v1 := HB0.out.trans (hb1.mono HB0.out.size)
    exact ⟨HC.out.below (hb.mono hk), (hb1.block _ hs0).trans HR0.out, hb.os, hb.tape, hb.output, hb.size, fun i hi _ => hb.block i hi⟩
  have hlen := hide (show (flowsM l).length ≤ l.length by
    unfold flowsM
    split
    · rw [sortF_length, flowsTo_len]; exact countTo_le l l.length
    · exact Nat.zero_le _)
  generalize flowsM l = fs at *
  obtain ⟨o2, c2, hve, _⟩ := ownL.open (L := layF) hown
  subst hve
  have HO := hide hown
  have hkR : w.heap.size ≤ w.heap.size + 1 := Nat.le_succ _
  have hWs := hide (show k < W0.heap.size by omega)
  clear hown hff hb1 HB0 HC HR0 hs0 hW0 ct0
  obtain ⟨n, hn⟩ : ∃ n, fs.length = n := ⟨_, rfl⟩
  rw [hn]
  have HN := hide hn
  have hnl : n ≤ 1048576 := by have := hlen.out; omega
  clear hn
  by_cases hn0 : n = 0
  · subst hn0
    go_wp2_with fail
    refine (l1Once_any k 9 v1 HI.out.cur (by decide) (by decide)).mono ?_
    rintro e v4 ⟨y4, rfl, hc4, hg4⟩
    have HI4 := hide (HI.out.draw hk hkR hg4 hc4)
    have hk4 : k < v4.heap.size := Nat.lt_of_lt_of_le hk HI4.out.gr.size
    clear hc4 hg4
    cases y4 with
    | true =>
      go_wp2_with fail
      refine (l1bent_any k v4 HI4.out.cur hk4).mono ?_
      rintro e v5 ⟨ba, bp, bf, bs, bv, bL, rfl, _, _, _, hc5, hg5⟩
      have HI5 := hide (HI4.out.draw hk hkR hg5 hc5)
      clear hc5 hg5
      have HF := HI5.out.facts
      have r0 := HF.1
      have r1 := HF.2.1
      have g0 := HF.2.2.1
      have g1 := HF.2.2.2
      have HD := hide (HI5.out.done hk hkR (.int .i64 ba) (.int .i64 bp))
      clear HF
      go_wp2
      refine bodyPost_ret (v := flow ba bp) (by simp [results, Try.results73, go_sem, r0, r1]) rfl ⟨_, _, rfl, HD.out.1, HD.out.2⟩
    | false =>
      go_wp2_with fail
      refine (l1someFlow_any k v4 HI4.out.cur hk4).mono ?_
      rintro e v5 ⟨ba, bp, rfl, _, _, hc5, hg5⟩
      have HI5 := hide (HI4.out.draw hk hkR hg5 hc5)
      clear hc5 hg5
      have HF := HI5.out.facts
      have r0 := HF.1
      have r1 := HF.2.1
      have g0 := HF.2.2.1
      have g1 := HF.2.2.2
      have HD := hide (HI5.out.done hk hkR (.int .i64 ba) (.int .i64 bp))
      clear HF
      go_wp2
      refine bodyPost_ret (v := flow ba bp) (by simp [results, Try.results73, go_sem, r0, r1]) rfl ⟨_, _, rfl, HD.out.1, HD.out.2⟩
  · have hnp : (0 : Int) < (n : Int) := by omega
    have hnd : decide ((n : Int) > 0) = true := decide_eq_true hnp
    obtain ⟨g, rfl, hcc, hgw⟩ : ∃ g, o2 = some ⟨g, 0, none⟩ ∧ fs.length ≤ c2 ∧ g < v1.heap.size := by
      rcases own_some HO.out with ⟨_, h, _⟩ | h
      · have := HN.out; rw [h] at this; simp at this; omega
      · exact h
    clear hcc
    go_wp2_with fail
    refine (l1Once_any k 2 v1 HI.out.cur (by decide) (by decide)).mono ?_
    rintro e v2 ⟨y, rfl, hc2, hg2⟩
    have HI2 := hide (HI.out.draw hk hkR hg2 hc2)
    have HO2 : Hid (ownL layF 27 v2 W0.heap.size (.slice (some ⟨g, 0, none⟩) fs.length c2) fs) := World.ownsRow.kept HO.out hg2 (.inr (by have := (HO.out.lt g rfl).1; have := hWs.out; simp [Value.ownBlock]; omega))
    clear hc2 hg2 HI HO
    cases y with
    | true =>
      go_wp2_with fail
      refine (l1Below_any k (n : Int) v2 HI2.out.cur (by omega) (by omega)).mono ?_
      rintro e v3 ⟨jz, rfl, j0, j1, hc3, hg3⟩
      obtain ⟨j, rfl⟩ : ∃ j : Nat, jz = j := ⟨jz.toNat, by omega⟩
      have HI3 := hide (HI2.out.draw hk hkR hg3 hc3)
      have HO3 : Hid (ownL layF 27 v3 W0.heap.size (.slice (some ⟨g, 0, none⟩) fs.length c2) fs) := World.ownsRow.kept HO2.out hg3 (.inr (by have := (HO2.out.lt g rfl).1; have := hWs.out; simp [Value.ownBlock]; omega))
      have hrr := rd_rowF HO3.out j (by have := HN.out; omega)
      obtain ⟨⟨xa, xp⟩, hxx⟩ : ∃ xx, fs.getD j (0, 0) = xx := ⟨_, rfl⟩
      rw [hxx] at hrr
      have q0 := hrr.1
      have q1 := hrr.2
      simp only at q0 q1
      clear hrr hxx hc3 hg3 HI2 HO2
      have HF := HI3.out.facts
      have r0 := HF.1
      have r1 := HF.2.1
      have g0 := HF.2.2.1
      have g1 := HF.2.2.2
      have HD := hide (HI3.out.done hk hkR (.int .i64 xa) (.int .i64 xp))
      clear HF
      go_wp2
      refine bodyPost_ret (v := flow xa xp) (by simp [results, Try.results73, go_sem, r0, r1]) rfl ⟨_, _, rfl, HD.out.1, HD.out.2⟩
    | false =>
      go_wp2_with fail
      refine (l1Once_any k 9 v2 HI2.out.cur (by decide) (by decide)).mono ?_
      rintro e v4 ⟨y4, rfl, hc4, hg4⟩
      have HI4 := hide (HI2.out.draw hk hkR hg4 hc4)
      have hk4 : k < v4.heap.size := Nat.lt_of_lt_of_le hk HI4.out.gr.size
      clear hc4 hg4
      cases y4 with
      | true =>
        go_wp2_with fail
        refine (l1bent_any k v4 HI4.out.cur hk4).mono ?_
        rintro e v5 ⟨ba, bp, bf, bs, bv, bL, rfl, _, _, _, hc5, hg5⟩
        have HI5 := hide (HI4.out.draw hk hkR hg5 hc5)
        clear hc5 hg5
        have HF := HI5.out.facts
        have r0 := HF.1
        have r1 := HF.2.1
        have g0 := HF.2.2.1
        have g1 := HF.2.2.2
        have HD := hide (HI5.out.done hk hkR (.int .i64 ba) (.int .i64 bp))
        clear HF
        go_wp2
        refine bodyPost_ret (v := flow ba bp) (by simp [results, Try.results73, go_sem, r0, r1]) rfl ⟨_, _, rfl, HD.out.1, HD.out.2⟩
      | false =>
        go_wp2_with fail
        refine (l1someFlow_any k v4 HI4.out.cur hk4).mono ?_
        rintro e v5 ⟨ba, bp, rfl, _, _, hc5, hg5⟩
        have HI5 := hide (HI4.out.draw hk hkR hg5 hc5)
        clear hc5 hg5
        have HF := HI5.out.facts
        have r0 := HF.1
        have r1 := HF.2.1
        have g0 := HF.2.2.1
        have g1 := HF.2.2.2
        have HD := hide (HI5.out.done hk hkR (.int .i64 ba) (.int .i64 bp))
        clear HF
        go_wp2
        refine bodyPost_ret (v := flow ba bp) (by simp [results, Try.results73, go_sem, r0, r1]) rfl ⟨_, _, rfl, HD.out.1, HD.out.2⟩

end Go.Proofs.Ytiijecnhbioehaa

/- A table and a flow, drawn. -/
namespace Go.Proofs.Ytiijecnhbioehaa
open Go.ChangeShapes Go.WideShapes Go.ChangeAt Go.RowKit Go.Joins
set_option linter.unusedVariables false
set_option linter.unusedSimpArgs false

theorem home_end {w x : World} {v : Value} {m : List Sl} {lo hi : Nat} (hI : InT lo hi x v m) (hlo : w.heap.size + 1 < lo) (hhi : hi ≤ x.heap.size) (hb : Below w.heap.size w x) (a b c : Value) :
    InT w.heap.size (((x.setCell ⟨w.heap.size, 0, none⟩ a).setCell ⟨w.heap.size + 1, 0, none⟩ b).setCell ⟨w.heap.size + 1, 1, none⟩ c).heap.size (((x.setCell ⟨w.heap.size, 0, none⟩ a).setCell ⟨w.heap.size + 1, 0, none⟩ b).setCell ⟨w.heap.size + 1, 1, none⟩ c) v m ∧ Below w.heap.size w (((x.setCell ⟨w.heap.size, 0, none⟩ a).setCell ⟨w.heap.size + 1, 0, none⟩ b).setCell ⟨w.heap.size + 1, 1, none⟩ c) := by
  refine ⟨(((hI.step (stp_set x w.heap.size 0 a) (by omega)).step (stp_set _ (w.heap.size + 1) 0 b) (by omega)).step (stp_set _ (w.heap.size + 1) 1 c) (by omega)).mono (by omega) (by simpa using hhi), ?_⟩
  exact ((hb.setCell (p := ⟨w.heap.size, 0, none⟩) (Nat.le_refl _) _).setCell (p := ⟨w.heap.size + 1, 0, none⟩) (Nat.le_succ _) _).setCell (p := ⟨w.heap.size + 1, 1, none⟩) (Nat.le_succ _) _
theorem home_kept {x y : World} {v : Value} {m : List Sl} {lo hi k : Nat} (hI : InT lo hi x v m) (hg : x.drew.grownBy y (some k)) (hk : k < lo) : InT lo hi y v m :=
  hI.step (lo := k) (hi := k + 1) (Stp.grown (w := x) (r := some k) ⟨hg.os, hg.tape, hg.output, hg.size, hg.block⟩ (fun b e => by cases e; exact ⟨Nat.le_refl _, Nat.lt_succ_self _⟩)) (.inl hk)

theorem home_below {w x y : World} {k : Nat} (hb : Below w.heap.size w x) (hg : x.drew.grownBy y (some k)) (hk : w.heap.size ≤ k) : Below w.heap.size w y :=
  hb.trans ⟨hg.os, hg.tape, hg.output, hg.size, fun i hi => hg.block i (Nat.lt_of_lt_of_le hi hb.size) (by simp; omega)⟩
theorem home_cells {w x y : World} {k B : Nat} {v : Value} {T1 T2 T3 : TypeId} (hX : x.heap[B]? = some (.cells #[v] T1 (0, 0))) (hT : x.heap[w.heap.size]? = some (.cells #[.slice none 0 0] T2 (0, 0))) (hF : x.heap[w.heap.size + 1]? = some (.cells #[.int .i64 0, .int .i64 0] T3 (0, 0))) (hg : x.drew.grownBy y (some k)) (h1 : B ≠ k) (h2 : w.heap.size ≠ k) (h3 : w.heap.size + 1 ≠ k) :
    y.cell? ⟨B, 0, none⟩ = some v ∧ y.cell? ⟨w.heap.size, 0, none⟩ = some (.slice none 0 0) ∧ y.frozen? ⟨w.heap.size, 0, none⟩ = false ∧ y.cell? ⟨w.heap.size + 1, 0, none⟩ = some (.int .i64 0) ∧ y.cell? ⟨w.heap.size + 1, 1, none⟩ = some (.int .i64 0) ∧ y.frozen? ⟨w.heap.size + 1, 0, none⟩ = false ∧ y.frozen? ⟨w.heap.size + 1, 1, none⟩ = false := by
  have a1 := (hg.block B (Array.getElem?_eq_some_iff.1 hX).1 (by simp; omega)).trans hX
  have a2 := (hg.block w.heap.size (Array.getElem?_eq_some_iff.1 hT).1 (by simp; omega)).trans hT
  have a3 := (hg.block (w.heap.size + 1) (Array.getElem?_eq_some_iff.1 hF).1 (by simp; omega)).trans hF
  exact ⟨block_cell1 a1 0 _ rfl, block_cell1 a2 0 _ rfl, frozen_of a2 0, block_cell1 a3 0 _ rfl, block_cell1 a3 1 _ rfl, frozen_of a3 0, frozen_of a3 1⟩

set_option maxHeartbeats 4000000 in
theorem drawHome_any (o : Option Addr) (cap : Nat) (l : List Int) (w : World) (hR : Rd w o l) (hB8 : isB l) (hm : l.length ≤ maxLen) :
    Calls Try.prog 32 #[.slice o l.length cap] w fun e w' => ∃ v m a p, e = .returned (.tuple #[v, flow a p]) ∧ (1 ≤ m.length ∧ m.length ≤ 16) ∧ InT w.heap.size w'.heap.size w' v m ∧ Below w.heap.size w w' := by
  obtain ⟨W0, hW0⟩ : ∃ W, (w.alloc (.cells #[.slice none 0 0] 25)).alloc (.cells #[.int .i64 0, .int .i64 0] 27) = W := ⟨_, rfl⟩
  have hb0 : Below w.heap.size w W0 := by rw [← hW0]; exact ((Below.refl _ _).alloc (Nat.le_refl _) _).alloc (by simp) _
  have HT0 : Hid (W0.heap[w.heap.size]? = some (.cells #[.slice none 0 0] 25 (0, 0))) := by
    rw [← hW0]; exact (Below.heap_alloc _ _ _ (by simp)).trans (World.alloc_heap_new w _)
  have HF0 : Hid (W0.heap[w.heap.size + 1]? = some (.cells #[.int .i64 0, .int .i64 0] 27 (0, 0))) := by
    have h := World.alloc_heap_new (w.alloc (.cells #[.slice none 0 0] 25)) (.cells #[.int .i64 0, .int .i64 0] 27)
    rw [World.size_alloc] at h
    rw [← hW0]; exact h
  have hs0 : w.heap.size + 1 < W0.heap.size := by rw [← hW0]; simp
  have hnew := l1New_any o cap l W0 (Rd.kept hR hb0) hB8 hm
  have HB0 := hide hb0
  clear hb0 hR
  go_enter Try.func32, Try.ntmps32
  go_wp2_with fail
  refine hnew.mono ?_
  rintro e v1 ⟨rfl, hc1, hb1, hk1⟩
  have HC1 := hide hc1
  have HB1 := hide (HB0.out.trans (hb1.mono HB0.out.size))
  have HT1 : Hid (v1.heap[w.heap.size]? = some (.cells #[.slice none 0 0] 25 (0, 0))) := (hb1.block _ (by omega)).trans HT0.out
  have HF1 : Hid (v1.heap[w.heap.size + 1]? = some (.cells #[.int .i64 0, .int .i64 0] 27 (0, 0))) := (hb1.block _ hs0).trans HF0.out
  generalize W0.heap.size = K at *
  clear hnew hc1 hb1 HT0 HF0 HB0 hW0
  go_wp2_with fail
  refine (l5bent_any K v1 HC1.out hk1).mono ?_
  rintro e v2 ⟨vt, m, rfl, hln, hin, hc2, hg2⟩
  have hs2 := hg2.size
  obtain ⟨ot, ct, hve⟩ := InT.opn hin
  subst hve
  obtain ⟨W3, hW3⟩ : ∃ W, v2.alloc (.cells #[.slice ot m.length ct] 25) = W := ⟨_, rfl⟩
  have hb3 : Below v2.heap.size v2 W3 := by rw [← hW3]; exact (Below.refl _ _).alloc (Nat.le_refl _) _
  have hs3 := hb3.size
  have HI3 : Hid (InT v1.heap.size v2.heap.size W3 (tab (.slice ot m.length ct)) m) := hin.step (Stp.of (lo := 0) (hi := 0) hb3) (.inl (Nat.zero_le _))
  have HC3 := hide (hc2.below (hb3.mono (by omega)))
  have hbx : W3.heap[v2.heap.size]? = some (.cells #[.slice ot m.length ct] 25 (0, 0)) := by rw [← hW3]; exact World.alloc_heap_new v2 _
  have HX3 := hide hbx
  have c3 := block_cell1 hbx 0 _ rfl
  have HT3 : Hid (W3.heap[w.heap.size]? = some (.cells #[.slice none 0 0] 25 (0, 0))) := (hb3.block _ (by omega)).trans ((hg2.block _ (by omega) (by simp; omega)).trans HT1.out)
  have HF3 : Hid (W3.heap[w.heap.size + 1]? = some (.cells #[.int .i64 0, .int .i64 0] 27 (0, 0))) := (hb3.block _ (by omega)).trans ((hg2.block _ (by omega) (by simp; omega)).trans HF1.out)
  have HB3 : Hid (Below w.heap.size w W3) := (HB1.out.grown hg2 HB1.out.size (fun q h => by cases h; omega)).trans (hb3.mono (by omega))
  have hk3 : K < W3.heap.size := by omega
  have hB : v2.heap.size < W3.heap.size := by rw [← hW3]; simp
  have hRd : Hid (RdS W3.heap.size W3 ot m) := by
    obtain ⟨vl, e1, o', c', e2, r⟩ := HI3.out.rd
    injection e1 with e1
    simp at e1
    rw [e2] at e1
    injection e1 with e3 _ _
    subst e3
    exact r.le (by omega)
  clear hin hc2 hg2 hb3 hbx HT1 HF1 HB1 HC1
  go_wp2
  go_region_with (first | (go_at_call 73; have hc_ := l5where_any K ot ct m W3.drew (HC3.out.below (Below.drew (Below.refl _ _))) hk3 (hRd.out.kept (Below.drew (Below.refl _ _)) (Nat.le_refl _)) (by omega); with_reducible refine hc_.mono ?_; clear hc_; rintro e x0 ⟨fa, fp, rfl, hcx, hgx⟩; have hsx := hgx.size; have HIx := hide (home_kept HI3.out hgx (by omega)); have hx3 := home_cells HX3.out HT3.out HF3.out hgx (by omega) (by omega) (by omega); have c0 := hx3.1; have t0 := hx3.2.1; have t1 := hx3.2.2.1; have r0 := hx3.2.2.2.1; have r1 := hx3.2.2.2.2.1; have g0 := hx3.2.2.2.2.2.1; have g1 := hx3.2.2.2.2.2.2; have HBx := hide (home_below HB3.out hgx (by omega)); clear hcx hgx hx3))
  all_goals (
    have HE := hide (home_end HIx.out (by omega) (by have := hsx; simp at this; omega) HBx.out (.slice ot m.length ct) (.int .i64 fa) (.int .i64 fp))
    go_wp2
    refine bodyPost_ret (v := .tuple #[tab (.slice ot m.length ct), flow fa fp]) (by simp [results, Try.results32, go_sem, t0, r0, r1]) rfl ⟨_, m, _, _, rfl, hln, HE.out.1, HE.out.2⟩)

end Go.Proofs.Ytiijecnhbioehaa

