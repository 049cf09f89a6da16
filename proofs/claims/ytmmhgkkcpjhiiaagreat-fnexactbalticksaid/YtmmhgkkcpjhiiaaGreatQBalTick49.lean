/- The walk of the law beside. -/
import Derived.Deep.RegionHeld3
import Derived.Deep.CutRange
import Derived.Test.YtmmhgkkcpjhiiaaGreatQBalTick48
namespace Go.Proofs.YtmmhgkkcpjhiiaaGreat
open Go.ChangeShapes Go.WideShapes Go.ChangeAt Go.RowKit Go.Joins
set_option linter.unusedVariables false
set_option linter.unusedSimpArgs false

theorem tick0_fit (m : Bm) (now : Int) : fitBm (tickB0 m now) := by
 unfold tickB0
 split
 ·next h =>
  unfold tickBB at h
  rw [Bool.and_eq_true] at h
  exact ⟨by have := (journal_facts (balB_jrn h.1)).2.1; show m.j.l.length ≤ _; omega, (show fitPm m.p from balB_fit h.1), by show (expL m.t now).1.length ≤ _; rw [expL_length]; have := (tableOkB_iff.1 (balB_tab h.1)).2.1; omega⟩
 ·exact ⟨by simp [bm0, jm0], by have h := pnew_fit (-1); have e : pnewM (-1) = pm0 := (by rfl); rw [e] at h; exact h, by simp [bm0]⟩
theorem specBalTick_in (lo hi : Nat) (v : Value) (m : Bm) (now : Int) (w : World) (h : InBm lo hi w v m) (hh : hi ≤ w.heap.size) (hf : fitB0 m) :
  Calls Tryz.prog 53 #[v, .int .i64 now] w fun e w' => ∃ v', e = .returned (.tuple #[v', .int .i64 (tickBN m now)]) ∧ OwBm w.heap.size w'.heap.size w' v' (tickB0 m now) ∧ Below w.heap.size w w' := by
 have hO := h.ow.mono (Nat.le_refl _) hh
 obtain ⟨o, c, ob, cb, oR, cR, ot, ct, rfl, r1, r2, r3, r4⟩ := balIn_open h hh
 exact specBalTick_any m.j.key o m.j.l.length c m.j.safe m.p.key ob m.p.l.length cb oR m.p.ring.length cR ot m.t.length ct m.j.l m.p.l m.p.ring m.t now w rfl rfl r1 r2 r3 r4 hf hO
theorem implBalTick_in (lo hi : Nat) (v : Value) (m : Bm) (now : Int) (w : World) (h : InBm lo hi w v m) (hh : hi ≤ w.heap.size) (hf : fitB0 m) :
  Calls Tryz.prog 44 #[v, .int .i64 now] w fun e w' => ∃ v', e = .returned (.tuple #[v', .int .i64 (tickBN m now)]) ∧ InBm w.heap.size w'.heap.size w' v' (tickB0 m now) ∧ Below w.heap.size w w' := by
 have hO := h.ow.mono (Nat.le_refl _) hh
 obtain ⟨o, c, ob, cb, oR, cR, ot, ct, rfl, r1, r2, r3, r4⟩ := balIn_open h hh
 exact implBalTick_any m.j.key o m.j.l.length c m.j.safe m.p.key ob m.p.l.length cb oR m.p.ring.length cR ot m.t.length ct m.j.l m.p.l m.p.ring m.t now w rfl rfl r1 r2 r3 r4 hf

set_option maxRecDepth 100000 in
set_option maxHeartbeats 32000000 in
theorem lawFnExactBalTick (v : Value) (m : Bm) (now : Int) (w : World) (hR : RdBm w.heap.size w v m) (hl : lenBm m) :
  Calls Tryz.prog 8 #[v, .int .i64 now] w fun e w' => e = .returned (.bool true) ∧ Below w.heap.size w w' := by
 obtain ⟨oa, ca, oba, cba, oRa, cRa, ota, cta, eva⟩ := hR.opn
 subst eva
 obtain ⟨w0, hw0⟩ : ∃ W, (w.alloc (.cells #[.int .i64 m.j.key, .slice oa m.j.l.length ca, .int .i64 m.j.safe, .int .i64 m.p.key, .slice oba m.p.l.length cba, .slice oRa m.p.ring.length cRa, .slice ota m.t.length cta] 93)) = W := ⟨_, rfl⟩
 have B_w0 : Below w.heap.size w w0 := by rw [← hw0]; exact ((Below.refl _ _).alloc (Nat.le_refl _) _)
 have hz_w0 : w.heap.size < w0.heap.size := by rw [← hw0]; simp
 have bxa : w0.heap[w.heap.size]? = some (.cells #[.int .i64 m.j.key, .slice oa m.j.l.length ca, .int .i64 m.j.safe, .int .i64 m.p.key, .slice oba m.p.l.length cba, .slice oRa m.p.ring.length cRa, .slice ota m.t.length cta] 93 (0, 0)) := by
  have h := World.alloc_heap_new w (.cells #[.int .i64 m.j.key, .slice oa m.j.l.length ca, .int .i64 m.j.safe, .int .i64 m.p.key, .slice oba m.p.l.length cba, .slice oRa m.p.ring.length cRa, .slice ota m.t.length cta] 93)
  (try rw [World.size_alloc] at h)
  (try rw [World.size_alloc] at h)
  rw [← hw0]
  exact h
 have HR := hide hR
 clear hR
 obtain ⟨bxac0, bxac1, bxac2, bxac3, bxac4, bxac5, bxac6⟩ := cellsM7 bxa
 replace bxa := hide bxa
 have HB_ := hide B_w0
 clear B_w0
 go_enter Tryz.func8, Tryz.ntmps8
 go_wp2_with fail
 clear bxac0 bxac1 bxac2 bxac3 bxac4 bxac5 bxac6
 replace bxa := bxa.out
 have B_w0 := HB_.out
 clear HB_
 clear hw0
 have hR := HR.out
 clear HR
 refine (szBal_sh _ m w0 ((hR.kept B_w0 (Nat.le_refl _)).le B_w0.size) hl).mono ?_
 rintro e w1 ⟨⟨zz, rfl, hz⟩, hb_w1⟩
 replace bxa := (hb_w1.block _ (by omega)).trans bxa
 have B_w1 : Below w.heap.size w w1 := B_w0.trans (hb_w1.mono B_w0.size)
 have hs_w1 : w0.heap.size ≤ w1.heap.size := hb_w1.size
 clear hb_w1 B_w0
 rcases hz with ⟨hz1, hz2⟩ | ⟨hz1, hz2, hf⟩
 ·replace bxa := hide bxa
  have HB_ := hide B_w1
  clear B_w1
  go_wp2
  go_ret
  exact ⟨rfl, HB_.out⟩
 ·have HS := hide (fun lo hi v w h hh => specBalTick_in lo hi v m now w h hh hf)
  have HI := hide (fun lo hi v w h hh => implBalTick_in lo hi v m now w h hh hf)
  have hmr := tick0_fit m now
  generalize tickB0 m now = mr at *
  generalize tickBN m now = t at *
  obtain ⟨bxac0, bxac1, bxac2, bxac3, bxac4, bxac5, bxac6⟩ := cellsM7 bxa
  replace bxa := hide bxa
  have HB_ := hide B_w1
  clear B_w1
  go_wp2_with fail
  clear bxac0 bxac1 bxac2 bxac3 bxac4 bxac5 bxac6
  replace bxa := bxa.out
  have B_w1 := HB_.out
  clear HB_
  refine (toBal_sh _ m w1 ((hR.kept B_w1 (Nat.le_refl _)).le B_w1.size) hf).mono ?_
  rintro e w2 ⟨v2, rfl, in2, hb_w2⟩
  replace bxa := (hb_w2.block _ (by omega)).trans bxa
  have B_w2 : Below w.heap.size w w2 := B_w1.trans (hb_w2.mono B_w1.size)
  have hs_w2 : w1.heap.size ≤ w2.heap.size := hb_w2.size
  clear hb_w2 B_w1
  replace bxa := hide bxa
  replace in2 := hide in2
  have HB_ := hide B_w2
  clear B_w2
  go_wp2_with fail
  replace bxa := bxa.out
  replace in2 := in2.out
  have B_w2 := HB_.out
  clear HB_
  refine (HS.out _ _ _ w2 in2 (by omega)).mono ?_
  rintro e w3 ⟨vw, rfl, inw, hb_w3⟩
  replace bxa := (hb_w3.block _ (by omega)).trans bxa
  replace in2 := in2.step (Stp.of (lo := 0) (hi := 0) hb_w3) (.inl (Nat.zero_le _))
  have B_w3 : Below w.heap.size w w3 := B_w2.trans (hb_w3.mono B_w2.size)
  have hs_w3 : w2.heap.size ≤ w3.heap.size := hb_w3.size
  clear hb_w3 B_w2
  clear in2
  obtain ⟨ow, cw, obw, cbw, oRw, cRw, otw, ctw, evw⟩ := inw.rd.opn
  subst evw
  have bxw : (w3.alloc (.cells #[.int .i64 mr.j.key, .slice ow mr.j.l.length cw, .int .i64 mr.j.safe, .int .i64 mr.p.key, .slice obw mr.p.l.length cbw, .slice oRw mr.p.ring.length cRw, .slice otw mr.t.length ctw] 34)).heap[w3.heap.size]? = some (.cells #[.int .i64 mr.j.key, .slice ow mr.j.l.length cw, .int .i64 mr.j.safe, .int .i64 mr.p.key, .slice obw mr.p.l.length cbw, .slice oRw mr.p.ring.length cRw, .slice otw mr.t.length ctw] 34 (0, 0)) := World.alloc_heap_new w3 (.cells #[.int .i64 mr.j.key, .slice ow mr.j.l.length cw, .int .i64 mr.j.safe, .int .i64 mr.p.key, .slice obw mr.p.l.length cbw, .slice oRw mr.p.ring.length cRw, .slice otw mr.t.length ctw] 34)
  have hb_w4 : Below w3.heap.size w3 (w3.alloc (.cells #[.int .i64 mr.j.key, .slice ow mr.j.l.length cw, .int .i64 mr.j.safe, .int .i64 mr.p.key, .slice obw mr.p.l.length cbw, .slice oRw mr.p.ring.length cRw, .slice otw mr.t.length ctw] 34)) := (Below.refl _ _).alloc (Nat.le_refl _) _
  have hz_w4 : w3.heap.size < (w3.alloc (.cells #[.int .i64 mr.j.key, .slice ow mr.j.l.length cw, .int .i64 mr.j.safe, .int .i64 mr.p.key, .slice obw mr.p.l.length cbw, .slice oRw mr.p.ring.length cRw, .slice otw mr.t.length ctw] 34)).heap.size := by simp
  have bxaW := (hb_w4.block _ (by omega)).trans bxa
  have bxac0 : (w3.alloc (.cells #[.int .i64 mr.j.key, .slice ow mr.j.l.length cw, .int .i64 mr.j.safe, .int .i64 mr.p.key, .slice obw mr.p.l.length cbw, .slice oRw mr.p.ring.length cRw, .slice otw mr.t.length ctw] 34)).cell? ⟨w.heap.size, 0, none⟩ = some (.int .i64 m.j.key) := block_cellB bxaW 0 _ rfl
  have bxac1 : (w3.alloc (.cells #[.int .i64 mr.j.key, .slice ow mr.j.l.length cw, .int .i64 mr.j.safe, .int .i64 mr.p.key, .slice obw mr.p.l.length cbw, .slice oRw mr.p.ring.length cRw, .slice otw mr.t.length ctw] 34)).cell? ⟨w.heap.size, 1, none⟩ = some (.slice oa m.j.l.length ca) := block_cellB bxaW 1 _ rfl
  have bxac2 : (w3.alloc (.cells #[.int .i64 mr.j.key, .slice ow mr.j.l.length cw, .int .i64 mr.j.safe, .int .i64 mr.p.key, .slice obw mr.p.l.length cbw, .slice oRw mr.p.ring.length cRw, .slice otw mr.t.length ctw] 34)).cell? ⟨w.heap.size, 2, none⟩ = some (.int .i64 m.j.safe) := block_cellB bxaW 2 _ rfl
  have bxac3 : (w3.alloc (.cells #[.int .i64 mr.j.key, .slice ow mr.j.l.length cw, .int .i64 mr.j.safe, .int .i64 mr.p.key, .slice obw mr.p.l.length cbw, .slice oRw mr.p.ring.length cRw, .slice otw mr.t.length ctw] 34)).cell? ⟨w.heap.size, 3, none⟩ = some (.int .i64 m.p.key) := block_cellB bxaW 3 _ rfl
  have bxac4 : (w3.alloc (.cells #[.int .i64 mr.j.key, .slice ow mr.j.l.length cw, .int .i64 mr.j.safe, .int .i64 mr.p.key, .slice obw mr.p.l.length cbw, .slice oRw mr.p.ring.length cRw, .slice otw mr.t.length ctw] 34)).cell? ⟨w.heap.size, 4, none⟩ = some (.slice oba m.p.l.length cba) := block_cellB bxaW 4 _ rfl
  have bxac5 : (w3.alloc (.cells #[.int .i64 mr.j.key, .slice ow mr.j.l.length cw, .int .i64 mr.j.safe, .int .i64 mr.p.key, .slice obw mr.p.l.length cbw, .slice oRw mr.p.ring.length cRw, .slice otw mr.t.length ctw] 34)).cell? ⟨w.heap.size, 5, none⟩ = some (.slice oRa m.p.ring.length cRa) := block_cellB bxaW 5 _ rfl
  have bxac6 : (w3.alloc (.cells #[.int .i64 mr.j.key, .slice ow mr.j.l.length cw, .int .i64 mr.j.safe, .int .i64 mr.p.key, .slice obw mr.p.l.length cbw, .slice oRw mr.p.ring.length cRw, .slice otw mr.t.length ctw] 34)).cell? ⟨w.heap.size, 6, none⟩ = some (.slice ota m.t.length cta) := block_cellB bxaW 6 _ rfl
  clear bxaW
  have bxwc0 : (w3.alloc (.cells #[.int .i64 mr.j.key, .slice ow mr.j.l.length cw, .int .i64 mr.j.safe, .int .i64 mr.p.key, .slice obw mr.p.l.length cbw, .slice oRw mr.p.ring.length cRw, .slice otw mr.t.length ctw] 34)).cell? ⟨w3.heap.size, 0, none⟩ = some (.int .i64 mr.j.key) := block_cellB bxw 0 _ rfl
  have bxwc1 : (w3.alloc (.cells #[.int .i64 mr.j.key, .slice ow mr.j.l.length cw, .int .i64 mr.j.safe, .int .i64 mr.p.key, .slice obw mr.p.l.length cbw, .slice oRw mr.p.ring.length cRw, .slice otw mr.t.length ctw] 34)).cell? ⟨w3.heap.size, 1, none⟩ = some (.slice ow mr.j.l.length cw) := block_cellB bxw 1 _ rfl
  have bxwc2 : (w3.alloc (.cells #[.int .i64 mr.j.key, .slice ow mr.j.l.length cw, .int .i64 mr.j.safe, .int .i64 mr.p.key, .slice obw mr.p.l.length cbw, .slice oRw mr.p.ring.length cRw, .slice otw mr.t.length ctw] 34)).cell? ⟨w3.heap.size, 2, none⟩ = some (.int .i64 mr.j.safe) := block_cellB bxw 2 _ rfl
  have bxwc3 : (w3.alloc (.cells #[.int .i64 mr.j.key, .slice ow mr.j.l.length cw, .int .i64 mr.j.safe, .int .i64 mr.p.key, .slice obw mr.p.l.length cbw, .slice oRw mr.p.ring.length cRw, .slice otw mr.t.length ctw] 34)).cell? ⟨w3.heap.size, 3, none⟩ = some (.int .i64 mr.p.key) := block_cellB bxw 3 _ rfl
  have bxwc4 : (w3.alloc (.cells #[.int .i64 mr.j.key, .slice ow mr.j.l.length cw, .int .i64 mr.j.safe, .int .i64 mr.p.key, .slice obw mr.p.l.length cbw, .slice oRw mr.p.ring.length cRw, .slice otw mr.t.length ctw] 34)).cell? ⟨w3.heap.size, 4, none⟩ = some (.slice obw mr.p.l.length cbw) := block_cellB bxw 4 _ rfl
  have bxwc5 : (w3.alloc (.cells #[.int .i64 mr.j.key, .slice ow mr.j.l.length cw, .int .i64 mr.j.safe, .int .i64 mr.p.key, .slice obw mr.p.l.length cbw, .slice oRw mr.p.ring.length cRw, .slice otw mr.t.length ctw] 34)).cell? ⟨w3.heap.size, 5, none⟩ = some (.slice oRw mr.p.ring.length cRw) := block_cellB bxw 5 _ rfl
  have bxwc6 : (w3.alloc (.cells #[.int .i64 mr.j.key, .slice ow mr.j.l.length cw, .int .i64 mr.j.safe, .int .i64 mr.p.key, .slice obw mr.p.l.length cbw, .slice oRw mr.p.ring.length cRw, .slice otw mr.t.length ctw] 34)).cell? ⟨w3.heap.size, 6, none⟩ = some (.slice otw mr.t.length ctw) := block_cellB bxw 6 _ rfl
  have Hbxw := hide bxw
  have Hb_ := hide hb_w4
  clear bxw hb_w4
  replace bxa := hide bxa
  replace inw := hide inw
  have HB_ := hide B_w3
  clear B_w3
  go_wp2_with fail
  clear bxac0 bxac1 bxac2 bxac3 bxac4 bxac5 bxac6
  clear bxwc0 bxwc1 bxwc2 bxwc3 bxwc4 bxwc5 bxwc6
  replace bxa := bxa.out
  replace inw := inw.out
  have B_w3 := HB_.out
  clear HB_
  have bxw := Hbxw.out
  have hb_w4 := Hb_.out
  clear Hbxw Hb_
  generalize w3.alloc (.cells #[.int .i64 mr.j.key, .slice ow mr.j.l.length cw, .int .i64 mr.j.safe, .int .i64 mr.p.key, .slice obw mr.p.l.length cbw, .slice oRw mr.p.ring.length cRw, .slice otw mr.t.length ctw] 34) = w4 at *
  replace bxa := (hb_w4.block _ (by omega)).trans bxa
  replace inw := inw.step (Stp.of (lo := 0) (hi := 0) hb_w4) (.inl (Nat.zero_le _))
  have B_w4 : Below w.heap.size w w4 := B_w3.trans (hb_w4.mono B_w3.size)
  have hs_w4 : w3.heap.size ≤ w4.heap.size := hb_w4.size
  clear hb_w4 B_w3
  refine (toBal_sh _ m w4 ((hR.kept B_w4 (Nat.le_refl _)).le B_w4.size) hf).mono ?_
  rintro e w5 ⟨vx, rfl, inx, hb_w5⟩
  replace bxa := (hb_w5.block _ (by omega)).trans bxa
  replace inw := inw.step (Stp.of (lo := 0) (hi := 0) hb_w5) (.inl (Nat.zero_le _))
  replace bxw := (hb_w5.block _ (by omega)).trans bxw
  have B_w5 : Below w.heap.size w w5 := B_w4.trans (hb_w5.mono B_w4.size)
  have hs_w5 : w4.heap.size ≤ w5.heap.size := hb_w5.size
  clear hb_w5 B_w4
  obtain ⟨ox, cx, obx, cbx, oRx, cRx, otx, ctx, evx⟩ := inx.rd.opn
  subst evx
  have bxx : (w5.alloc (.cells #[.int .i64 m.j.key, .slice ox m.j.l.length cx, .int .i64 m.j.safe, .int .i64 m.p.key, .slice obx m.p.l.length cbx, .slice oRx m.p.ring.length cRx, .slice otx m.t.length ctx] 34)).heap[w5.heap.size]? = some (.cells #[.int .i64 m.j.key, .slice ox m.j.l.length cx, .int .i64 m.j.safe, .int .i64 m.p.key, .slice obx m.p.l.length cbx, .slice oRx m.p.ring.length cRx, .slice otx m.t.length ctx] 34 (0, 0)) := World.alloc_heap_new w5 (.cells #[.int .i64 m.j.key, .slice ox m.j.l.length cx, .int .i64 m.j.safe, .int .i64 m.p.key, .slice obx m.p.l.length cbx, .slice oRx m.p.ring.length cRx, .slice otx m.t.length ctx] 34)
  have hb_w6 : Below w5.heap.size w5 (w5.alloc (.cells #[.int .i64 m.j.key, .slice ox m.j.l.length cx, .int .i64 m.j.safe, .int .i64 m.p.key, .slice obx m.p.l.length cbx, .slice oRx m.p.ring.length cRx, .slice otx m.t.length ctx] 34)) := (Below.refl _ _).alloc (Nat.le_refl _) _
  have hz_w6 : w5.heap.size < (w5.alloc (.cells #[.int .i64 m.j.key, .slice ox m.j.l.length cx, .int .i64 m.j.safe, .int .i64 m.p.key, .slice obx m.p.l.length cbx, .slice oRx m.p.ring.length cRx, .slice otx m.t.length ctx] 34)).heap.size := by simp
  have bxxc0 : (w5.alloc (.cells #[.int .i64 m.j.key, .slice ox m.j.l.length cx, .int .i64 m.j.safe, .int .i64 m.p.key, .slice obx m.p.l.length cbx, .slice oRx m.p.ring.length cRx, .slice otx m.t.length ctx] 34)).cell? ⟨w5.heap.size, 0, none⟩ = some (.int .i64 m.j.key) := block_cellB bxx 0 _ rfl
  have bxxc1 : (w5.alloc (.cells #[.int .i64 m.j.key, .slice ox m.j.l.length cx, .int .i64 m.j.safe, .int .i64 m.p.key, .slice obx m.p.l.length cbx, .slice oRx m.p.ring.length cRx, .slice otx m.t.length ctx] 34)).cell? ⟨w5.heap.size, 1, none⟩ = some (.slice ox m.j.l.length cx) := block_cellB bxx 1 _ rfl
  have bxxc2 : (w5.alloc (.cells #[.int .i64 m.j.key, .slice ox m.j.l.length cx, .int .i64 m.j.safe, .int .i64 m.p.key, .slice obx m.p.l.length cbx, .slice oRx m.p.ring.length cRx, .slice otx m.t.length ctx] 34)).cell? ⟨w5.heap.size, 2, none⟩ = some (.int .i64 m.j.safe) := block_cellB bxx 2 _ rfl
  have bxxc3 : (w5.alloc (.cells #[.int .i64 m.j.key, .slice ox m.j.l.length cx, .int .i64 m.j.safe, .int .i64 m.p.key, .slice obx m.p.l.length cbx, .slice oRx m.p.ring.length cRx, .slice otx m.t.length ctx] 34)).cell? ⟨w5.heap.size, 3, none⟩ = some (.int .i64 m.p.key) := block_cellB bxx 3 _ rfl
  have bxxc4 : (w5.alloc (.cells #[.int .i64 m.j.key, .slice ox m.j.l.length cx, .int .i64 m.j.safe, .int .i64 m.p.key, .slice obx m.p.l.length cbx, .slice oRx m.p.ring.length cRx, .slice otx m.t.length ctx] 34)).cell? ⟨w5.heap.size, 4, none⟩ = some (.slice obx m.p.l.length cbx) := block_cellB bxx 4 _ rfl
  have bxxc5 : (w5.alloc (.cells #[.int .i64 m.j.key, .slice ox m.j.l.length cx, .int .i64 m.j.safe, .int .i64 m.p.key, .slice obx m.p.l.length cbx, .slice oRx m.p.ring.length cRx, .slice otx m.t.length ctx] 34)).cell? ⟨w5.heap.size, 5, none⟩ = some (.slice oRx m.p.ring.length cRx) := block_cellB bxx 5 _ rfl
  have bxxc6 : (w5.alloc (.cells #[.int .i64 m.j.key, .slice ox m.j.l.length cx, .int .i64 m.j.safe, .int .i64 m.p.key, .slice obx m.p.l.length cbx, .slice oRx m.p.ring.length cRx, .slice otx m.t.length ctx] 34)).cell? ⟨w5.heap.size, 6, none⟩ = some (.slice otx m.t.length ctx) := block_cellB bxx 6 _ rfl
  have Hbxx := hide bxx
  have Hb_ := hide hb_w6
  clear bxx hb_w6
  replace bxa := hide bxa
  replace inw := hide inw
  replace bxw := hide bxw
  replace inx := hide inx
  have HB_ := hide B_w5
  clear B_w5
  go_wp2_with fail
  clear bxxc0 bxxc1 bxxc2 bxxc3 bxxc4 bxxc5 bxxc6
  replace bxa := bxa.out
  replace inw := inw.out
  replace bxw := bxw.out
  replace inx := inx.out
  have B_w5 := HB_.out
  clear HB_
  have bxx := Hbxx.out
  have hb_w6 := Hb_.out
  clear Hbxx Hb_
  generalize w5.alloc (.cells #[.int .i64 m.j.key, .slice ox m.j.l.length cx, .int .i64 m.j.safe, .int .i64 m.p.key, .slice obx m.p.l.length cbx, .slice oRx m.p.ring.length cRx, .slice otx m.t.length ctx] 34) = w6 at *
  replace bxa := (hb_w6.block _ (by omega)).trans bxa
  replace inw := inw.step (Stp.of (lo := 0) (hi := 0) hb_w6) (.inl (Nat.zero_le _))
  replace bxw := (hb_w6.block _ (by omega)).trans bxw
  replace inx := inx.step (Stp.of (lo := 0) (hi := 0) hb_w6) (.inl (Nat.zero_le _))
  have B_w6 : Below w.heap.size w w6 := B_w5.trans (hb_w6.mono B_w5.size)
  have hs_w6 : w5.heap.size ≤ w6.heap.size := hb_w6.size
  clear hb_w6 B_w5
  refine (HI.out _ _ _ w6 inx (by omega)).mono ?_
  rintro e w7 ⟨vg, rfl, ing, hb_w7⟩
  replace bxa := (hb_w7.block _ (by omega)).trans bxa
  replace inw := inw.step (Stp.of (lo := 0) (hi := 0) hb_w7) (.inl (Nat.zero_le _))
  replace bxw := (hb_w7.block _ (by omega)).trans bxw
  replace inx := inx.step (Stp.of (lo := 0) (hi := 0) hb_w7) (.inl (Nat.zero_le _))
  replace bxx := (hb_w7.block _ (by omega)).trans bxx
  have B_w7 : Below w.heap.size w w7 := B_w6.trans (hb_w7.mono B_w6.size)
  have hs_w7 : w6.heap.size ≤ w7.heap.size := hb_w7.size
  clear hb_w7 B_w6
  obtain ⟨og, cg, obg, cbg, oRg, cRg, otg, ctg, evg⟩ := ing.rd.opn
  subst evg
  have bxg : (w7.alloc (.cells #[.int .i64 mr.j.key, .slice og mr.j.l.length cg, .int .i64 mr.j.safe, .int .i64 mr.p.key, .slice obg mr.p.l.length cbg, .slice oRg mr.p.ring.length cRg, .slice otg mr.t.length ctg] 34)).heap[w7.heap.size]? = some (.cells #[.int .i64 mr.j.key, .slice og mr.j.l.length cg, .int .i64 mr.j.safe, .int .i64 mr.p.key, .slice obg mr.p.l.length cbg, .slice oRg mr.p.ring.length cRg, .slice otg mr.t.length ctg] 34 (0, 0)) := World.alloc_heap_new w7 (.cells #[.int .i64 mr.j.key, .slice og mr.j.l.length cg, .int .i64 mr.j.safe, .int .i64 mr.p.key, .slice obg mr.p.l.length cbg, .slice oRg mr.p.ring.length cRg, .slice otg mr.t.length ctg] 34)
  have hb_w8 : Below w7.heap.size w7 (w7.alloc (.cells #[.int .i64 mr.j.key, .slice og mr.j.l.length cg, .int .i64 mr.j.safe, .int .i64 mr.p.key, .slice obg mr.p.l.length cbg, .slice oRg mr.p.ring.length cRg, .slice otg mr.t.length ctg] 34)) := (Below.refl _ _).alloc (Nat.le_refl _) _
  have hz_w8 : w7.heap.size < (w7.alloc (.cells #[.int .i64 mr.j.key, .slice og mr.j.l.length cg, .int .i64 mr.j.safe, .int .i64 mr.p.key, .slice obg mr.p.l.length cbg, .slice oRg mr.p.ring.length cRg, .slice otg mr.t.length ctg] 34)).heap.size := by simp
  have bxwW := (hb_w8.block _ (by omega)).trans bxw
  have bxwc0 : (w7.alloc (.cells #[.int .i64 mr.j.key, .slice og mr.j.l.length cg, .int .i64 mr.j.safe, .int .i64 mr.p.key, .slice obg mr.p.l.length cbg, .slice oRg mr.p.ring.length cRg, .slice otg mr.t.length ctg] 34)).cell? ⟨w3.heap.size, 0, none⟩ = some (.int .i64 mr.j.key) := block_cellB bxwW 0 _ rfl
  have bxwc1 : (w7.alloc (.cells #[.int .i64 mr.j.key, .slice og mr.j.l.length cg, .int .i64 mr.j.safe, .int .i64 mr.p.key, .slice obg mr.p.l.length cbg, .slice oRg mr.p.ring.length cRg, .slice otg mr.t.length ctg] 34)).cell? ⟨w3.heap.size, 1, none⟩ = some (.slice ow mr.j.l.length cw) := block_cellB bxwW 1 _ rfl
  have bxwc2 : (w7.alloc (.cells #[.int .i64 mr.j.key, .slice og mr.j.l.length cg, .int .i64 mr.j.safe, .int .i64 mr.p.key, .slice obg mr.p.l.length cbg, .slice oRg mr.p.ring.length cRg, .slice otg mr.t.length ctg] 34)).cell? ⟨w3.heap.size, 2, none⟩ = some (.int .i64 mr.j.safe) := block_cellB bxwW 2 _ rfl
  have bxwc3 : (w7.alloc (.cells #[.int .i64 mr.j.key, .slice og mr.j.l.length cg, .int .i64 mr.j.safe, .int .i64 mr.p.key, .slice obg mr.p.l.length cbg, .slice oRg mr.p.ring.length cRg, .slice otg mr.t.length ctg] 34)).cell? ⟨w3.heap.size, 3, none⟩ = some (.int .i64 mr.p.key) := block_cellB bxwW 3 _ rfl
  have bxwc4 : (w7.alloc (.cells #[.int .i64 mr.j.key, .slice og mr.j.l.length cg, .int .i64 mr.j.safe, .int .i64 mr.p.key, .slice obg mr.p.l.length cbg, .slice oRg mr.p.ring.length cRg, .slice otg mr.t.length ctg] 34)).cell? ⟨w3.heap.size, 4, none⟩ = some (.slice obw mr.p.l.length cbw) := block_cellB bxwW 4 _ rfl
  have bxwc5 : (w7.alloc (.cells #[.int .i64 mr.j.key, .slice og mr.j.l.length cg, .int .i64 mr.j.safe, .int .i64 mr.p.key, .slice obg mr.p.l.length cbg, .slice oRg mr.p.ring.length cRg, .slice otg mr.t.length ctg] 34)).cell? ⟨w3.heap.size, 5, none⟩ = some (.slice oRw mr.p.ring.length cRw) := block_cellB bxwW 5 _ rfl
  have bxwc6 : (w7.alloc (.cells #[.int .i64 mr.j.key, .slice og mr.j.l.length cg, .int .i64 mr.j.safe, .int .i64 mr.p.key, .slice obg mr.p.l.length cbg, .slice oRg mr.p.ring.length cRg, .slice otg mr.t.length ctg] 34)).cell? ⟨w3.heap.size, 6, none⟩ = some (.slice otw mr.t.length ctw) := block_cellB bxwW 6 _ rfl
  clear bxwW
  have bxgc0 : (w7.alloc (.cells #[.int .i64 mr.j.key, .slice og mr.j.l.length cg, .int .i64 mr.j.safe, .int .i64 mr.p.key, .slice obg mr.p.l.length cbg, .slice oRg mr.p.ring.length cRg, .slice otg mr.t.length ctg] 34)).cell? ⟨w7.heap.size, 0, none⟩ = some (.int .i64 mr.j.key) := block_cellB bxg 0 _ rfl
  have bxgc1 : (w7.alloc (.cells #[.int .i64 mr.j.key, .slice og mr.j.l.length cg, .int .i64 mr.j.safe, .int .i64 mr.p.key, .slice obg mr.p.l.length cbg, .slice oRg mr.p.ring.length cRg, .slice otg mr.t.length ctg] 34)).cell? ⟨w7.heap.size, 1, none⟩ = some (.slice og mr.j.l.length cg) := block_cellB bxg 1 _ rfl
  have bxgc2 : (w7.alloc (.cells #[.int .i64 mr.j.key, .slice og mr.j.l.length cg, .int .i64 mr.j.safe, .int .i64 mr.p.key, .slice obg mr.p.l.length cbg, .slice oRg mr.p.ring.length cRg, .slice otg mr.t.length ctg] 34)).cell? ⟨w7.heap.size, 2, none⟩ = some (.int .i64 mr.j.safe) := block_cellB bxg 2 _ rfl
  have bxgc3 : (w7.alloc (.cells #[.int .i64 mr.j.key, .slice og mr.j.l.length cg, .int .i64 mr.j.safe, .int .i64 mr.p.key, .slice obg mr.p.l.length cbg, .slice oRg mr.p.ring.length cRg, .slice otg mr.t.length ctg] 34)).cell? ⟨w7.heap.size, 3, none⟩ = some (.int .i64 mr.p.key) := block_cellB bxg 3 _ rfl
  have bxgc4 : (w7.alloc (.cells #[.int .i64 mr.j.key, .slice og mr.j.l.length cg, .int .i64 mr.j.safe, .int .i64 mr.p.key, .slice obg mr.p.l.length cbg, .slice oRg mr.p.ring.length cRg, .slice otg mr.t.length ctg] 34)).cell? ⟨w7.heap.size, 4, none⟩ = some (.slice obg mr.p.l.length cbg) := block_cellB bxg 4 _ rfl
  have bxgc5 : (w7.alloc (.cells #[.int .i64 mr.j.key, .slice og mr.j.l.length cg, .int .i64 mr.j.safe, .int .i64 mr.p.key, .slice obg mr.p.l.length cbg, .slice oRg mr.p.ring.length cRg, .slice otg mr.t.length ctg] 34)).cell? ⟨w7.heap.size, 5, none⟩ = some (.slice oRg mr.p.ring.length cRg) := block_cellB bxg 5 _ rfl
  have bxgc6 : (w7.alloc (.cells #[.int .i64 mr.j.key, .slice og mr.j.l.length cg, .int .i64 mr.j.safe, .int .i64 mr.p.key, .slice obg mr.p.l.length cbg, .slice oRg mr.p.ring.length cRg, .slice otg mr.t.length ctg] 34)).cell? ⟨w7.heap.size, 6, none⟩ = some (.slice otg mr.t.length ctg) := block_cellB bxg 6 _ rfl
  have Hbxg := hide bxg
  have Hb_ := hide hb_w8
  clear bxg hb_w8
  replace bxa := hide bxa
  replace inw := hide inw
  replace bxw := hide bxw
  replace inx := hide inx
  replace bxx := hide bxx
  replace ing := hide ing
  have HB_ := hide B_w7
  clear B_w7
  go_wp2_with fail
  clear bxwc0 bxwc1 bxwc2 bxwc3 bxwc4 bxwc5 bxwc6
  clear bxgc0 bxgc1 bxgc2 bxgc3 bxgc4 bxgc5 bxgc6
  replace bxa := bxa.out
  replace inw := inw.out
  replace bxw := bxw.out
  replace inx := inx.out
  replace bxx := bxx.out
  replace ing := ing.out
  have B_w7 := HB_.out
  clear HB_
  have bxg := Hbxg.out
  have hb_w8 := Hb_.out
  clear Hbxg Hb_
  generalize w7.alloc (.cells #[.int .i64 mr.j.key, .slice og mr.j.l.length cg, .int .i64 mr.j.safe, .int .i64 mr.p.key, .slice obg mr.p.l.length cbg, .slice oRg mr.p.ring.length cRg, .slice otg mr.t.length ctg] 34) = w8 at *
  replace bxa := (hb_w8.block _ (by omega)).trans bxa
  replace inw := inw.step (Stp.of (lo := 0) (hi := 0) hb_w8) (.inl (Nat.zero_le _))
  replace bxw := (hb_w8.block _ (by omega)).trans bxw
  replace inx := inx.step (Stp.of (lo := 0) (hi := 0) hb_w8) (.inl (Nat.zero_le _))
  replace bxx := (hb_w8.block _ (by omega)).trans bxx
  replace ing := ing.step (Stp.of (lo := 0) (hi := 0) hb_w8) (.inl (Nat.zero_le _))
  have B_w8 : Below w.heap.size w w8 := B_w7.trans (hb_w8.mono B_w7.size)
  have hs_w8 : w7.heap.size ≤ w8.heap.size := hb_w8.size
  clear hb_w8 B_w7
  refine (eqBal_sh _ _ mr w8 (ing.rd.le (by omega)) (inw.rd.le (by omega)) hmr.b0).mono ?_
  rintro e w9 ⟨rfl, hb_w9⟩
  replace bxa := (hb_w9.block _ (by omega)).trans bxa
  replace inw := inw.step (Stp.of (lo := 0) (hi := 0) hb_w9) (.inl (Nat.zero_le _))
  replace bxw := (hb_w9.block _ (by omega)).trans bxw
  replace inx := inx.step (Stp.of (lo := 0) (hi := 0) hb_w9) (.inl (Nat.zero_le _))
  replace bxx := (hb_w9.block _ (by omega)).trans bxx
  replace ing := ing.step (Stp.of (lo := 0) (hi := 0) hb_w9) (.inl (Nat.zero_le _))
  replace bxg := (hb_w9.block _ (by omega)).trans bxg
  have B_w9 : Below w.heap.size w w9 := B_w8.trans (hb_w9.mono B_w8.size)
  have hs_w9 : w8.heap.size ≤ w9.heap.size := hb_w9.size
  clear hb_w9 B_w8
  obtain ⟨bxac0, bxac1, bxac2, bxac3, bxac4, bxac5, bxac6⟩ := cellsM7 bxa
  obtain ⟨bxxc0, bxxc1, bxxc2, bxxc3, bxxc4, bxxc5, bxxc6⟩ := cellsM7 bxx
  replace bxa := hide bxa
  replace inw := hide inw
  replace bxw := hide bxw
  replace inx := hide inx
  replace bxx := hide bxx
  replace ing := hide ing
  replace bxg := hide bxg
  have HB_ := hide B_w9
  clear B_w9
  go_wp2
  have hk_bxa : w.heap.size < w9.heap.size := by omega
  have hk_bxx : w5.heap.size < w9.heap.size := by omega
  go_region_held3 (fun w' => w'.cell? ⟨w.heap.size, 0, none⟩ = some (.int .i64 m.j.key) ∧ w'.cell? ⟨w.heap.size, 1, none⟩ = some (.slice oa m.j.l.length ca) ∧ w'.cell? ⟨w.heap.size, 2, none⟩ = some (.int .i64 m.j.safe) ∧ w'.cell? ⟨w.heap.size, 3, none⟩ = some (.int .i64 m.p.key) ∧ w'.cell? ⟨w.heap.size, 4, none⟩ = some (.slice oba m.p.l.length cba) ∧ w'.cell? ⟨w.heap.size, 5, none⟩ = some (.slice oRa m.p.ring.length cRa) ∧ w'.cell? ⟨w.heap.size, 6, none⟩ = some (.slice ota m.t.length cta) ∧ w'.cell? ⟨w5.heap.size, 0, none⟩ = some (.int .i64 m.j.key) ∧ w'.cell? ⟨w5.heap.size, 1, none⟩ = some (.slice ox m.j.l.length cx) ∧ w'.cell? ⟨w5.heap.size, 2, none⟩ = some (.int .i64 m.j.safe) ∧ w'.cell? ⟨w5.heap.size, 3, none⟩ = some (.int .i64 m.p.key) ∧ w'.cell? ⟨w5.heap.size, 4, none⟩ = some (.slice obx m.p.l.length cbx) ∧ w'.cell? ⟨w5.heap.size, 5, none⟩ = some (.slice oRx m.p.ring.length cRx) ∧ w'.cell? ⟨w5.heap.size, 6, none⟩ = some (.slice otx m.t.length ctx)) (first | exact ⟨k1_0, k1_1, k1_2, k1_3, k1_4, k1_5, k1_6, k1_7, k1_8, k1_9, k1_10, k1_11, k1_12, k1_13⟩ | exact ⟨k0_0, k0_1, k0_2, k0_3, k0_4, k0_5, k0_6, k0_7, k0_8, k0_9, k0_10, k0_11, k0_12, k0_13⟩ | exact ⟨bxac0, bxac1, bxac2, bxac3, bxac4, bxac5, bxac6, bxxc0, bxxc1, bxxc2, bxxc3, bxxc4, bxxc5, bxxc6⟩) (first | (go_at_call 48; refine (toBal_sh _ m w9.drew ((hR.kept (Below.drew HB_.out) (Nat.le_refl _)).le HB_.out.size) hf).mono ?_; rintro e w10 ⟨va, rfl, ina, hb⟩; have hbx : Below w9.heap.size w9 w10 := (Below.drew (Below.refl _ _)).trans hb; have rdx := inx.out.rd.kept hbx (by omega); have szx := hbx.size; have hx0 : Below w9.heap.size w9 w10 := (Below.drew (Below.refl _ _)).trans hb; clear hb; have k0_0 := (hx0.cell (p := ⟨w.heap.size, 0, none⟩) hk_bxa).trans bxac0; have k0_1 := (hx0.cell (p := ⟨w.heap.size, 1, none⟩) hk_bxa).trans bxac1; have k0_2 := (hx0.cell (p := ⟨w.heap.size, 2, none⟩) hk_bxa).trans bxac2; have k0_3 := (hx0.cell (p := ⟨w.heap.size, 3, none⟩) hk_bxa).trans bxac3; have k0_4 := (hx0.cell (p := ⟨w.heap.size, 4, none⟩) hk_bxa).trans bxac4; have k0_5 := (hx0.cell (p := ⟨w.heap.size, 5, none⟩) hk_bxa).trans bxac5; have k0_6 := (hx0.cell (p := ⟨w.heap.size, 6, none⟩) hk_bxa).trans bxac6; have k0_7 := (hx0.cell (p := ⟨w5.heap.size, 0, none⟩) hk_bxx).trans bxxc0; have k0_8 := (hx0.cell (p := ⟨w5.heap.size, 1, none⟩) hk_bxx).trans bxxc1; have k0_9 := (hx0.cell (p := ⟨w5.heap.size, 2, none⟩) hk_bxx).trans bxxc2; have k0_10 := (hx0.cell (p := ⟨w5.heap.size, 3, none⟩) hk_bxx).trans bxxc3; have k0_11 := (hx0.cell (p := ⟨w5.heap.size, 4, none⟩) hk_bxx).trans bxxc4; have k0_12 := (hx0.cell (p := ⟨w5.heap.size, 5, none⟩) hk_bxx).trans bxxc5; have k0_13 := (hx0.cell (p := ⟨w5.heap.size, 6, none⟩) hk_bxx).trans bxxc6) | (go_at_call 50; refine (eqBal_sh _ _ m w10 (rdx.le (by omega)) (ina.rd.le (Nat.le_refl _)) hf).mono ?_; rintro e w11 ⟨rfl, hb⟩; have hx1 : Below w9.heap.size w9 w11 := hx0.trans (hb.mono hx0.size); clear hb; have k1_0 := (hx1.cell (p := ⟨w.heap.size, 0, none⟩) hk_bxa).trans bxac0; have k1_1 := (hx1.cell (p := ⟨w.heap.size, 1, none⟩) hk_bxa).trans bxac1; have k1_2 := (hx1.cell (p := ⟨w.heap.size, 2, none⟩) hk_bxa).trans bxac2; have k1_3 := (hx1.cell (p := ⟨w.heap.size, 3, none⟩) hk_bxa).trans bxac3; have k1_4 := (hx1.cell (p := ⟨w.heap.size, 4, none⟩) hk_bxa).trans bxac4; have k1_5 := (hx1.cell (p := ⟨w.heap.size, 5, none⟩) hk_bxa).trans bxac5; have k1_6 := (hx1.cell (p := ⟨w.heap.size, 6, none⟩) hk_bxa).trans bxac6; have k1_7 := (hx1.cell (p := ⟨w5.heap.size, 0, none⟩) hk_bxx).trans bxxc0; have k1_8 := (hx1.cell (p := ⟨w5.heap.size, 1, none⟩) hk_bxx).trans bxxc1; have k1_9 := (hx1.cell (p := ⟨w5.heap.size, 2, none⟩) hk_bxx).trans bxxc2; have k1_10 := (hx1.cell (p := ⟨w5.heap.size, 3, none⟩) hk_bxx).trans bxxc3; have k1_11 := (hx1.cell (p := ⟨w5.heap.size, 4, none⟩) hk_bxx).trans bxxc4; have k1_12 := (hx1.cell (p := ⟨w5.heap.size, 5, none⟩) hk_bxx).trans bxxc5; have k1_13 := (hx1.cell (p := ⟨w5.heap.size, 6, none⟩) hk_bxx).trans bxxc6))
  clear k0_0 k0_1 k0_2 k0_3 k0_4 k0_5 k0_6 k0_7 k0_8 k0_9 k0_10 k0_11 k0_12 k0_13
  clear k1_0 k1_1 k1_2 k1_3 k1_4 k1_5 k1_6 k1_7 k1_8 k1_9 k1_10 k1_11 k1_12 k1_13
  clear hk_bxa hk_bxx hx0
  clear bxac0 bxac1 bxac2 bxac3 bxac4 bxac5 bxac6
  clear bxxc0 bxxc1 bxxc2 bxxc3 bxxc4 bxxc5 bxxc6
  replace bxa := bxa.out
  replace inw := inw.out
  replace bxw := bxw.out
  replace inx := inx.out
  replace bxx := bxx.out
  replace ing := ing.out
  replace bxg := bxg.out
  have B_w9 := HB_.out
  clear HB_
  replace bxa := (hx1.block _ (by omega)).trans bxa
  replace inw := inw.step (Stp.of (lo := 0) (hi := 0) hx1) (.inl (Nat.zero_le _))
  replace bxw := (hx1.block _ (by omega)).trans bxw
  replace inx := inx.step (Stp.of (lo := 0) (hi := 0) hx1) (.inl (Nat.zero_le _))
  replace bxx := (hx1.block _ (by omega)).trans bxx
  replace ing := ing.step (Stp.of (lo := 0) (hi := 0) hx1) (.inl (Nat.zero_le _))
  replace bxg := (hx1.block _ (by omega)).trans bxg
  have B_w11 : Below w.heap.size w w11 := B_w9.trans (hx1.mono B_w9.size)
  have hs_w11 : w9.heap.size ≤ w11.heap.size := hx1.size
  clear hx1 B_w9
  clear rdx szx ina hbx
  obtain ⟨bxxc0, bxxc1, bxxc2, bxxc3, bxxc4, bxxc5, bxxc6⟩ := cellsM7 bxx
  replace bxa := hide bxa
  replace inw := hide inw
  replace bxw := hide bxw
  replace inx := hide inx
  replace bxx := hide bxx
  replace ing := hide ing
  replace bxg := hide bxg
  have HB_ := hide B_w11
  clear B_w11
  go_wp2_with fail
  clear bxxc0 bxxc1 bxxc2 bxxc3 bxxc4 bxxc5 bxxc6
  replace bxa := bxa.out
  replace inw := inw.out
  replace bxw := bxw.out
  replace inx := inx.out
  replace bxx := bxx.out
  replace ing := ing.out
  replace bxg := bxg.out
  have B_w11 := HB_.out
  clear HB_
  refine (markBal_sh0 (w4.heap.size) (w5.heap.size) _ m 1 w11 inx (by omega) (by omega) (by omega) hf).mono ?_
  rintro e w12 ⟨rfl, _, sp_w12⟩
  clear bxx
  replace bxa := sp_w12.box bxa (by omega)
  replace inw := inw.step sp_w12 (by omega)
  replace bxw := sp_w12.box bxw (by omega)
  replace ing := ing.step sp_w12 (by omega)
  replace bxg := sp_w12.box bxg (by omega)
  have B_w12 : Below w.heap.size w w12 := B_w11.trans (sp_w12.below (by omega) (by omega))
  have hs_w12 : w11.heap.size ≤ w12.heap.size := sp_w12.size
  clear sp_w12 B_w11
  clear inx
  have hnb := nBm_bd0 hf
  have hk1 : ¬ (1 + nBm m < 0) := by omega
  have hk0 : (0 : Int) ≤ 1 + nBm m := by omega
  clear hnb
  obtain ⟨bxgc0, bxgc1, bxgc2, bxgc3, bxgc4, bxgc5, bxgc6⟩ := cellsM7 bxg
  obtain ⟨bxwc0, bxwc1, bxwc2, bxwc3, bxwc4, bxwc5, bxwc6⟩ := cellsM7 bxw
  replace bxa := hide bxa
  replace inw := hide inw
  replace bxw := hide bxw
  replace ing := hide ing
  replace bxg := hide bxg
  have HB_ := hide B_w12
  clear B_w12
  go_wp2_with fail
  clear bxgc0 bxgc1 bxgc2 bxgc3 bxgc4 bxgc5 bxgc6
  clear bxwc0 bxwc1 bxwc2 bxwc3 bxwc4 bxwc5 bxwc6
  replace bxa := bxa.out
  replace inw := inw.out
  replace bxw := bxw.out
  replace ing := ing.out
  replace bxg := bxg.out
  have B_w12 := HB_.out
  clear HB_
  refine (eqBal_sh _ _ mr w12 (ing.rd.le (by omega)) (inw.rd.le (by omega)) hmr.b0).mono ?_
  rintro e w13 ⟨rfl, hb_w13⟩
  replace bxa := (hb_w13.block _ (by omega)).trans bxa
  replace inw := inw.step (Stp.of (lo := 0) (hi := 0) hb_w13) (.inl (Nat.zero_le _))
  replace bxw := (hb_w13.block _ (by omega)).trans bxw
  replace ing := ing.step (Stp.of (lo := 0) (hi := 0) hb_w13) (.inl (Nat.zero_le _))
  replace bxg := (hb_w13.block _ (by omega)).trans bxg
  have B_w13 : Below w.heap.size w w13 := B_w12.trans (hb_w13.mono B_w12.size)
  have hs_w13 : w12.heap.size ≤ w13.heap.size := hb_w13.size
  clear hb_w13 B_w12
  obtain ⟨bxgc0, bxgc1, bxgc2, bxgc3, bxgc4, bxgc5, bxgc6⟩ := cellsM7 bxg
  replace bxa := hide bxa
  replace inw := hide inw
  replace bxw := hide bxw
  replace ing := hide ing
  replace bxg := hide bxg
  have HB_ := hide B_w13
  clear B_w13
  go_wp2_with fail
  clear bxgc0 bxgc1 bxgc2 bxgc3 bxgc4 bxgc5 bxgc6
  replace bxa := bxa.out
  replace inw := inw.out
  replace bxw := bxw.out
  replace ing := ing.out
  replace bxg := bxg.out
  have B_w13 := HB_.out
  clear HB_
  refine (markBal_sh0 (w6.heap.size) (w7.heap.size) _ mr 1 w13 ing (by omega) (by omega) (by omega) hmr.b0).mono ?_
  rintro e w14 ⟨rfl, ing', sp_w14⟩
  replace bxa := sp_w14.box bxa (by omega)
  replace inw := inw.step sp_w14 (by omega)
  replace bxw := sp_w14.box bxw (by omega)
  replace bxg := sp_w14.box bxg (by omega)
  have B_w14 : Below w.heap.size w w14 := B_w13.trans (sp_w14.below (by omega) (by omega))
  have hs_w14 : w13.heap.size ≤ w14.heap.size := sp_w14.size
  clear sp_w14 B_w13
  clear ing
  have ing := ing'
  clear ing'
  have hnb := nBm_bd0 hmr.b0
  have hk2 : (0 : Int) ≤ 1 + nBm mr ∧ 1 + nBm mr ≤ 100000000 := by omega
  have hk3 : ¬ (1 + nBm mr < 0) := by omega
  clear hnb
  obtain ⟨bxgc0, bxgc1, bxgc2, bxgc3, bxgc4, bxgc5, bxgc6⟩ := cellsM7 bxg
  replace bxa := hide bxa
  replace inw := hide inw
  replace bxw := hide bxw
  replace ing := hide ing
  replace bxg := hide bxg
  have HB_ := hide B_w14
  clear B_w14
  go_wp2_with fail
  clear bxgc0 bxgc1 bxgc2 bxgc3 bxgc4 bxgc5 bxgc6
  replace bxa := bxa.out
  replace inw := inw.out
  replace bxw := bxw.out
  replace ing := ing.out
  replace bxg := bxg.out
  have B_w14 := HB_.out
  clear HB_
  refine (heldBal_sh0 _ mr 1 w14 (ing.rd.le (by omega)) (by omega) (by omega) hmr.b0).mono ?_
  rintro e w15 ⟨rfl, hb_w15⟩
  replace bxa := (hb_w15.block _ (by omega)).trans bxa
  replace inw := inw.step (Stp.of (lo := 0) (hi := 0) hb_w15) (.inl (Nat.zero_le _))
  replace bxw := (hb_w15.block _ (by omega)).trans bxw
  replace ing := ing.step (Stp.of (lo := 0) (hi := 0) hb_w15) (.inl (Nat.zero_le _))
  replace bxg := (hb_w15.block _ (by omega)).trans bxg
  have B_w15 : Below w.heap.size w w15 := B_w14.trans (hb_w15.mono B_w14.size)
  have hs_w15 : w14.heap.size ≤ w15.heap.size := hb_w15.size
  clear hb_w15 B_w14
  obtain ⟨bxac0, bxac1, bxac2, bxac3, bxac4, bxac5, bxac6⟩ := cellsM7 bxa
  replace bxa := hide bxa
  replace inw := hide inw
  replace bxw := hide bxw
  replace ing := hide ing
  replace bxg := hide bxg
  have HB_ := hide B_w15
  clear B_w15
  go_wp2_with fail
  clear bxac0 bxac1 bxac2 bxac3 bxac4 bxac5 bxac6
  replace bxa := bxa.out
  replace inw := inw.out
  replace bxw := bxw.out
  replace ing := ing.out
  replace bxg := bxg.out
  have B_w15 := HB_.out
  clear HB_
  refine (toBal_sh _ m w15 ((hR.kept B_w15 (Nat.le_refl _)).le B_w15.size) hf).mono ?_
  rintro e w16 ⟨vy, rfl, iny, hb_w16⟩
  replace bxa := (hb_w16.block _ (by omega)).trans bxa
  replace inw := inw.step (Stp.of (lo := 0) (hi := 0) hb_w16) (.inl (Nat.zero_le _))
  replace bxw := (hb_w16.block _ (by omega)).trans bxw
  replace ing := ing.step (Stp.of (lo := 0) (hi := 0) hb_w16) (.inl (Nat.zero_le _))
  replace bxg := (hb_w16.block _ (by omega)).trans bxg
  have B_w16 : Below w.heap.size w w16 := B_w15.trans (hb_w16.mono B_w15.size)
  have hs_w16 : w15.heap.size ≤ w16.heap.size := hb_w16.size
  clear hb_w16 B_w15
  replace bxa := hide bxa
  replace inw := hide inw
  replace bxw := hide bxw
  replace ing := hide ing
  replace bxg := hide bxg
  replace iny := hide iny
  have HB_ := hide B_w16
  clear B_w16
  go_wp2_with fail
  replace bxa := bxa.out
  replace inw := inw.out
  replace bxw := bxw.out
  replace ing := ing.out
  replace bxg := bxg.out
  replace iny := iny.out
  have B_w16 := HB_.out
  clear HB_
  refine (HI.out _ _ _ w16 iny (by omega)).mono ?_
  rintro e w17 ⟨vh, rfl, inh, hb_w17⟩
  replace bxa := (hb_w17.block _ (by omega)).trans bxa
  replace inw := inw.step (Stp.of (lo := 0) (hi := 0) hb_w17) (.inl (Nat.zero_le _))
  replace bxw := (hb_w17.block _ (by omega)).trans bxw
  replace ing := ing.step (Stp.of (lo := 0) (hi := 0) hb_w17) (.inl (Nat.zero_le _))
  replace bxg := (hb_w17.block _ (by omega)).trans bxg
  replace iny := iny.step (Stp.of (lo := 0) (hi := 0) hb_w17) (.inl (Nat.zero_le _))
  have B_w17 : Below w.heap.size w w17 := B_w16.trans (hb_w17.mono B_w16.size)
  have hs_w17 : w16.heap.size ≤ w17.heap.size := hb_w17.size
  clear hb_w17 B_w16
  clear iny
  obtain ⟨oh, ch, obh, cbh, oRh, cRh, oth, cth, evh⟩ := inh.rd.opn
  subst evh
  have bxh : (w17.alloc (.cells #[.int .i64 mr.j.key, .slice oh mr.j.l.length ch, .int .i64 mr.j.safe, .int .i64 mr.p.key, .slice obh mr.p.l.length cbh, .slice oRh mr.p.ring.length cRh, .slice oth mr.t.length cth] 34)).heap[w17.heap.size]? = some (.cells #[.int .i64 mr.j.key, .slice oh mr.j.l.length ch, .int .i64 mr.j.safe, .int .i64 mr.p.key, .slice obh mr.p.l.length cbh, .slice oRh mr.p.ring.length cRh, .slice oth mr.t.length cth] 34 (0, 0)) := World.alloc_heap_new w17 (.cells #[.int .i64 mr.j.key, .slice oh mr.j.l.length ch, .int .i64 mr.j.safe, .int .i64 mr.p.key, .slice obh mr.p.l.length cbh, .slice oRh mr.p.ring.length cRh, .slice oth mr.t.length cth] 34)
  have hb_w18 : Below w17.heap.size w17 (w17.alloc (.cells #[.int .i64 mr.j.key, .slice oh mr.j.l.length ch, .int .i64 mr.j.safe, .int .i64 mr.p.key, .slice obh mr.p.l.length cbh, .slice oRh mr.p.ring.length cRh, .slice oth mr.t.length cth] 34)) := (Below.refl _ _).alloc (Nat.le_refl _) _
  have hz_w18 : w17.heap.size < (w17.alloc (.cells #[.int .i64 mr.j.key, .slice oh mr.j.l.length ch, .int .i64 mr.j.safe, .int .i64 mr.p.key, .slice obh mr.p.l.length cbh, .slice oRh mr.p.ring.length cRh, .slice oth mr.t.length cth] 34)).heap.size := by simp
  have bxwW := (hb_w18.block _ (by omega)).trans bxw
  have bxwc0 : (w17.alloc (.cells #[.int .i64 mr.j.key, .slice oh mr.j.l.length ch, .int .i64 mr.j.safe, .int .i64 mr.p.key, .slice obh mr.p.l.length cbh, .slice oRh mr.p.ring.length cRh, .slice oth mr.t.length cth] 34)).cell? ⟨w3.heap.size, 0, none⟩ = some (.int .i64 mr.j.key) := block_cellB bxwW 0 _ rfl
  have bxwc1 : (w17.alloc (.cells #[.int .i64 mr.j.key, .slice oh mr.j.l.length ch, .int .i64 mr.j.safe, .int .i64 mr.p.key, .slice obh mr.p.l.length cbh, .slice oRh mr.p.ring.length cRh, .slice oth mr.t.length cth] 34)).cell? ⟨w3.heap.size, 1, none⟩ = some (.slice ow mr.j.l.length cw) := block_cellB bxwW 1 _ rfl
  have bxwc2 : (w17.alloc (.cells #[.int .i64 mr.j.key, .slice oh mr.j.l.length ch, .int .i64 mr.j.safe, .int .i64 mr.p.key, .slice obh mr.p.l.length cbh, .slice oRh mr.p.ring.length cRh, .slice oth mr.t.length cth] 34)).cell? ⟨w3.heap.size, 2, none⟩ = some (.int .i64 mr.j.safe) := block_cellB bxwW 2 _ rfl
  have bxwc3 : (w17.alloc (.cells #[.int .i64 mr.j.key, .slice oh mr.j.l.length ch, .int .i64 mr.j.safe, .int .i64 mr.p.key, .slice obh mr.p.l.length cbh, .slice oRh mr.p.ring.length cRh, .slice oth mr.t.length cth] 34)).cell? ⟨w3.heap.size, 3, none⟩ = some (.int .i64 mr.p.key) := block_cellB bxwW 3 _ rfl
  have bxwc4 : (w17.alloc (.cells #[.int .i64 mr.j.key, .slice oh mr.j.l.length ch, .int .i64 mr.j.safe, .int .i64 mr.p.key, .slice obh mr.p.l.length cbh, .slice oRh mr.p.ring.length cRh, .slice oth mr.t.length cth] 34)).cell? ⟨w3.heap.size, 4, none⟩ = some (.slice obw mr.p.l.length cbw) := block_cellB bxwW 4 _ rfl
  have bxwc5 : (w17.alloc (.cells #[.int .i64 mr.j.key, .slice oh mr.j.l.length ch, .int .i64 mr.j.safe, .int .i64 mr.p.key, .slice obh mr.p.l.length cbh, .slice oRh mr.p.ring.length cRh, .slice oth mr.t.length cth] 34)).cell? ⟨w3.heap.size, 5, none⟩ = some (.slice oRw mr.p.ring.length cRw) := block_cellB bxwW 5 _ rfl
  have bxwc6 : (w17.alloc (.cells #[.int .i64 mr.j.key, .slice oh mr.j.l.length ch, .int .i64 mr.j.safe, .int .i64 mr.p.key, .slice obh mr.p.l.length cbh, .slice oRh mr.p.ring.length cRh, .slice oth mr.t.length cth] 34)).cell? ⟨w3.heap.size, 6, none⟩ = some (.slice otw mr.t.length ctw) := block_cellB bxwW 6 _ rfl
  clear bxwW
  have bxhc0 : (w17.alloc (.cells #[.int .i64 mr.j.key, .slice oh mr.j.l.length ch, .int .i64 mr.j.safe, .int .i64 mr.p.key, .slice obh mr.p.l.length cbh, .slice oRh mr.p.ring.length cRh, .slice oth mr.t.length cth] 34)).cell? ⟨w17.heap.size, 0, none⟩ = some (.int .i64 mr.j.key) := block_cellB bxh 0 _ rfl
  have bxhc1 : (w17.alloc (.cells #[.int .i64 mr.j.key, .slice oh mr.j.l.length ch, .int .i64 mr.j.safe, .int .i64 mr.p.key, .slice obh mr.p.l.length cbh, .slice oRh mr.p.ring.length cRh, .slice oth mr.t.length cth] 34)).cell? ⟨w17.heap.size, 1, none⟩ = some (.slice oh mr.j.l.length ch) := block_cellB bxh 1 _ rfl
  have bxhc2 : (w17.alloc (.cells #[.int .i64 mr.j.key, .slice oh mr.j.l.length ch, .int .i64 mr.j.safe, .int .i64 mr.p.key, .slice obh mr.p.l.length cbh, .slice oRh mr.p.ring.length cRh, .slice oth mr.t.length cth] 34)).cell? ⟨w17.heap.size, 2, none⟩ = some (.int .i64 mr.j.safe) := block_cellB bxh 2 _ rfl
  have bxhc3 : (w17.alloc (.cells #[.int .i64 mr.j.key, .slice oh mr.j.l.length ch, .int .i64 mr.j.safe, .int .i64 mr.p.key, .slice obh mr.p.l.length cbh, .slice oRh mr.p.ring.length cRh, .slice oth mr.t.length cth] 34)).cell? ⟨w17.heap.size, 3, none⟩ = some (.int .i64 mr.p.key) := block_cellB bxh 3 _ rfl
  have bxhc4 : (w17.alloc (.cells #[.int .i64 mr.j.key, .slice oh mr.j.l.length ch, .int .i64 mr.j.safe, .int .i64 mr.p.key, .slice obh mr.p.l.length cbh, .slice oRh mr.p.ring.length cRh, .slice oth mr.t.length cth] 34)).cell? ⟨w17.heap.size, 4, none⟩ = some (.slice obh mr.p.l.length cbh) := block_cellB bxh 4 _ rfl
  have bxhc5 : (w17.alloc (.cells #[.int .i64 mr.j.key, .slice oh mr.j.l.length ch, .int .i64 mr.j.safe, .int .i64 mr.p.key, .slice obh mr.p.l.length cbh, .slice oRh mr.p.ring.length cRh, .slice oth mr.t.length cth] 34)).cell? ⟨w17.heap.size, 5, none⟩ = some (.slice oRh mr.p.ring.length cRh) := block_cellB bxh 5 _ rfl
  have bxhc6 : (w17.alloc (.cells #[.int .i64 mr.j.key, .slice oh mr.j.l.length ch, .int .i64 mr.j.safe, .int .i64 mr.p.key, .slice obh mr.p.l.length cbh, .slice oRh mr.p.ring.length cRh, .slice oth mr.t.length cth] 34)).cell? ⟨w17.heap.size, 6, none⟩ = some (.slice oth mr.t.length cth) := block_cellB bxh 6 _ rfl
  have Hbxh := hide bxh
  have Hb_ := hide hb_w18
  clear bxh hb_w18
  replace bxa := hide bxa
  replace inw := hide inw
  replace bxw := hide bxw
  replace ing := hide ing
  replace bxg := hide bxg
  replace inh := hide inh
  have HB_ := hide B_w17
  clear B_w17
  go_wp2_with fail
  clear bxwc0 bxwc1 bxwc2 bxwc3 bxwc4 bxwc5 bxwc6
  clear bxhc0 bxhc1 bxhc2 bxhc3 bxhc4 bxhc5 bxhc6
  replace bxa := bxa.out
  replace inw := inw.out
  replace bxw := bxw.out
  replace ing := ing.out
  replace bxg := bxg.out
  replace inh := inh.out
  have B_w17 := HB_.out
  clear HB_
  have bxh := Hbxh.out
  have hb_w18 := Hb_.out
  clear Hbxh Hb_
  generalize w17.alloc (.cells #[.int .i64 mr.j.key, .slice oh mr.j.l.length ch, .int .i64 mr.j.safe, .int .i64 mr.p.key, .slice obh mr.p.l.length cbh, .slice oRh mr.p.ring.length cRh, .slice oth mr.t.length cth] 34) = w18 at *
  replace bxa := (hb_w18.block _ (by omega)).trans bxa
  replace inw := inw.step (Stp.of (lo := 0) (hi := 0) hb_w18) (.inl (Nat.zero_le _))
  replace bxw := (hb_w18.block _ (by omega)).trans bxw
  replace ing := ing.step (Stp.of (lo := 0) (hi := 0) hb_w18) (.inl (Nat.zero_le _))
  replace bxg := (hb_w18.block _ (by omega)).trans bxg
  replace inh := inh.step (Stp.of (lo := 0) (hi := 0) hb_w18) (.inl (Nat.zero_le _))
  have B_w18 : Below w.heap.size w w18 := B_w17.trans (hb_w18.mono B_w17.size)
  have hs_w18 : w17.heap.size ≤ w18.heap.size := hb_w18.size
  clear hb_w18 B_w17
  refine (eqBal_sh _ _ mr w18 (inh.rd.le (by omega)) (inw.rd.le (by omega)) hmr.b0).mono ?_
  rintro e w19 ⟨rfl, hb_w19⟩
  replace bxa := (hb_w19.block _ (by omega)).trans bxa
  replace inw := inw.step (Stp.of (lo := 0) (hi := 0) hb_w19) (.inl (Nat.zero_le _))
  replace bxw := (hb_w19.block _ (by omega)).trans bxw
  replace ing := ing.step (Stp.of (lo := 0) (hi := 0) hb_w19) (.inl (Nat.zero_le _))
  replace bxg := (hb_w19.block _ (by omega)).trans bxg
  replace inh := inh.step (Stp.of (lo := 0) (hi := 0) hb_w19) (.inl (Nat.zero_le _))
  replace bxh := (hb_w19.block _ (by omega)).trans bxh
  have B_w19 : Below w.heap.size w w19 := B_w18.trans (hb_w19.mono B_w18.size)
  have hs_w19 : w18.heap.size ≤ w19.heap.size := hb_w19.size
  clear hb_w19 B_w18
  clear inh
  clear bxh
  obtain ⟨bxgc0, bxgc1, bxgc2, bxgc3, bxgc4, bxgc5, bxgc6⟩ := cellsM7 bxg
  replace bxa := hide bxa
  replace inw := hide inw
  replace bxw := hide bxw
  replace ing := hide ing
  replace bxg := hide bxg
  have HB_ := hide B_w19
  clear B_w19
  go_wp2_with fail
  clear bxgc0 bxgc1 bxgc2 bxgc3 bxgc4 bxgc5 bxgc6
  replace bxa := bxa.out
  replace inw := inw.out
  replace bxw := bxw.out
  replace ing := ing.out
  replace bxg := bxg.out
  have B_w19 := HB_.out
  clear HB_
  refine (heldBal_sh0 _ mr 1 w19 (ing.rd.le (by omega)) (by omega) (by omega) hmr.b0).mono ?_
  rintro e w20 ⟨rfl, hb_w20⟩
  replace bxa := (hb_w20.block _ (by omega)).trans bxa
  replace inw := inw.step (Stp.of (lo := 0) (hi := 0) hb_w20) (.inl (Nat.zero_le _))
  replace bxw := (hb_w20.block _ (by omega)).trans bxw
  replace ing := ing.step (Stp.of (lo := 0) (hi := 0) hb_w20) (.inl (Nat.zero_le _))
  replace bxg := (hb_w20.block _ (by omega)).trans bxg
  have B_w20 : Below w.heap.size w w20 := B_w19.trans (hb_w20.mono B_w19.size)
  have hs_w20 : w19.heap.size ≤ w20.heap.size := hb_w20.size
  clear hb_w20 B_w19
  replace bxa := hide bxa
  replace inw := hide inw
  replace bxw := hide bxw
  replace ing := hide ing
  replace bxg := hide bxg
  have HB_ := hide B_w20
  clear B_w20
  go_wp2
  go_ret
  exact ⟨rfl, HB_.out⟩

theorem walkFnExactBalTick (v : Value) (m : Bm) (now : Int) (w : World) (hR : RdBm w.heap.size w v m) (hl : lenBm m) :
  Calls Tryz.prog 8 #[v, .int .i64 now] w fun e w' => e = .returned (.bool true) ∧ Below w.heap.size w w' := lawFnExactBalTick v m now w hR hl

end Go.Proofs.YtmmhgkkcpjhiiaaGreat

