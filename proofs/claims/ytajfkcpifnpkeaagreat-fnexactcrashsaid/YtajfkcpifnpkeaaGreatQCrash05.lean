/- For every balancer and number the law FnExactCrash answers true, and the balancer reads as it did: impl.Crash answers as the model's, writes nothing into what it is handed, and its answer owns its memory. No conditions. -/
import Derived.Deep.RegionHeld3
import Derived.Test.YtajfkcpifnpkeaaGreatQCrash04
import Derived.Test.YtajfkcpifnpkeaaGreatGrOpenB
namespace Go.Proofs.YtajfkcpifnpkeaaGreat
open Go.ChangeShapes Go.WideShapes Go.ChangeAt Go.RowKit Go.Joins
set_option linter.unusedVariables false
set_option linter.unusedSimpArgs false

theorem balIn_room {lo hi : Nat} {w : World} {kj : Int} {o : Option Addr} {nj c : Nat} {sj kp : Int} {vb vr vt : Value} {m : Bm} (h : InBm lo hi w (balv kj (.slice o nj c) sj kp vb vr vt) m) : nj ≤ c := by
  obtain ⟨vl, vb', vr', vt', j0, j1, p0, p1, t0, t1, e, kk, hj, hp, ht⟩ := h
  simp only [Value.agg.injEq, Array.mk.injEq, List.cons.injEq, and_true] at e
  obtain ⟨_, e2, _⟩ := e
  subst e2
  obtain ⟨k, o', n, c', s, e9, r1, r2⟩ := hj.room
  simp only [Value.agg.injEq, Array.mk.injEq, List.cons.injEq, and_true] at e9
  obtain ⟨_, e5, _⟩ := e9
  injection e5 with b1 b2 b3
  omega
theorem specCrash_in (lo hi : Nat) (v : Value) (m : Bm) (keep : Int) (w : World) (h : InBm lo hi w v m) (hh : hi ≤ w.heap.size) (hf : fitB0 m) :
    Calls Tryz.prog 40 #[v, .int .i64 keep] w fun e w' => ∃ v', e = .returned v' ∧ OwBm w.heap.size w'.heap.size w' v' (crash0M m keep) ∧ Below w.heap.size w w' := by
  obtain ⟨o, c, ob, cb, oR, cR, ot, ct, rfl, r1, r2, r3, r4⟩ := balIn_open h hh
  have hrm := balIn_room h
  exact specCrash_any m.j.key o m.j.l.length c m.j.safe m.p.key ob m.p.l.length cb oR m.p.ring.length cR ot m.t.length ct m.j.l m.p.l m.p.ring m.t keep w rfl rfl r1 r2 r3 r4 hf hrm
theorem implCrash_in (lo hi : Nat) (v : Value) (m : Bm) (keep : Int) (w : World) (h : InBm lo hi w v m) (hh : hi ≤ w.heap.size) (hf : fitB0 m) :
    Calls Tryz.prog 41 #[v, .int .i64 keep] w fun e w' => ∃ v', e = .returned v' ∧ InBm w.heap.size w'.heap.size w' v' (crash0M m keep) ∧ Below w.heap.size w w' := by
  obtain ⟨o, c, ob, cb, oR, cR, ot, ct, rfl, r1, r2, r3, r4⟩ := balIn_open h hh
  exact implCrash_any m.j.key o m.j.l.length c m.j.safe m.p.key ob m.p.l.length cb oR m.p.ring.length cR ot m.t.length ct m.j.l m.p.l m.p.ring m.t keep w rfl rfl r1 r2 r3 r4 hf

set_option maxRecDepth 100000 in
set_option maxHeartbeats 16000000 in
theorem lawFnExactCrash (v : Value) (m : Bm) (keep : Int) (w : World) (hR : RdBm w.heap.size w v m) (hl : lenBm m) :
    Calls Tryz.prog 9 #[v, .int .i64 keep] w fun e w' => e = .returned (.bool true) ∧ Below w.heap.size w w' := by
  obtain ⟨oa, ca, oba, cba, oRa, cRa, ota, cta, eva⟩ := hR.opn
  subst eva
  obtain ⟨w0, hw0⟩ : ∃ W, (w.alloc (.cells #[.int .i64 m.j.key, .slice oa m.j.l.length ca, .int .i64 m.j.safe, .int .i64 m.p.key, .slice oba m.p.l.length cba, .slice oRa m.p.ring.length cRa, .slice ota m.t.length cta] 33)) = W := ⟨_, rfl⟩
  have B_w0 : Below w.heap.size w w0 := by rw [← hw0]; exact ((Below.refl _ _).alloc (Nat.le_refl _) _)
  have hz_w0 : w.heap.size < w0.heap.size := by rw [← hw0]; simp
  have bxa : w0.heap[w.heap.size]? = some (.cells #[.int .i64 m.j.key, .slice oa m.j.l.length ca, .int .i64 m.j.safe, .int .i64 m.p.key, .slice oba m.p.l.length cba, .slice oRa m.p.ring.length cRa, .slice ota m.t.length cta] 33 (0, 0)) := by
    have h := World.alloc_heap_new w (.cells #[.int .i64 m.j.key, .slice oa m.j.l.length ca, .int .i64 m.j.safe, .int .i64 m.p.key, .slice oba m.p.l.length cba, .slice oRa m.p.ring.length cRa, .slice ota m.t.length cta] 33)
    (try rw [World.size_alloc] at h)
    (try rw [World.size_alloc] at h)
    rw [← hw0]
    exact h
  have HR := hide hR
  clear hR
  have bxac0 : w0.cell? ⟨w.heap.size, 0, none⟩ = some (.int .i64 m.j.key) := block_cellB bxa 0 _ rfl
  have bxac1 : w0.cell? ⟨w.heap.size, 1, none⟩ = some (.slice oa m.j.l.length ca) := block_cellB bxa 1 _ rfl
  have bxac2 : w0.cell? ⟨w.heap.size, 2, none⟩ = some (.int .i64 m.j.safe) := block_cellB bxa 2 _ rfl
  have bxac3 : w0.cell? ⟨w.heap.size, 3, none⟩ = some (.int .i64 m.p.key) := block_cellB bxa 3 _ rfl
  have bxac4 : w0.cell? ⟨w.heap.size, 4, none⟩ = some (.slice oba m.p.l.length cba) := block_cellB bxa 4 _ rfl
  have bxac5 : w0.cell? ⟨w.heap.size, 5, none⟩ = some (.slice oRa m.p.ring.length cRa) := block_cellB bxa 5 _ rfl
  have bxac6 : w0.cell? ⟨w.heap.size, 6, none⟩ = some (.slice ota m.t.length cta) := block_cellB bxa 6 _ rfl
  have Hbxa := hide bxa
  clear bxa
  have HB_ := hide B_w0
  clear B_w0
  go_enter Tryz.func9, Tryz.ntmps9
  go_wp2_with fail
  clear bxac0 bxac1 bxac2 bxac3 bxac4 bxac5 bxac6
  have bxa := Hbxa.out
  clear Hbxa
  have B_w0 := HB_.out
  clear HB_
  clear hw0
  have hR := HR.out
  clear HR
  refine (szBal_sh _ m w0 ((hR.kept B_w0 (Nat.le_refl _)).le B_w0.size) hl).mono ?_
  rintro e w1 ⟨⟨zz, rfl, hz⟩, hb_w1⟩
  replace bxa := (hb_w1.block _ (by omega)).trans bxa
  have B_w1 : Below w.heap.size w w1 := B_w0.trans (hb_w1.mono B_w0.size)
  have hs_w1 : w0.heap.size ≤ w1.heap.size := hb_w1.size
  clear hb_w1 B_w0
  rcases hz with ⟨hz1, hz2⟩ | ⟨hz1, hz2, hf⟩
  · have Hbxa := hide bxa
    clear bxa
    have HB_ := hide B_w1
    clear B_w1
    go_wp2
    go_ret
    exact ⟨rfl, HB_.out⟩
  · have HS := hide (fun lo hi v w h hh => specCrash_in lo hi v m keep w h hh hf)
    have HI := hide (fun lo hi v w h hh => implCrash_in lo hi v m keep w h hh hf)
    have hmr := crash0_fit m keep
    generalize crash0M m keep = mr at *
    have bxac0 : w1.cell? ⟨w.heap.size, 0, none⟩ = some (.int .i64 m.j.key) := block_cellB bxa 0 _ rfl
    have bxac1 : w1.cell? ⟨w.heap.size, 1, none⟩ = some (.slice oa m.j.l.length ca) := block_cellB bxa 1 _ rfl
    have bxac2 : w1.cell? ⟨w.heap.size, 2, none⟩ = some (.int .i64 m.j.safe) := block_cellB bxa 2 _ rfl
    have bxac3 : w1.cell? ⟨w.heap.size, 3, none⟩ = some (.int .i64 m.p.key) := block_cellB bxa 3 _ rfl
    have bxac4 : w1.cell? ⟨w.heap.size, 4, none⟩ = some (.slice oba m.p.l.length cba) := block_cellB bxa 4 _ rfl
    have bxac5 : w1.cell? ⟨w.heap.size, 5, none⟩ = some (.slice oRa m.p.ring.length cRa) := block_cellB bxa 5 _ rfl
    have bxac6 : w1.cell? ⟨w.heap.size, 6, none⟩ = some (.slice ota m.t.length cta) := block_cellB bxa 6 _ rfl
    have Hbxa := hide bxa
    clear bxa
    have HB_ := hide B_w1
    clear B_w1
    go_wp2_with fail
    clear bxac0 bxac1 bxac2 bxac3 bxac4 bxac5 bxac6
    have bxa := Hbxa.out
    clear Hbxa
    have B_w1 := HB_.out
    clear HB_
    refine (toBal_sh _ m w1 ((hR.kept B_w1 (Nat.le_refl _)).le B_w1.size) hf).mono ?_
    rintro e w2 ⟨v2, rfl, in2, hb_w2⟩
    replace bxa := (hb_w2.block _ (by omega)).trans bxa
    have B_w2 : Below w.heap.size w w2 := B_w1.trans (hb_w2.mono B_w1.size)
    have hs_w2 : w1.heap.size ≤ w2.heap.size := hb_w2.size
    clear hb_w2 B_w1
    have Hbxa := hide bxa
    clear bxa
    have Hin2 := hide in2
    clear in2
    have HB_ := hide B_w2
    clear B_w2
    go_wp2_with fail
    have bxa := Hbxa.out
    clear Hbxa
    have in2 := Hin2.out
    clear Hin2
    have B_w2 := HB_.out
    clear HB_
    refine (HS.out _ _ _ w2 in2 (by omega)).mono ?_
    rintro e w3 ⟨vw, rfl, inw, hb_w3⟩
    replace bxa := (hb_w3.block _ (by omega)).trans bxa
    replace in2 := in2.step (Stp.of (lo := 0) (hi := 0) hb_w3) (.inl (Nat.zero_le _))
    have B_w3 : Below w.heap.size w w3 := B_w2.trans (hb_w3.mono B_w2.size)
    have hs_w3 : w2.heap.size ≤ w3.heap.size := hb_w3.size
    clear hb_w3 B_w2
    clear in2
    obtain ⟨ow, cw, obw, cbw, oRw, cRw, otw, ctw, evw⟩ := inw.rd.opn
    subst evw
    have bxw : (w3.alloc (.cells #[.int .i64 mr.j.key, .slice ow mr.j.l.length cw, .int .i64 mr.j.safe, .int .i64 mr.p.key, .slice obw mr.p.l.length cbw, .slice oRw mr.p.ring.length cRw, .slice otw mr.t.length ctw] 46)).heap[w3.heap.size]? = some (.cells #[.int .i64 mr.j.key, .slice ow mr.j.l.length cw, .int .i64 mr.j.safe, .int .i64 mr.p.key, .slice obw mr.p.l.length cbw, .slice oRw mr.p.ring.length cRw, .slice otw mr.t.length ctw] 46 (0, 0)) := World.alloc_heap_new w3 (.cells #[.int .i64 mr.j.key, .slice ow mr.j.l.length cw, .int .i64 mr.j.safe, .int .i64 mr.p.key, .slice obw mr.p.l.length cbw, .slice oRw mr.p.ring.length cRw, .slice otw mr.t.length ctw] 46)
    have hb_w4 : Below w3.heap.size w3 (w3.alloc (.cells #[.int .i64 mr.j.key, .slice ow mr.j.l.length cw, .int .i64 mr.j.safe, .int .i64 mr.p.key, .slice obw mr.p.l.length cbw, .slice oRw mr.p.ring.length cRw, .slice otw mr.t.length ctw] 46)) := (Below.refl _ _).alloc (Nat.le_refl _) _
    have hz_w4 : w3.heap.size < (w3.alloc (.cells #[.int .i64 mr.j.key, .slice ow mr.j.l.length cw, .int .i64 mr.j.safe, .int .i64 mr.p.key, .slice obw mr.p.l.length cbw, .slice oRw mr.p.ring.length cRw, .slice otw mr.t.length ctw] 46)).heap.size := by simp
    have bxaW := (hb_w4.block _ (by omega)).trans bxa
    have bxac0 : (w3.alloc (.cells #[.int .i64 mr.j.key, .slice ow mr.j.l.length cw, .int .i64 mr.j.safe, .int .i64 mr.p.key, .slice obw mr.p.l.length cbw, .slice oRw mr.p.ring.length cRw, .slice otw mr.t.length ctw] 46)).cell? ⟨w.heap.size, 0, none⟩ = some (.int .i64 m.j.key) := block_cellB bxaW 0 _ rfl
    have bxac1 : (w3.alloc (.cells #[.int .i64 mr.j.key, .slice ow mr.j.l.length cw, .int .i64 mr.j.safe, .int .i64 mr.p.key, .slice obw mr.p.l.length cbw, .slice oRw mr.p.ring.length cRw, .slice otw mr.t.length ctw] 46)).cell? ⟨w.heap.size, 1, none⟩ = some (.slice oa m.j.l.length ca) := block_cellB bxaW 1 _ rfl
    have bxac2 : (w3.alloc (.cells #[.int .i64 mr.j.key, .slice ow mr.j.l.length cw, .int .i64 mr.j.safe, .int .i64 mr.p.key, .slice obw mr.p.l.length cbw, .slice oRw mr.p.ring.length cRw, .slice otw mr.t.length ctw] 46)).cell? ⟨w.heap.size, 2, none⟩ = some (.int .i64 m.j.safe) := block_cellB bxaW 2 _ rfl
    have bxac3 : (w3.alloc (.cells #[.int .i64 mr.j.key, .slice ow mr.j.l.length cw, .int .i64 mr.j.safe, .int .i64 mr.p.key, .slice obw mr.p.l.length cbw, .slice oRw mr.p.ring.length cRw, .slice otw mr.t.length ctw] 46)).cell? ⟨w.heap.size, 3, none⟩ = some (.int .i64 m.p.key) := block_cellB bxaW 3 _ rfl
    have bxac4 : (w3.alloc (.cells #[.int .i64 mr.j.key, .slice ow mr.j.l.length cw, .int .i64 mr.j.safe, .int .i64 mr.p.key, .slice obw mr.p.l.length cbw, .slice oRw mr.p.ring.length cRw, .slice otw mr.t.length ctw] 46)).cell? ⟨w.heap.size, 4, none⟩ = some (.slice oba m.p.l.length cba) := block_cellB bxaW 4 _ rfl
    have bxac5 : (w3.alloc (.cells #[.int .i64 mr.j.key, .slice ow mr.j.l.length cw, .int .i64 mr.j.safe, .int .i64 mr.p.key, .slice obw mr.p.l.length cbw, .slice oRw mr.p.ring.length cRw, .slice otw mr.t.length ctw] 46)).cell? ⟨w.heap.size, 5, none⟩ = some (.slice oRa m.p.ring.length cRa) := block_cellB bxaW 5 _ rfl
    have bxac6 : (w3.alloc (.cells #[.int .i64 mr.j.key, .slice ow mr.j.l.length cw, .int .i64 mr.j.safe, .int .i64 mr.p.key, .slice obw mr.p.l.length cbw, .slice oRw mr.p.ring.length cRw, .slice otw mr.t.length ctw] 46)).cell? ⟨w.heap.size, 6, none⟩ = some (.slice ota m.t.length cta) := block_cellB bxaW 6 _ rfl
    clear bxaW
    have bxwc0 : (w3.alloc (.cells #[.int .i64 mr.j.key, .slice ow mr.j.l.length cw, .int .i64 mr.j.safe, .int .i64 mr.p.key, .slice obw mr.p.l.length cbw, .slice oRw mr.p.ring.length cRw, .slice otw mr.t.length ctw] 46)).cell? ⟨w3.heap.size, 0, none⟩ = some (.int .i64 mr.j.key) := block_cellB bxw 0 _ rfl
    have bxwc1 : (w3.alloc (.cells #[.int .i64 mr.j.key, .slice ow mr.j.l.length cw, .int .i64 mr.j.safe, .int .i64 mr.p.key, .slice obw mr.p.l.length cbw, .slice oRw mr.p.ring.length cRw, .slice otw mr.t.length ctw] 46)).cell? ⟨w3.heap.size, 1, none⟩ = some (.slice ow mr.j.l.length cw) := block_cellB bxw 1 _ rfl
    have bxwc2 : (w3.alloc (.cells #[.int .i64 mr.j.key, .slice ow mr.j.l.length cw, .int .i64 mr.j.safe, .int .i64 mr.p.key, .slice obw mr.p.l.length cbw, .slice oRw mr.p.ring.length cRw, .slice otw mr.t.length ctw] 46)).cell? ⟨w3.heap.size, 2, none⟩ = some (.int .i64 mr.j.safe) := block_cellB bxw 2 _ rfl
    have bxwc3 : (w3.alloc (.cells #[.int .i64 mr.j.key, .slice ow mr.j.l.length cw, .int .i64 mr.j.safe, .int .i64 mr.p.key, .slice obw mr.p.l.length cbw, .slice oRw mr.p.ring.length cRw, .slice otw mr.t.length ctw] 46)).cell? ⟨w3.heap.size, 3, none⟩ = some (.int .i64 mr.p.key) := block_cellB bxw 3 _ rfl
    have bxwc4 : (w3.alloc (.cells #[.int .i64 mr.j.key, .slice ow mr.j.l.length cw, .int .i64 mr.j.safe, .int .i64 mr.p.key, .slice obw mr.p.l.length cbw, .slice oRw mr.p.ring.length cRw, .slice otw mr.t.length ctw] 46)).cell? ⟨w3.heap.size, 4, none⟩ = some (.slice obw mr.p.l.length cbw) := block_cellB bxw 4 _ rfl
    have bxwc5 : (w3.alloc (.cells #[.int .i64 mr.j.key, .slice ow mr.j.l.length cw, .int .i64 mr.j.safe, .int .i64 mr.p.key, .slice obw mr.p.l.length cbw, .slice oRw mr.p.ring.length cRw, .slice otw mr.t.length ctw] 46)).cell? ⟨w3.heap.size, 5, none⟩ = some (.slice oRw mr.p.ring.length cRw) := block_cellB bxw 5 _ rfl
    have bxwc6 : (w3.alloc (.cells #[.int .i64 mr.j.key, .slice ow mr.j.l.length cw, .int .i64 mr.j.safe, .int .i64 mr.p.key, .slice obw mr.p.l.length cbw, .slice oRw mr.p.ring.length cRw, .slice otw mr.t.length ctw] 46)).cell? ⟨w3.heap.size, 6, none⟩ = some (.slice otw mr.t.length ctw) := block_cellB bxw 6 _ rfl
    have Hbxw := hide bxw
    have Hb_ := hide hb_w4
    clear bxw hb_w4
    have Hbxa := hide bxa
    clear bxa
    have Hinw := hide inw
    clear inw
    have HB_ := hide B_w3
    clear B_w3
    go_wp2_with fail
    clear bxac0 bxac1 bxac2 bxac3 bxac4 bxac5 bxac6
    clear bxwc0 bxwc1 bxwc2 bxwc3 bxwc4 bxwc5 bxwc6
    have bxa := Hbxa.out
    clear Hbxa
    have inw := Hinw.out
    clear Hinw
    have B_w3 := HB_.out
    clear HB_
    have bxw := Hbxw.out
    have hb_w4 := Hb_.out
    clear Hbxw Hb_
    generalize w3.alloc (.cells #[.int .i64 mr.j.key, .slice ow mr.j.l.length cw, .int .i64 mr.j.safe, .int .i64 mr.p.key, .slice obw mr.p.l.length cbw, .slice oRw mr.p.ring.length cRw, .slice otw mr.t.length ctw] 46) = w4 at *
    replace bxa := (hb_w4.block _ (by omega)).trans bxa
    replace inw := inw.step (Stp.of (lo := 0) (hi := 0) hb_w4) (.inl (Nat.zero_le _))
    have B_w4 : Below w.heap.size w w4 := B_w3.trans (hb_w4.mono B_w3.size)
    have hs_w4 : w3.heap.size ≤ w4.heap.size := hb_w4.size
    clear hb_w4 B_w3
    refine (toBal_sh _ m w4 ((hR.kept B_w4 (Nat.le_refl _)).le B_w4.size) hf).mono ?_
    rintro e w5 ⟨vx, rfl, inx, hb_w5⟩
    replace bxa := (hb_w5.block _ (by omega)).trans bxa
    replace inw := inw.step (Stp.of (lo := 0) (hi := 0) hb_w5) (.inl (Nat.zero_le _))
    replace bxw := (hb_w5.block _ (by omega)).trans bxw
    have B_w5 : Below w.heap.size w w5 := B_w4.trans (hb_w5.mono B_w4.size)
    have hs_w5 : w4.heap.size ≤ w5.heap.size := hb_w5.size
    clear hb_w5 B_w4
    obtain ⟨ox, cx, obx, cbx, oRx, cRx, otx, ctx, evx⟩ := inx.rd.opn
    subst evx
    have bxx : (w5.alloc (.cells #[.int .i64 m.j.key, .slice ox m.j.l.length cx, .int .i64 m.j.safe, .int .i64 m.p.key, .slice obx m.p.l.length cbx, .slice oRx m.p.ring.length cRx, .slice otx m.t.length ctx] 46)).heap[w5.heap.size]? = some (.cells #[.int .i64 m.j.key, .slice ox m.j.l.length cx, .int .i64 m.j.safe, .int .i64 m.p.key, .slice obx m.p.l.length cbx, .slice oRx m.p.ring.length cRx, .slice otx m.t.length ctx] 46 (0, 0)) := World.alloc_heap_new w5 (.cells #[.int .i64 m.j.key, .slice ox m.j.l.length cx, .int .i64 m.j.safe, .int .i64 m.p.key, .slice obx m.p.l.length cbx, .slice oRx m.p.ring.length cRx, .slice otx m.t.length ctx] 46)
    have hb_w6 : Below w5.heap.size w5 (w5.alloc (.cells #[.int .i64 m.j.key, .slice ox m.j.l.length cx, .int .i64 m.j.safe, .int .i64 m.p.key, .slice obx m.p.l.length cbx, .slice oRx m.p.ring.length cRx, .slice otx m.t.length ctx] 46)) := (Below.refl _ _).alloc (Nat.le_refl _) _
    have hz_w6 : w5.heap.size < (w5.alloc (.cells #[.int .i64 m.j.key, .slice ox m.j.l.length cx, .int .i64 m.j.safe, .int .i64 m.p.key, .slice obx m.p.l.length cbx, .slice oRx m.p.ring.length cRx, .slice otx m.t.length ctx] 46)).heap.size := by simp
    have bxxc0 : (w5.alloc (.cells #[.int .i64 m.j.key, .slice ox m.j.l.length cx, .int .i64 m.j.safe, .int .i64 m.p.key, .slice obx m.p.l.length cbx, .slice oRx m.p.ring.length cRx, .slice otx m.t.length ctx] 46)).cell? ⟨w5.heap.size, 0, none⟩ = some (.int .i64 m.j.key) := block_cellB bxx 0 _ rfl
    have bxxc1 : (w5.alloc (.cells #[.int .i64 m.j.key, .slice ox m.j.l.length cx, .int .i64 m.j.safe, .int .i64 m.p.key, .slice obx m.p.l.length cbx, .slice oRx m.p.ring.length cRx, .slice otx m.t.length ctx] 46)).cell? ⟨w5.heap.size, 1, none⟩ = some (.slice ox m.j.l.length cx) := block_cellB bxx 1 _ rfl
    have bxxc2 : (w5.alloc (.cells #[.int .i64 m.j.key, .slice ox m.j.l.length cx, .int .i64 m.j.safe, .int .i64 m.p.key, .slice obx m.p.l.length cbx, .slice oRx m.p.ring.length cRx, .slice otx m.t.length ctx] 46)).cell? ⟨w5.heap.size, 2, none⟩ = some (.int .i64 m.j.safe) := block_cellB bxx 2 _ rfl
    have bxxc3 : (w5.alloc (.cells #[.int .i64 m.j.key, .slice ox m.j.l.length cx, .int .i64 m.j.safe, .int .i64 m.p.key, .slice obx m.p.l.length cbx, .slice oRx m.p.ring.length cRx, .slice otx m.t.length ctx] 46)).cell? ⟨w5.heap.size, 3, none⟩ = some (.int .i64 m.p.key) := block_cellB bxx 3 _ rfl
    have bxxc4 : (w5.alloc (.cells #[.int .i64 m.j.key, .slice ox m.j.l.length cx, .int .i64 m.j.safe, .int .i64 m.p.key, .slice obx m.p.l.length cbx, .slice oRx m.p.ring.length cRx, .slice otx m.t.length ctx] 46)).cell? ⟨w5.heap.size, 4, none⟩ = some (.slice obx m.p.l.length cbx) := block_cellB bxx 4 _ rfl
    have bxxc5 : (w5.alloc (.cells #[.int .i64 m.j.key, .slice ox m.j.l.length cx, .int .i64 m.j.safe, .int .i64 m.p.key, .slice obx m.p.l.length cbx, .slice oRx m.p.ring.length cRx, .slice otx m.t.length ctx] 46)).cell? ⟨w5.heap.size, 5, none⟩ = some (.slice oRx m.p.ring.length cRx) := block_cellB bxx 5 _ rfl
    have bxxc6 : (w5.alloc (.cells #[.int .i64 m.j.key, .slice ox m.j.l.length cx, .int .i64 m.j.safe, .int .i64 m.p.key, .slice obx m.p.l.length cbx, .slice oRx m.p.ring.length cRx, .slice otx m.t.length ctx] 46)).cell? ⟨w5.heap.size, 6, none⟩ = some (.slice otx m.t.length ctx) := block_cellB bxx 6 _ rfl
    have Hbxx := hide bxx
    have Hb_ := hide hb_w6
    clear bxx hb_w6
    have Hbxa := hide bxa
    clear bxa
    have Hinw := hide inw
    clear inw
    have Hbxw := hide bxw
    clear bxw
    have Hinx := hide inx
    clear inx
    have HB_ := hide B_w5
    clear B_w5
    go_wp2_with fail
    clear bxxc0 bxxc1 bxxc2 bxxc3 bxxc4 bxxc5 bxxc6
    have bxa := Hbxa.out
    clear Hbxa
    have inw := Hinw.out
    clear Hinw
    have bxw := Hbxw.out
    clear Hbxw
    have inx := Hinx.out
    clear Hinx
    have B_w5 := HB_.out
    clear HB_
    have bxx := Hbxx.out
    have hb_w6 := Hb_.out
    clear Hbxx Hb_
    generalize w5.alloc (.cells #[.int .i64 m.j.key, .slice ox m.j.l.length cx, .int .i64 m.j.safe, .int .i64 m.p.key, .slice obx m.p.l.length cbx, .slice oRx m.p.ring.length cRx, .slice otx m.t.length ctx] 46) = w6 at *
    replace bxa := (hb_w6.block _ (by omega)).trans bxa
    replace inw := inw.step (Stp.of (lo := 0) (hi := 0) hb_w6) (.inl (Nat.zero_le _))
    replace bxw := (hb_w6.block _ (by omega)).trans bxw
    replace inx := inx.step (Stp.of (lo := 0) (hi := 0) hb_w6) (.inl (Nat.zero_le _))
    have B_w6 : Below w.heap.size w w6 := B_w5.trans (hb_w6.mono B_w5.size)
    have hs_w6 : w5.heap.size ≤ w6.heap.size := hb_w6.size
    clear hb_w6 B_w5
    refine (HI.out _ _ _ w6 inx (by omega)).mono ?_
    rintro e w7 ⟨vg, rfl, ing, hb_w7⟩
    replace bxa := (hb_w7.block _ (by omega)).trans bxa
    replace inw := inw.step (Stp.of (lo := 0) (hi := 0) hb_w7) (.inl (Nat.zero_le _))
    replace bxw := (hb_w7.block _ (by omega)).trans bxw
    replace inx := inx.step (Stp.of (lo := 0) (hi := 0) hb_w7) (.inl (Nat.zero_le _))
    replace bxx := (hb_w7.block _ (by omega)).trans bxx
    have B_w7 : Below w.heap.size w w7 := B_w6.trans (hb_w7.mono B_w6.size)
    have hs_w7 : w6.heap.size ≤ w7.heap.size := hb_w7.size
    clear hb_w7 B_w6
    obtain ⟨og, cg, obg, cbg, oRg, cRg, otg, ctg, evg⟩ := ing.rd.opn
    subst evg
    have bxg : (w7.alloc (.cells #[.int .i64 mr.j.key, .slice og mr.j.l.length cg, .int .i64 mr.j.safe, .int .i64 mr.p.key, .slice obg mr.p.l.length cbg, .slice oRg mr.p.ring.length cRg, .slice otg mr.t.length ctg] 46)).heap[w7.heap.size]? = some (.cells #[.int .i64 mr.j.key, .slice og mr.j.l.length cg, .int .i64 mr.j.safe, .int .i64 mr.p.key, .slice obg mr.p.l.length cbg, .slice oRg mr.p.ring.length cRg, .slice otg mr.t.length ctg] 46 (0, 0)) := World.alloc_heap_new w7 (.cells #[.int .i64 mr.j.key, .slice og mr.j.l.length cg, .int .i64 mr.j.safe, .int .i64 mr.p.key, .slice obg mr.p.l.length cbg, .slice oRg mr.p.ring.length cRg, .slice otg mr.t.length ctg] 46)
    have hb_w8 : Below w7.heap.size w7 (w7.alloc (.cells #[.int .i64 mr.j.key, .slice og mr.j.l.length cg, .int .i64 mr.j.safe, .int .i64 mr.p.key, .slice obg mr.p.l.length cbg, .slice oRg mr.p.ring.length cRg, .slice otg mr.t.length ctg] 46)) := (Below.refl _ _).alloc (Nat.le_refl _) _
    have hz_w8 : w7.heap.size < (w7.alloc (.cells #[.int .i64 mr.j.key, .slice og mr.j.l.length cg, .int .i64 mr.j.safe, .int .i64 mr.p.key, .slice obg mr.p.l.length cbg, .slice oRg mr.p.ring.length cRg, .slice otg mr.t.length ctg] 46)).heap.size := by simp
    have bxwW := (hb_w8.block _ (by omega)).trans bxw
    have bxwc0 : (w7.alloc (.cells #[.int .i64 mr.j.key, .slice og mr.j.l.length cg, .int .i64 mr.j.safe, .int .i64 mr.p.key, .slice obg mr.p.l.length cbg, .slice oRg mr.p.ring.length cRg, .slice otg mr.t.length ctg] 46)).cell? ⟨w3.heap.size, 0, none⟩ = some (.int .i64 mr.j.key) := block_cellB bxwW 0 _ rfl
    have bxwc1 : (w7.alloc (.cells #[.int .i64 mr.j.key, .slice og mr.j.l.length cg, .int .i64 mr.j.safe, .int .i64 mr.p.key, .slice obg mr.p.l.length cbg, .slice oRg mr.p.ring.length cRg, .slice otg mr.t.length ctg] 46)).cell? ⟨w3.heap.size, 1, none⟩ = some (.slice ow mr.j.l.length cw) := block_cellB bxwW 1 _ rfl
    have bxwc2 : (w7.alloc (.cells #[.int .i64 mr.j.key, .slice og mr.j.l.length cg, .int .i64 mr.j.safe, .int .i64 mr.p.key, .slice obg mr.p.l.length cbg, .slice oRg mr.p.ring.length cRg, .slice otg mr.t.length ctg] 46)).cell? ⟨w3.heap.size, 2, none⟩ = some (.int .i64 mr.j.safe) := block_cellB bxwW 2 _ rfl
    have bxwc3 : (w7.alloc (.cells #[.int .i64 mr.j.key, .slice og mr.j.l.length cg, .int .i64 mr.j.safe, .int .i64 mr.p.key, .slice obg mr.p.l.length cbg, .slice oRg mr.p.ring.length cRg, .slice otg mr.t.length ctg] 46)).cell? ⟨w3.heap.size, 3, none⟩ = some (.int .i64 mr.p.key) := block_cellB bxwW 3 _ rfl
    have bxwc4 : (w7.alloc (.cells #[.int .i64 mr.j.key, .slice og mr.j.l.length cg, .int .i64 mr.j.safe, .int .i64 mr.p.key, .slice obg mr.p.l.length cbg, .slice oRg mr.p.ring.length cRg, .slice otg mr.t.length ctg] 46)).cell? ⟨w3.heap.size, 4, none⟩ = some (.slice obw mr.p.l.length cbw) := block_cellB bxwW 4 _ rfl
    have bxwc5 : (w7.alloc (.cells #[.int .i64 mr.j.key, .slice og mr.j.l.length cg, .int .i64 mr.j.safe, .int .i64 mr.p.key, .slice obg mr.p.l.length cbg, .slice oRg mr.p.ring.length cRg, .slice otg mr.t.length ctg] 46)).cell? ⟨w3.heap.size, 5, none⟩ = some (.slice oRw mr.p.ring.length cRw) := block_cellB bxwW 5 _ rfl
    have bxwc6 : (w7.alloc (.cells #[.int .i64 mr.j.key, .slice og mr.j.l.length cg, .int .i64 mr.j.safe, .int .i64 mr.p.key, .slice obg mr.p.l.length cbg, .slice oRg mr.p.ring.length cRg, .slice otg mr.t.length ctg] 46)).cell? ⟨w3.heap.size, 6, none⟩ = some (.slice otw mr.t.length ctw) := block_cellB bxwW 6 _ rfl
    clear bxwW
    have bxgc0 : (w7.alloc (.cells #[.int .i64 mr.j.key, .slice og mr.j.l.length cg, .int .i64 mr.j.safe, .int .i64 mr.p.key, .slice obg mr.p.l.length cbg, .slice oRg mr.p.ring.length cRg, .slice otg mr.t.length ctg] 46)).cell? ⟨w7.heap.size, 0, none⟩ = some (.int .i64 mr.j.key) := block_cellB bxg 0 _ rfl
    have bxgc1 : (w7.alloc (.cells #[.int .i64 mr.j.key, .slice og mr.j.l.length cg, .int .i64 mr.j.safe, .int .i64 mr.p.key, .slice obg mr.p.l.length cbg, .slice oRg mr.p.ring.length cRg, .slice otg mr.t.length ctg] 46)).cell? ⟨w7.heap.size, 1, none⟩ = some (.slice og mr.j.l.length cg) := block_cellB bxg 1 _ rfl
    have bxgc2 : (w7.alloc (.cells #[.int .i64 mr.j.key, .slice og mr.j.l.length cg, .int .i64 mr.j.safe, .int .i64 mr.p.key, .slice obg mr.p.l.length cbg, .slice oRg mr.p.ring.length cRg, .slice otg mr.t.length ctg] 46)).cell? ⟨w7.heap.size, 2, none⟩ = some (.int .i64 mr.j.safe) := block_cellB bxg 2 _ rfl
    have bxgc3 : (w7.alloc (.cells #[.int .i64 mr.j.key, .slice og mr.j.l.length cg, .int .i64 mr.j.safe, .int .i64 mr.p.key, .slice obg mr.p.l.length cbg, .slice oRg mr.p.ring.length cRg, .slice otg mr.t.length ctg] 46)).cell? ⟨w7.heap.size, 3, none⟩ = some (.int .i64 mr.p.key) := block_cellB bxg 3 _ rfl
    have bxgc4 : (w7.alloc (.cells #[.int .i64 mr.j.key, .slice og mr.j.l.length cg, .int .i64 mr.j.safe, .int .i64 mr.p.key, .slice obg mr.p.l.length cbg, .slice oRg mr.p.ring.length cRg, .slice otg mr.t.length ctg] 46)).cell? ⟨w7.heap.size, 4, none⟩ = some (.slice obg mr.p.l.length cbg) := block_cellB bxg 4 _ rfl
    have bxgc5 : (w7.alloc (.cells #[.int .i64 mr.j.key, .slice og mr.j.l.length cg, .int .i64 mr.j.safe, .int .i64 mr.p.key, .slice obg mr.p.l.length cbg, .slice oRg mr.p.ring.length cRg, .slice otg mr.t.length ctg] 46)).cell? ⟨w7.heap.size, 5, none⟩ = some (.slice oRg mr.p.ring.length cRg) := block_cellB bxg 5 _ rfl
    have bxgc6 : (w7.alloc (.cells #[.int .i64 mr.j.key, .slice og mr.j.l.length cg, .int .i64 mr.j.safe, .int .i64 mr.p.key, .slice obg mr.p.l.length cbg, .slice oRg mr.p.ring.length cRg, .slice otg mr.t.length ctg] 46)).cell? ⟨w7.heap.size, 6, none⟩ = some (.slice otg mr.t.length ctg) := block_cellB bxg 6 _ rfl
    have Hbxg := hide bxg
    have Hb_ := hide hb_w8
    clear bxg hb_w8
    have Hbxa := hide bxa
    clear bxa
    have Hinw := hide inw
    clear inw
    have Hbxw := hide bxw
    clear bxw
    have Hinx := hide inx
    clear inx
    have Hbxx := hide bxx
    clear bxx
    have Hing := hide ing
    clear ing
    have HB_ := hide B_w7
    clear B_w7
    go_wp2_with fail
    clear bxwc0 bxwc1 bxwc2 bxwc3 bxwc4 bxwc5 bxwc6
    clear bxgc0 bxgc1 bxgc2 bxgc3 bxgc4 bxgc5 bxgc6
    have bxa := Hbxa.out
    clear Hbxa
    have inw := Hinw.out
    clear Hinw
    have bxw := Hbxw.out
    clear Hbxw
    have inx := Hinx.out
    clear Hinx
    have bxx := Hbxx.out
    clear Hbxx
    have ing := Hing.out
    clear Hing
    have B_w7 := HB_.out
    clear HB_
    have bxg := Hbxg.out
    have hb_w8 := Hb_.out
    clear Hbxg Hb_
    generalize w7.alloc (.cells #[.int .i64 mr.j.key, .slice og mr.j.l.length cg, .int .i64 mr.j.safe, .int .i64 mr.p.key, .slice obg mr.p.l.length cbg, .slice oRg mr.p.ring.length cRg, .slice otg mr.t.length ctg] 46) = w8 at *
    replace bxa := (hb_w8.block _ (by omega)).trans bxa
    replace inw := inw.step (Stp.of (lo := 0) (hi := 0) hb_w8) (.inl (Nat.zero_le _))
    replace bxw := (hb_w8.block _ (by omega)).trans bxw
    replace inx := inx.step (Stp.of (lo := 0) (hi := 0) hb_w8) (.inl (Nat.zero_le _))
    replace bxx := (hb_w8.block _ (by omega)).trans bxx
    replace ing := ing.step (Stp.of (lo := 0) (hi := 0) hb_w8) (.inl (Nat.zero_le _))
    have B_w8 : Below w.heap.size w w8 := B_w7.trans (hb_w8.mono B_w7.size)
    have hs_w8 : w7.heap.size ≤ w8.heap.size := hb_w8.size
    clear hb_w8 B_w7
    refine (eqBal_sh _ _ mr w8 (ing.rd.le (by omega)) (inw.rd.le (by omega)) hmr.b0).mono ?_
    rintro e w9 ⟨rfl, hb_w9⟩
    replace bxa := (hb_w9.block _ (by omega)).trans bxa
    replace inw := inw.step (Stp.of (lo := 0) (hi := 0) hb_w9) (.inl (Nat.zero_le _))
    replace bxw := (hb_w9.block _ (by omega)).trans bxw
    replace inx := inx.step (Stp.of (lo := 0) (hi := 0) hb_w9) (.inl (Nat.zero_le _))
    replace bxx := (hb_w9.block _ (by omega)).trans bxx
    replace ing := ing.step (Stp.of (lo := 0) (hi := 0) hb_w9) (.inl (Nat.zero_le _))
    replace bxg := (hb_w9.block _ (by omega)).trans bxg
    have B_w9 : Below w.heap.size w w9 := B_w8.trans (hb_w9.mono B_w8.size)
    have hs_w9 : w8.heap.size ≤ w9.heap.size := hb_w9.size
    clear hb_w9 B_w8
    have bxac0 : w9.cell? ⟨w.heap.size, 0, none⟩ = some (.int .i64 m.j.key) := block_cellB bxa 0 _ rfl
    have bxac1 : w9.cell? ⟨w.heap.size, 1, none⟩ = some (.slice oa m.j.l.length ca) := block_cellB bxa 1 _ rfl
    have bxac2 : w9.cell? ⟨w.heap.size, 2, none⟩ = some (.int .i64 m.j.safe) := block_cellB bxa 2 _ rfl
    have bxac3 : w9.cell? ⟨w.heap.size, 3, none⟩ = some (.int .i64 m.p.key) := block_cellB bxa 3 _ rfl
    have bxac4 : w9.cell? ⟨w.heap.size, 4, none⟩ = some (.slice oba m.p.l.length cba) := block_cellB bxa 4 _ rfl
    have bxac5 : w9.cell? ⟨w.heap.size, 5, none⟩ = some (.slice oRa m.p.ring.length cRa) := block_cellB bxa 5 _ rfl
    have bxac6 : w9.cell? ⟨w.heap.size, 6, none⟩ = some (.slice ota m.t.length cta) := block_cellB bxa 6 _ rfl
    have bxxc0 : w9.cell? ⟨w5.heap.size, 0, none⟩ = some (.int .i64 m.j.key) := block_cellB bxx 0 _ rfl
    have bxxc1 : w9.cell? ⟨w5.heap.size, 1, none⟩ = some (.slice ox m.j.l.length cx) := block_cellB bxx 1 _ rfl
    have bxxc2 : w9.cell? ⟨w5.heap.size, 2, none⟩ = some (.int .i64 m.j.safe) := block_cellB bxx 2 _ rfl
    have bxxc3 : w9.cell? ⟨w5.heap.size, 3, none⟩ = some (.int .i64 m.p.key) := block_cellB bxx 3 _ rfl
    have bxxc4 : w9.cell? ⟨w5.heap.size, 4, none⟩ = some (.slice obx m.p.l.length cbx) := block_cellB bxx 4 _ rfl
    have bxxc5 : w9.cell? ⟨w5.heap.size, 5, none⟩ = some (.slice oRx m.p.ring.length cRx) := block_cellB bxx 5 _ rfl
    have bxxc6 : w9.cell? ⟨w5.heap.size, 6, none⟩ = some (.slice otx m.t.length ctx) := block_cellB bxx 6 _ rfl
    have Hbxa := hide bxa
    clear bxa
    have Hinw := hide inw
    clear inw
    have Hbxw := hide bxw
    clear bxw
    have Hinx := hide inx
    clear inx
    have Hbxx := hide bxx
    clear bxx
    have Hing := hide ing
    clear ing
    have Hbxg := hide bxg
    clear bxg
    have HB_ := hide B_w9
    clear B_w9
    go_wp2
    have hk_bxa : w.heap.size < w9.heap.size := by omega
    have hk_bxx : w5.heap.size < w9.heap.size := by omega
    go_region_held3 (fun w' => w'.cell? ⟨w.heap.size, 0, none⟩ = some (.int .i64 m.j.key) ∧ w'.cell? ⟨w.heap.size, 1, none⟩ = some (.slice oa m.j.l.length ca) ∧ w'.cell? ⟨w.heap.size, 2, none⟩ = some (.int .i64 m.j.safe) ∧ w'.cell? ⟨w.heap.size, 3, none⟩ = some (.int .i64 m.p.key) ∧ w'.cell? ⟨w.heap.size, 4, none⟩ = some (.slice oba m.p.l.length cba) ∧ w'.cell? ⟨w.heap.size, 5, none⟩ = some (.slice oRa m.p.ring.length cRa) ∧ w'.cell? ⟨w.heap.size, 6, none⟩ = some (.slice ota m.t.length cta) ∧ w'.cell? ⟨w5.heap.size, 0, none⟩ = some (.int .i64 m.j.key) ∧ w'.cell? ⟨w5.heap.size, 1, none⟩ = some (.slice ox m.j.l.length cx) ∧ w'.cell? ⟨w5.heap.size, 2, none⟩ = some (.int .i64 m.j.safe) ∧ w'.cell? ⟨w5.heap.size, 3, none⟩ = some (.int .i64 m.p.key) ∧ w'.cell? ⟨w5.heap.size, 4, none⟩ = some (.slice obx m.p.l.length cbx) ∧ w'.cell? ⟨w5.heap.size, 5, none⟩ = some (.slice oRx m.p.ring.length cRx) ∧ w'.cell? ⟨w5.heap.size, 6, none⟩ = some (.slice otx m.t.length ctx)) (first | exact ⟨k1_0, k1_1, k1_2, k1_3, k1_4, k1_5, k1_6, k1_7, k1_8, k1_9, k1_10, k1_11, k1_12, k1_13⟩ | exact ⟨k0_0, k0_1, k0_2, k0_3, k0_4, k0_5, k0_6, k0_7, k0_8, k0_9, k0_10, k0_11, k0_12, k0_13⟩ | exact ⟨bxac0, bxac1, bxac2, bxac3, bxac4, bxac5, bxac6, bxxc0, bxxc1, bxxc2, bxxc3, bxxc4, bxxc5, bxxc6⟩) (first | (go_at_call 13; refine (toBal_sh _ m w9.drew ((hR.kept (Below.drew HB_.out) (Nat.le_refl _)).le HB_.out.size) hf).mono ?_; rintro e w10 ⟨va, rfl, ina, hb⟩; have hbx : Below w9.heap.size w9 w10 := (Below.drew (Below.refl _ _)).trans hb; have rdx := Hinx.out.rd.kept hbx (by omega); have szx := hbx.size; have hx0 : Below w9.heap.size w9 w10 := (Below.drew (Below.refl _ _)).trans hb; clear hb; have k0_0 := (hx0.cell (p := ⟨w.heap.size, 0, none⟩) hk_bxa).trans bxac0; have k0_1 := (hx0.cell (p := ⟨w.heap.size, 1, none⟩) hk_bxa).trans bxac1; have k0_2 := (hx0.cell (p := ⟨w.heap.size, 2, none⟩) hk_bxa).trans bxac2; have k0_3 := (hx0.cell (p := ⟨w.heap.size, 3, none⟩) hk_bxa).trans bxac3; have k0_4 := (hx0.cell (p := ⟨w.heap.size, 4, none⟩) hk_bxa).trans bxac4; have k0_5 := (hx0.cell (p := ⟨w.heap.size, 5, none⟩) hk_bxa).trans bxac5; have k0_6 := (hx0.cell (p := ⟨w.heap.size, 6, none⟩) hk_bxa).trans bxac6; have k0_7 := (hx0.cell (p := ⟨w5.heap.size, 0, none⟩) hk_bxx).trans bxxc0; have k0_8 := (hx0.cell (p := ⟨w5.heap.size, 1, none⟩) hk_bxx).trans bxxc1; have k0_9 := (hx0.cell (p := ⟨w5.heap.size, 2, none⟩) hk_bxx).trans bxxc2; have k0_10 := (hx0.cell (p := ⟨w5.heap.size, 3, none⟩) hk_bxx).trans bxxc3; have k0_11 := (hx0.cell (p := ⟨w5.heap.size, 4, none⟩) hk_bxx).trans bxxc4; have k0_12 := (hx0.cell (p := ⟨w5.heap.size, 5, none⟩) hk_bxx).trans bxxc5; have k0_13 := (hx0.cell (p := ⟨w5.heap.size, 6, none⟩) hk_bxx).trans bxxc6) | (go_at_call 15; refine (eqBal_sh _ _ m w10 (rdx.le (by omega)) (ina.rd.le (Nat.le_refl _)) hf).mono ?_; rintro e w11 ⟨rfl, hb⟩; have hx1 : Below w9.heap.size w9 w11 := hx0.trans (hb.mono hx0.size); clear hb; have k1_0 := (hx1.cell (p := ⟨w.heap.size, 0, none⟩) hk_bxa).trans bxac0; have k1_1 := (hx1.cell (p := ⟨w.heap.size, 1, none⟩) hk_bxa).trans bxac1; have k1_2 := (hx1.cell (p := ⟨w.heap.size, 2, none⟩) hk_bxa).trans bxac2; have k1_3 := (hx1.cell (p := ⟨w.heap.size, 3, none⟩) hk_bxa).trans bxac3; have k1_4 := (hx1.cell (p := ⟨w.heap.size, 4, none⟩) hk_bxa).trans bxac4; have k1_5 := (hx1.cell (p := ⟨w.heap.size, 5, none⟩) hk_bxa).trans bxac5; have k1_6 := (hx1.cell (p := ⟨w.heap.size, 6, none⟩) hk_bxa).trans bxac6; have k1_7 := (hx1.cell (p := ⟨w5.heap.size, 0, none⟩) hk_bxx).trans bxxc0; have k1_8 := (hx1.cell (p := ⟨w5.heap.size, 1, none⟩) hk_bxx).trans bxxc1; have k1_9 := (hx1.cell (p := ⟨w5.heap.size, 2, none⟩) hk_bxx).trans bxxc2; have k1_10 := (hx1.cell (p := ⟨w5.heap.size, 3, none⟩) hk_bxx).trans bxxc3; have k1_11 := (hx1.cell (p := ⟨w5.heap.size, 4, none⟩) hk_bxx).trans bxxc4; have k1_12 := (hx1.cell (p := ⟨w5.heap.size, 5, none⟩) hk_bxx).trans bxxc5; have k1_13 := (hx1.cell (p := ⟨w5.heap.size, 6, none⟩) hk_bxx).trans bxxc6))
    clear k0_0 k0_1 k0_2 k0_3 k0_4 k0_5 k0_6 k0_7 k0_8 k0_9 k0_10 k0_11 k0_12 k0_13
    clear k1_0 k1_1 k1_2 k1_3 k1_4 k1_5 k1_6 k1_7 k1_8 k1_9 k1_10 k1_11 k1_12 k1_13
    clear hk_bxa hk_bxx hx0
    clear bxac0 bxac1 bxac2 bxac3 bxac4 bxac5 bxac6
    clear bxxc0 bxxc1 bxxc2 bxxc3 bxxc4 bxxc5 bxxc6
    have bxa := Hbxa.out
    clear Hbxa
    have inw := Hinw.out
    clear Hinw
    have bxw := Hbxw.out
    clear Hbxw
    have inx := Hinx.out
    clear Hinx
    have bxx := Hbxx.out
    clear Hbxx
    have ing := Hing.out
    clear Hing
    have bxg := Hbxg.out
    clear Hbxg
    have B_w9 := HB_.out
    clear HB_
    replace bxa := (hx1.block _ (by omega)).trans bxa
    replace inw := inw.step (Stp.of (lo := 0) (hi := 0) hx1) (.inl (Nat.zero_le _))
    replace bxw := (hx1.block _ (by omega)).trans bxw
    replace inx := inx.step (Stp.of (lo := 0) (hi := 0) hx1) (.inl (Nat.zero_le _))
    replace bxx := (hx1.block _ (by omega)).trans bxx
    replace ing := ing.step (Stp.of (lo := 0) (hi := 0) hx1) (.inl (Nat.zero_le _))
    replace bxg := (hx1.block _ (by omega)).trans bxg
    have B_w11 : Below w.heap.size w w11 := B_w9.trans (hx1.mono B_w9.size)
    have hs_w11 : w9.heap.size ≤ w11.heap.size := hx1.size
    clear hx1 B_w9
    clear rdx szx ina hbx
    have bxxc0 : w11.cell? ⟨w5.heap.size, 0, none⟩ = some (.int .i64 m.j.key) := block_cellB bxx 0 _ rfl
    have bxxc1 : w11.cell? ⟨w5.heap.size, 1, none⟩ = some (.slice ox m.j.l.length cx) := block_cellB bxx 1 _ rfl
    have bxxc2 : w11.cell? ⟨w5.heap.size, 2, none⟩ = some (.int .i64 m.j.safe) := block_cellB bxx 2 _ rfl
    have bxxc3 : w11.cell? ⟨w5.heap.size, 3, none⟩ = some (.int .i64 m.p.key) := block_cellB bxx 3 _ rfl
    have bxxc4 : w11.cell? ⟨w5.heap.size, 4, none⟩ = some (.slice obx m.p.l.length cbx) := block_cellB bxx 4 _ rfl
    have bxxc5 : w11.cell? ⟨w5.heap.size, 5, none⟩ = some (.slice oRx m.p.ring.length cRx) := block_cellB bxx 5 _ rfl
    have bxxc6 : w11.cell? ⟨w5.heap.size, 6, none⟩ = some (.slice otx m.t.length ctx) := block_cellB bxx 6 _ rfl
    have Hbxa := hide bxa
    clear bxa
    have Hinw := hide inw
    clear inw
    have Hbxw := hide bxw
    clear bxw
    have Hinx := hide inx
    clear inx
    have Hbxx := hide bxx
    clear bxx
    have Hing := hide ing
    clear ing
    have Hbxg := hide bxg
    clear bxg
    have HB_ := hide B_w11
    clear B_w11
    go_wp2_with fail
    clear bxxc0 bxxc1 bxxc2 bxxc3 bxxc4 bxxc5 bxxc6
    have bxa := Hbxa.out
    clear Hbxa
    have inw := Hinw.out
    clear Hinw
    have bxw := Hbxw.out
    clear Hbxw
    have inx := Hinx.out
    clear Hinx
    have bxx := Hbxx.out
    clear Hbxx
    have ing := Hing.out
    clear Hing
    have bxg := Hbxg.out
    clear Hbxg
    have B_w11 := HB_.out
    clear HB_
    refine (markBal_sh0 (w4.heap.size) (w5.heap.size) _ m 1 w11 inx (by omega) (by omega) (by omega) hf).mono ?_
    rintro e w12 ⟨rfl, _, sp_w12⟩
    clear bxx
    replace bxa := sp_w12.box bxa (by omega)
    replace inw := inw.step sp_w12 (by omega)
    replace bxw := sp_w12.box bxw (by omega)
    replace ing := ing.step sp_w12 (by omega)
    replace bxg := sp_w12.box bxg (by omega)
    have B_w12 : Below w.heap.size w w12 := B_w11.trans (sp_w12.below (by omega) (by omega))
    have hs_w12 : w11.heap.size ≤ w12.heap.size := sp_w12.size
    clear sp_w12 B_w11
    clear inx
    have hnb := nBm_bd0 hf
    have hk1 : ¬ (1 + nBm m < 0) := by omega
    have hk0 : (0 : Int) ≤ 1 + nBm m := by omega
    clear hnb
    have bxgc0 : w12.cell? ⟨w7.heap.size, 0, none⟩ = some (.int .i64 mr.j.key) := block_cellB bxg 0 _ rfl
    have bxgc1 : w12.cell? ⟨w7.heap.size, 1, none⟩ = some (.slice og mr.j.l.length cg) := block_cellB bxg 1 _ rfl
    have bxgc2 : w12.cell? ⟨w7.heap.size, 2, none⟩ = some (.int .i64 mr.j.safe) := block_cellB bxg 2 _ rfl
    have bxgc3 : w12.cell? ⟨w7.heap.size, 3, none⟩ = some (.int .i64 mr.p.key) := block_cellB bxg 3 _ rfl
    have bxgc4 : w12.cell? ⟨w7.heap.size, 4, none⟩ = some (.slice obg mr.p.l.length cbg) := block_cellB bxg 4 _ rfl
    have bxgc5 : w12.cell? ⟨w7.heap.size, 5, none⟩ = some (.slice oRg mr.p.ring.length cRg) := block_cellB bxg 5 _ rfl
    have bxgc6 : w12.cell? ⟨w7.heap.size, 6, none⟩ = some (.slice otg mr.t.length ctg) := block_cellB bxg 6 _ rfl
    have bxwc0 : w12.cell? ⟨w3.heap.size, 0, none⟩ = some (.int .i64 mr.j.key) := block_cellB bxw 0 _ rfl
    have bxwc1 : w12.cell? ⟨w3.heap.size, 1, none⟩ = some (.slice ow mr.j.l.length cw) := block_cellB bxw 1 _ rfl
    have bxwc2 : w12.cell? ⟨w3.heap.size, 2, none⟩ = some (.int .i64 mr.j.safe) := block_cellB bxw 2 _ rfl
    have bxwc3 : w12.cell? ⟨w3.heap.size, 3, none⟩ = some (.int .i64 mr.p.key) := block_cellB bxw 3 _ rfl
    have bxwc4 : w12.cell? ⟨w3.heap.size, 4, none⟩ = some (.slice obw mr.p.l.length cbw) := block_cellB bxw 4 _ rfl
    have bxwc5 : w12.cell? ⟨w3.heap.size, 5, none⟩ = some (.slice oRw mr.p.ring.length cRw) := block_cellB bxw 5 _ rfl
    have bxwc6 : w12.cell? ⟨w3.heap.size, 6, none⟩ = some (.slice otw mr.t.length ctw) := block_cellB bxw 6 _ rfl
    have Hbxa := hide bxa
    clear bxa
    have Hinw := hide inw
    clear inw
    have Hbxw := hide bxw
    clear bxw
    have Hing := hide ing
    clear ing
    have Hbxg := hide bxg
    clear bxg
    have HB_ := hide B_w12
    clear B_w12
    go_wp2_with fail
    clear bxgc0 bxgc1 bxgc2 bxgc3 bxgc4 bxgc5 bxgc6
    clear bxwc0 bxwc1 bxwc2 bxwc3 bxwc4 bxwc5 bxwc6
    have bxa := Hbxa.out
    clear Hbxa
    have inw := Hinw.out
    clear Hinw
    have bxw := Hbxw.out
    clear Hbxw
    have ing := Hing.out
    clear Hing
    have bxg := Hbxg.out
    clear Hbxg
    have B_w12 := HB_.out
    clear HB_
    refine (eqBal_sh _ _ mr w12 (ing.rd.le (by omega)) (inw.rd.le (by omega)) hmr.b0).mono ?_
    rintro e w13 ⟨rfl, hb_w13⟩
    replace bxa := (hb_w13.block _ (by omega)).trans bxa
    replace inw := inw.step (Stp.of (lo := 0) (hi := 0) hb_w13) (.inl (Nat.zero_le _))
    replace bxw := (hb_w13.block _ (by omega)).trans bxw
    replace ing := ing.step (Stp.of (lo := 0) (hi := 0) hb_w13) (.inl (Nat.zero_le _))
    replace bxg := (hb_w13.block _ (by omega)).trans bxg
    have B_w13 : Below w.heap.size w w13 := B_w12.trans (hb_w13.mono B_w12.size)
    have hs_w13 : w12.heap.size ≤ w13.heap.size := hb_w13.size
    clear hb_w13 B_w12
    have bxgc0 : w13.cell? ⟨w7.heap.size, 0, none⟩ = some (.int .i64 mr.j.key) := block_cellB bxg 0 _ rfl
    have bxgc1 : w13.cell? ⟨w7.heap.size, 1, none⟩ = some (.slice og mr.j.l.length cg) := block_cellB bxg 1 _ rfl
    have bxgc2 : w13.cell? ⟨w7.heap.size, 2, none⟩ = some (.int .i64 mr.j.safe) := block_cellB bxg 2 _ rfl
    have bxgc3 : w13.cell? ⟨w7.heap.size, 3, none⟩ = some (.int .i64 mr.p.key) := block_cellB bxg 3 _ rfl
    have bxgc4 : w13.cell? ⟨w7.heap.size, 4, none⟩ = some (.slice obg mr.p.l.length cbg) := block_cellB bxg 4 _ rfl
    have bxgc5 : w13.cell? ⟨w7.heap.size, 5, none⟩ = some (.slice oRg mr.p.ring.length cRg) := block_cellB bxg 5 _ rfl
    have bxgc6 : w13.cell? ⟨w7.heap.size, 6, none⟩ = some (.slice otg mr.t.length ctg) := block_cellB bxg 6 _ rfl
    have Hbxa := hide bxa
    clear bxa
    have Hinw := hide inw
    clear inw
    have Hbxw := hide bxw
    clear bxw
    have Hing := hide ing
    clear ing
    have Hbxg := hide bxg
    clear bxg
    have HB_ := hide B_w13
    clear B_w13
    go_wp2_with fail
    clear bxgc0 bxgc1 bxgc2 bxgc3 bxgc4 bxgc5 bxgc6
    have bxa := Hbxa.out
    clear Hbxa
    have inw := Hinw.out
    clear Hinw
    have bxw := Hbxw.out
    clear Hbxw
    have ing := Hing.out
    clear Hing
    have bxg := Hbxg.out
    clear Hbxg
    have B_w13 := HB_.out
    clear HB_
    refine (markBal_sh0 (w6.heap.size) (w7.heap.size) _ mr 1 w13 ing (by omega) (by omega) (by omega) hmr.b0).mono ?_
    rintro e w14 ⟨rfl, ing', sp_w14⟩
    replace bxa := sp_w14.box bxa (by omega)
    replace inw := inw.step sp_w14 (by omega)
    replace bxw := sp_w14.box bxw (by omega)
    replace bxg := sp_w14.box bxg (by omega)
    have B_w14 : Below w.heap.size w w14 := B_w13.trans (sp_w14.below (by omega) (by omega))
    have hs_w14 : w13.heap.size ≤ w14.heap.size := sp_w14.size
    clear sp_w14 B_w13
    clear ing
    have ing := ing'
    clear ing'
    have hnb := nBm_bd0 hmr.b0
    have hk2 : (0 : Int) ≤ 1 + nBm mr ∧ 1 + nBm mr ≤ 100000000 := by omega
    have hk3 : ¬ (1 + nBm mr < 0) := by omega
    clear hnb
    have bxgc0 : w14.cell? ⟨w7.heap.size, 0, none⟩ = some (.int .i64 mr.j.key) := block_cellB bxg 0 _ rfl
    have bxgc1 : w14.cell? ⟨w7.heap.size, 1, none⟩ = some (.slice og mr.j.l.length cg) := block_cellB bxg 1 _ rfl
    have bxgc2 : w14.cell? ⟨w7.heap.size, 2, none⟩ = some (.int .i64 mr.j.safe) := block_cellB bxg 2 _ rfl
    have bxgc3 : w14.cell? ⟨w7.heap.size, 3, none⟩ = some (.int .i64 mr.p.key) := block_cellB bxg 3 _ rfl
    have bxgc4 : w14.cell? ⟨w7.heap.size, 4, none⟩ = some (.slice obg mr.p.l.length cbg) := block_cellB bxg 4 _ rfl
    have bxgc5 : w14.cell? ⟨w7.heap.size, 5, none⟩ = some (.slice oRg mr.p.ring.length cRg) := block_cellB bxg 5 _ rfl
    have bxgc6 : w14.cell? ⟨w7.heap.size, 6, none⟩ = some (.slice otg mr.t.length ctg) := block_cellB bxg 6 _ rfl
    have Hbxa := hide bxa
    clear bxa
    have Hinw := hide inw
    clear inw
    have Hbxw := hide bxw
    clear bxw
    have Hing := hide ing
    clear ing
    have Hbxg := hide bxg
    clear bxg
    have HB_ := hide B_w14
    clear B_w14
    go_wp2_with fail
    clear bxgc0 bxgc1 bxgc2 bxgc3 bxgc4 bxgc5 bxgc6
    have bxa := Hbxa.out
    clear Hbxa
    have inw := Hinw.out
    clear Hinw
    have bxw := Hbxw.out
    clear Hbxw
    have ing := Hing.out
    clear Hing
    have bxg := Hbxg.out
    clear Hbxg
    have B_w14 := HB_.out
    clear HB_
    refine (heldBal_sh0 _ mr 1 w14 (ing.rd.le (by omega)) (by omega) (by omega) hmr.b0).mono ?_
    rintro e w15 ⟨rfl, hb_w15⟩
    replace bxa := (hb_w15.block _ (by omega)).trans bxa
    replace inw := inw.step (Stp.of (lo := 0) (hi := 0) hb_w15) (.inl (Nat.zero_le _))
    replace bxw := (hb_w15.block _ (by omega)).trans bxw
    replace ing := ing.step (Stp.of (lo := 0) (hi := 0) hb_w15) (.inl (Nat.zero_le _))
    replace bxg := (hb_w15.block _ (by omega)).trans bxg
    have B_w15 : Below w.heap.size w w15 := B_w14.trans (hb_w15.mono B_w14.size)
    have hs_w15 : w14.heap.size ≤ w15.heap.size := hb_w15.size
    clear hb_w15 B_w14
    have bxac0 : w15.cell? ⟨w.heap.size, 0, none⟩ = some (.int .i64 m.j.key) := block_cellB bxa 0 _ rfl
    have bxac1 : w15.cell? ⟨w.heap.size, 1, none⟩ = some (.slice oa m.j.l.length ca) := block_cellB bxa 1 _ rfl
    have bxac2 : w15.cell? ⟨w.heap.size, 2, none⟩ = some (.int .i64 m.j.safe) := block_cellB bxa 2 _ rfl
    have bxac3 : w15.cell? ⟨w.heap.size, 3, none⟩ = some (.int .i64 m.p.key) := block_cellB bxa 3 _ rfl
    have bxac4 : w15.cell? ⟨w.heap.size, 4, none⟩ = some (.slice oba m.p.l.length cba) := block_cellB bxa 4 _ rfl
    have bxac5 : w15.cell? ⟨w.heap.size, 5, none⟩ = some (.slice oRa m.p.ring.length cRa) := block_cellB bxa 5 _ rfl
    have bxac6 : w15.cell? ⟨w.heap.size, 6, none⟩ = some (.slice ota m.t.length cta) := block_cellB bxa 6 _ rfl
    have Hbxa := hide bxa
    clear bxa
    have Hinw := hide inw
    clear inw
    have Hbxw := hide bxw
    clear bxw
    have Hing := hide ing
    clear ing
    have Hbxg := hide bxg
    clear bxg
    have HB_ := hide B_w15
    clear B_w15
    go_wp2_with fail
    clear bxac0 bxac1 bxac2 bxac3 bxac4 bxac5 bxac6
    have bxa := Hbxa.out
    clear Hbxa
    have inw := Hinw.out
    clear Hinw
    have bxw := Hbxw.out
    clear Hbxw
    have ing := Hing.out
    clear Hing
    have bxg := Hbxg.out
    clear Hbxg
    have B_w15 := HB_.out
    clear HB_
    refine (toBal_sh _ m w15 ((hR.kept B_w15 (Nat.le_refl _)).le B_w15.size) hf).mono ?_
    rintro e w16 ⟨vy, rfl, iny, hb_w16⟩
    replace bxa := (hb_w16.block _ (by omega)).trans bxa
    replace inw := inw.step (Stp.of (lo := 0) (hi := 0) hb_w16) (.inl (Nat.zero_le _))
    replace bxw := (hb_w16.block _ (by omega)).trans bxw
    replace ing := ing.step (Stp.of (lo := 0) (hi := 0) hb_w16) (.inl (Nat.zero_le _))
    replace bxg := (hb_w16.block _ (by omega)).trans bxg
    have B_w16 : Below w.heap.size w w16 := B_w15.trans (hb_w16.mono B_w15.size)
    have hs_w16 : w15.heap.size ≤ w16.heap.size := hb_w16.size
    clear hb_w16 B_w15
    have Hbxa := hide bxa
    clear bxa
    have Hinw := hide inw
    clear inw
    have Hbxw := hide bxw
    clear bxw
    have Hing := hide ing
    clear ing
    have Hbxg := hide bxg
    clear bxg
    have Hiny := hide iny
    clear iny
    have HB_ := hide B_w16
    clear B_w16
    go_wp2_with fail
    have bxa := Hbxa.out
    clear Hbxa
    have inw := Hinw.out
    clear Hinw
    have bxw := Hbxw.out
    clear Hbxw
    have ing := Hing.out
    clear Hing
    have bxg := Hbxg.out
    clear Hbxg
    have iny := Hiny.out
    clear Hiny
    have B_w16 := HB_.out
    clear HB_
    refine (HI.out _ _ _ w16 iny (by omega)).mono ?_
    rintro e w17 ⟨vh, rfl, inh, hb_w17⟩
    replace bxa := (hb_w17.block _ (by omega)).trans bxa
    replace inw := inw.step (Stp.of (lo := 0) (hi := 0) hb_w17) (.inl (Nat.zero_le _))
    replace bxw := (hb_w17.block _ (by omega)).trans bxw
    replace ing := ing.step (Stp.of (lo := 0) (hi := 0) hb_w17) (.inl (Nat.zero_le _))
    replace bxg := (hb_w17.block _ (by omega)).trans bxg
    replace iny := iny.step (Stp.of (lo := 0) (hi := 0) hb_w17) (.inl (Nat.zero_le _))
    have B_w17 : Below w.heap.size w w17 := B_w16.trans (hb_w17.mono B_w16.size)
    have hs_w17 : w16.heap.size ≤ w17.heap.size := hb_w17.size
    clear hb_w17 B_w16
    clear iny
    obtain ⟨oh, ch, obh, cbh, oRh, cRh, oth, cth, evh⟩ := inh.rd.opn
    subst evh
    have bxh : (w17.alloc (.cells #[.int .i64 mr.j.key, .slice oh mr.j.l.length ch, .int .i64 mr.j.safe, .int .i64 mr.p.key, .slice obh mr.p.l.length cbh, .slice oRh mr.p.ring.length cRh, .slice oth mr.t.length cth] 46)).heap[w17.heap.size]? = some (.cells #[.int .i64 mr.j.key, .slice oh mr.j.l.length ch, .int .i64 mr.j.safe, .int .i64 mr.p.key, .slice obh mr.p.l.length cbh, .slice oRh mr.p.ring.length cRh, .slice oth mr.t.length cth] 46 (0, 0)) := World.alloc_heap_new w17 (.cells #[.int .i64 mr.j.key, .slice oh mr.j.l.length ch, .int .i64 mr.j.safe, .int .i64 mr.p.key, .slice obh mr.p.l.length cbh, .slice oRh mr.p.ring.length cRh, .slice oth mr.t.length cth] 46)
    have hb_w18 : Below w17.heap.size w17 (w17.alloc (.cells #[.int .i64 mr.j.key, .slice oh mr.j.l.length ch, .int .i64 mr.j.safe, .int .i64 mr.p.key, .slice obh mr.p.l.length cbh, .slice oRh mr.p.ring.length cRh, .slice oth mr.t.length cth] 46)) := (Below.refl _ _).alloc (Nat.le_refl _) _
    have hz_w18 : w17.heap.size < (w17.alloc (.cells #[.int .i64 mr.j.key, .slice oh mr.j.l.length ch, .int .i64 mr.j.safe, .int .i64 mr.p.key, .slice obh mr.p.l.length cbh, .slice oRh mr.p.ring.length cRh, .slice oth mr.t.length cth] 46)).heap.size := by simp
    have bxwW := (hb_w18.block _ (by omega)).trans bxw
    have bxwc0 : (w17.alloc (.cells #[.int .i64 mr.j.key, .slice oh mr.j.l.length ch, .int .i64 mr.j.safe, .int .i64 mr.p.key, .slice obh mr.p.l.length cbh, .slice oRh mr.p.ring.length cRh, .slice oth mr.t.length cth] 46)).cell? ⟨w3.heap.size, 0, none⟩ = some (.int .i64 mr.j.key) := block_cellB bxwW 0 _ rfl
    have bxwc1 : (w17.alloc (.cells #[.int .i64 mr.j.key, .slice oh mr.j.l.length ch, .int .i64 mr.j.safe, .int .i64 mr.p.key, .slice obh mr.p.l.length cbh, .slice oRh mr.p.ring.length cRh, .slice oth mr.t.length cth] 46)).cell? ⟨w3.heap.size, 1, none⟩ = some (.slice ow mr.j.l.length cw) := block_cellB bxwW 1 _ rfl
    have bxwc2 : (w17.alloc (.cells #[.int .i64 mr.j.key, .slice oh mr.j.l.length ch, .int .i64 mr.j.safe, .int .i64 mr.p.key, .slice obh mr.p.l.length cbh, .slice oRh mr.p.ring.length cRh, .slice oth mr.t.length cth] 46)).cell? ⟨w3.heap.size, 2, none⟩ = some (.int .i64 mr.j.safe) := block_cellB bxwW 2 _ rfl
    have bxwc3 : (w17.alloc (.cells #[.int .i64 mr.j.key, .slice oh mr.j.l.length ch, .int .i64 mr.j.safe, .int .i64 mr.p.key, .slice obh mr.p.l.length cbh, .slice oRh mr.p.ring.length cRh, .slice oth mr.t.length cth] 46)).cell? ⟨w3.heap.size, 3, none⟩ = some (.int .i64 mr.p.key) := block_cellB bxwW 3 _ rfl
    have bxwc4 : (w17.alloc (.cells #[.int .i64 mr.j.key, .slice oh mr.j.l.length ch, .int .i64 mr.j.safe, .int .i64 mr.p.key, .slice obh mr.p.l.length cbh, .slice oRh mr.p.ring.length cRh, .slice oth mr.t.length cth] 46)).cell? ⟨w3.heap.size, 4, none⟩ = some (.slice obw mr.p.l.length cbw) := block_cellB bxwW 4 _ rfl
    have bxwc5 : (w17.alloc (.cells #[.int .i64 mr.j.key, .slice oh mr.j.l.length ch, .int .i64 mr.j.safe, .int .i64 mr.p.key, .slice obh mr.p.l.length cbh, .slice oRh mr.p.ring.length cRh, .slice oth mr.t.length cth] 46)).cell? ⟨w3.heap.size, 5, none⟩ = some (.slice oRw mr.p.ring.length cRw) := block_cellB bxwW 5 _ rfl
    have bxwc6 : (w17.alloc (.cells #[.int .i64 mr.j.key, .slice oh mr.j.l.length ch, .int .i64 mr.j.safe, .int .i64 mr.p.key, .slice obh mr.p.l.length cbh, .slice oRh mr.p.ring.length cRh, .slice oth mr.t.length cth] 46)).cell? ⟨w3.heap.size, 6, none⟩ = some (.slice otw mr.t.length ctw) := block_cellB bxwW 6 _ rfl
    clear bxwW
    have bxhc0 : (w17.alloc (.cells #[.int .i64 mr.j.key, .slice oh mr.j.l.length ch, .int .i64 mr.j.safe, .int .i64 mr.p.key, .slice obh mr.p.l.length cbh, .slice oRh mr.p.ring.length cRh, .slice oth mr.t.length cth] 46)).cell? ⟨w17.heap.size, 0, none⟩ = some (.int .i64 mr.j.key) := block_cellB bxh 0 _ rfl
    have bxhc1 : (w17.alloc (.cells #[.int .i64 mr.j.key, .slice oh mr.j.l.length ch, .int .i64 mr.j.safe, .int .i64 mr.p.key, .slice obh mr.p.l.length cbh, .slice oRh mr.p.ring.length cRh, .slice oth mr.t.length cth] 46)).cell? ⟨w17.heap.size, 1, none⟩ = some (.slice oh mr.j.l.length ch) := block_cellB bxh 1 _ rfl
    have bxhc2 : (w17.alloc (.cells #[.int .i64 mr.j.key, .slice oh mr.j.l.length ch, .int .i64 mr.j.safe, .int .i64 mr.p.key, .slice obh mr.p.l.length cbh, .slice oRh mr.p.ring.length cRh, .slice oth mr.t.length cth] 46)).cell? ⟨w17.heap.size, 2, none⟩ = some (.int .i64 mr.j.safe) := block_cellB bxh 2 _ rfl
    have bxhc3 : (w17.alloc (.cells #[.int .i64 mr.j.key, .slice oh mr.j.l.length ch, .int .i64 mr.j.safe, .int .i64 mr.p.key, .slice obh mr.p.l.length cbh, .slice oRh mr.p.ring.length cRh, .slice oth mr.t.length cth] 46)).cell? ⟨w17.heap.size, 3, none⟩ = some (.int .i64 mr.p.key) := block_cellB bxh 3 _ rfl
    have bxhc4 : (w17.alloc (.cells #[.int .i64 mr.j.key, .slice oh mr.j.l.length ch, .int .i64 mr.j.safe, .int .i64 mr.p.key, .slice obh mr.p.l.length cbh, .slice oRh mr.p.ring.length cRh, .slice oth mr.t.length cth] 46)).cell? ⟨w17.heap.size, 4, none⟩ = some (.slice obh mr.p.l.length cbh) := block_cellB bxh 4 _ rfl
    have bxhc5 : (w17.alloc (.cells #[.int .i64 mr.j.key, .slice oh mr.j.l.length ch, .int .i64 mr.j.safe, .int .i64 mr.p.key, .slice obh mr.p.l.length cbh, .slice oRh mr.p.ring.length cRh, .slice oth mr.t.length cth] 46)).cell? ⟨w17.heap.size, 5, none⟩ = some (.slice oRh mr.p.ring.length cRh) := block_cellB bxh 5 _ rfl
    have bxhc6 : (w17.alloc (.cells #[.int .i64 mr.j.key, .slice oh mr.j.l.length ch, .int .i64 mr.j.safe, .int .i64 mr.p.key, .slice obh mr.p.l.length cbh, .slice oRh mr.p.ring.length cRh, .slice oth mr.t.length cth] 46)).cell? ⟨w17.heap.size, 6, none⟩ = some (.slice oth mr.t.length cth) := block_cellB bxh 6 _ rfl
    have Hbxh := hide bxh
    have Hb_ := hide hb_w18
    clear bxh hb_w18
    have Hbxa := hide bxa
    clear bxa
    have Hinw := hide inw
    clear inw
    have Hbxw := hide bxw
    clear bxw
    have Hing := hide ing
    clear ing
    have Hbxg := hide bxg
    clear bxg
    have Hinh := hide inh
    clear inh
    have HB_ := hide B_w17
    clear B_w17
    go_wp2_with fail
    clear bxwc0 bxwc1 bxwc2 bxwc3 bxwc4 bxwc5 bxwc6
    clear bxhc0 bxhc1 bxhc2 bxhc3 bxhc4 bxhc5 bxhc6
    have bxa := Hbxa.out
    clear Hbxa
    have inw := Hinw.out
    clear Hinw
    have bxw := Hbxw.out
    clear Hbxw
    have ing := Hing.out
    clear Hing
    have bxg := Hbxg.out
    clear Hbxg
    have inh := Hinh.out
    clear Hinh
    have B_w17 := HB_.out
    clear HB_
    have bxh := Hbxh.out
    have hb_w18 := Hb_.out
    clear Hbxh Hb_
    generalize w17.alloc (.cells #[.int .i64 mr.j.key, .slice oh mr.j.l.length ch, .int .i64 mr.j.safe, .int .i64 mr.p.key, .slice obh mr.p.l.length cbh, .slice oRh mr.p.ring.length cRh, .slice oth mr.t.length cth] 46) = w18 at *
    replace bxa := (hb_w18.block _ (by omega)).trans bxa
    replace inw := inw.step (Stp.of (lo := 0) (hi := 0) hb_w18) (.inl (Nat.zero_le _))
    replace bxw := (hb_w18.block _ (by omega)).trans bxw
    replace ing := ing.step (Stp.of (lo := 0) (hi := 0) hb_w18) (.inl (Nat.zero_le _))
    replace bxg := (hb_w18.block _ (by omega)).trans bxg
    replace inh := inh.step (Stp.of (lo := 0) (hi := 0) hb_w18) (.inl (Nat.zero_le _))
    have B_w18 : Below w.heap.size w w18 := B_w17.trans (hb_w18.mono B_w17.size)
    have hs_w18 : w17.heap.size ≤ w18.heap.size := hb_w18.size
    clear hb_w18 B_w17
    refine (eqBal_sh _ _ mr w18 (inh.rd.le (by omega)) (inw.rd.le (by omega)) hmr.b0).mono ?_
    rintro e w19 ⟨rfl, hb_w19⟩
    replace bxa := (hb_w19.block _ (by omega)).trans bxa
    replace inw := inw.step (Stp.of (lo := 0) (hi := 0) hb_w19) (.inl (Nat.zero_le _))
    replace bxw := (hb_w19.block _ (by omega)).trans bxw
    replace ing := ing.step (Stp.of (lo := 0) (hi := 0) hb_w19) (.inl (Nat.zero_le _))
    replace bxg := (hb_w19.block _ (by omega)).trans bxg
    replace inh := inh.step (Stp.of (lo := 0) (hi := 0) hb_w19) (.inl (Nat.zero_le _))
    replace bxh := (hb_w19.block _ (by omega)).trans bxh
    have B_w19 : Below w.heap.size w w19 := B_w18.trans (hb_w19.mono B_w18.size)
    have hs_w19 : w18.heap.size ≤ w19.heap.size := hb_w19.size
    clear hb_w19 B_w18
    clear inh
    clear bxh
    have bxgc0 : w19.cell? ⟨w7.heap.size, 0, none⟩ = some (.int .i64 mr.j.key) := block_cellB bxg 0 _ rfl
    have bxgc1 : w19.cell? ⟨w7.heap.size, 1, none⟩ = some (.slice og mr.j.l.length cg) := block_cellB bxg 1 _ rfl
    have bxgc2 : w19.cell? ⟨w7.heap.size, 2, none⟩ = some (.int .i64 mr.j.safe) := block_cellB bxg 2 _ rfl
    have bxgc3 : w19.cell? ⟨w7.heap.size, 3, none⟩ = some (.int .i64 mr.p.key) := block_cellB bxg 3 _ rfl
    have bxgc4 : w19.cell? ⟨w7.heap.size, 4, none⟩ = some (.slice obg mr.p.l.length cbg) := block_cellB bxg 4 _ rfl
    have bxgc5 : w19.cell? ⟨w7.heap.size, 5, none⟩ = some (.slice oRg mr.p.ring.length cRg) := block_cellB bxg 5 _ rfl
    have bxgc6 : w19.cell? ⟨w7.heap.size, 6, none⟩ = some (.slice otg mr.t.length ctg) := block_cellB bxg 6 _ rfl
    have Hbxa := hide bxa
    clear bxa
    have Hinw := hide inw
    clear inw
    have Hbxw := hide bxw
    clear bxw
    have Hing := hide ing
    clear ing
    have Hbxg := hide bxg
    clear bxg
    have HB_ := hide B_w19
    clear B_w19
    go_wp2_with fail
    clear bxgc0 bxgc1 bxgc2 bxgc3 bxgc4 bxgc5 bxgc6
    have bxa := Hbxa.out
    clear Hbxa
    have inw := Hinw.out
    clear Hinw
    have bxw := Hbxw.out
    clear Hbxw
    have ing := Hing.out
    clear Hing
    have bxg := Hbxg.out
    clear Hbxg
    have B_w19 := HB_.out
    clear HB_
    refine (heldBal_sh0 _ mr 1 w19 (ing.rd.le (by omega)) (by omega) (by omega) hmr.b0).mono ?_
    rintro e w20 ⟨rfl, hb_w20⟩
    replace bxa := (hb_w20.block _ (by omega)).trans bxa
    replace inw := inw.step (Stp.of (lo := 0) (hi := 0) hb_w20) (.inl (Nat.zero_le _))
    replace bxw := (hb_w20.block _ (by omega)).trans bxw
    replace ing := ing.step (Stp.of (lo := 0) (hi := 0) hb_w20) (.inl (Nat.zero_le _))
    replace bxg := (hb_w20.block _ (by omega)).trans bxg
    have B_w20 : Below w.heap.size w w20 := B_w19.trans (hb_w20.mono B_w19.size)
    have hs_w20 : w19.heap.size ≤ w20.heap.size := hb_w20.size
    clear hb_w20 B_w19
    have Hbxa := hide bxa
    clear bxa
    have Hinw := hide inw
    clear inw
    have Hbxw := hide bxw
    clear bxw
    have Hing := hide ing
    clear ing
    have Hbxg := hide bxg
    clear bxg
    have HB_ := hide B_w20
    clear B_w20
    go_wp2
    go_ret
    exact ⟨rfl, HB_.out⟩

theorem walkFnExactCrash (v : Value) (m : Bm) (keep : Int) (w : World) (hR : RdBm w.heap.size w v m) (hl : lenBm m) :
    Calls Tryz.prog 9 #[v, .int .i64 keep] w fun e w' => e = .returned (.bool true) ∧ Below w.heap.size w w' := lawFnExactCrash v m keep w hR hl

set_option maxRecDepth 100000 in
theorem fnExactCrash_lifted (os : Os) (started : os.Started) (H : Type) (enc : TypeId × Value → H) :
    ReturnsInHanded {} Tryz.checked os 9 .any (Rows.fnExactCrashSpec.pre6 enc Tryz.prog Tryz.f9 Rows.fnExactCrashRow.domain false) (Rows.fnExactCrashSpec.post enc Tryz.prog Tryz.f9 false true false false) := by
  refine returnsInHanded_of_change (C := Tryz.checked) own started (by kernel_rfl) Tryz.func9
    (ChangeSpec.witness6 (enc := enc) (C := Tryz.checked) false ⟨#[], #[.agg #[.int .i64 0, .slice none 0 0, .int .i64 0, .int .i64 0, .slice none 0 0, .slice none 0 0, .slice none 0 0], .int .i64 0], []⟩ 8 (by kernel_rfl) (by kernel_rfl) (by kernel_rfl) (by kernel_rfl)) ?_
  intro W base args ds gs before hval0 hW hcnd _
  have hval : ∀ (j : Nat) t v, Tryz.f9.params[j]? = some t → args[j]? = some v → Value.okWide Tryz.prog W .any base t v := hval0
  have hW' := hW
  obtain ⟨p, q, hA0, hV, rfl, hfz, hnd⟩ := hW
  have hA : DataW.TrodAll enc Tryz.prog W 0 (fun _ => true) true Tryz.f9.params.toList args.toList ds p := hA0
  rw [Tryz.params9] at hA hval
  obtain ⟨v0, vs0, d0, ds0, p0, q0, hargs, rfl, rfl, h0, r0⟩ := trodAll_cons hA
  obtain ⟨v1, vs1, d1, ds1, p1, q1, rfl, rfl, rfl, h1, r1⟩ := trodAll_cons r0
  obtain ⟨rfl, rfl, rfl⟩ := trodAll_nil r1
  obtain rfl : args = #[v0, v1] := by cases args; simp_all
  obtain ⟨rfl, rfl⟩ := trodVars_none hV
  have k0 := h0
  have lt0 : ∀ x ∈ p0, x.block < W.heap.size := by obtain ⟨m, hm⟩ := k0; exact DataW.trod_lt m _ _ _ hm
  have k1 := h1
  have lt1 : ∀ x ∈ p1, x.block < W.heap.size := by obtain ⟨m, hm⟩ := k1; exact DataW.trod_lt m _ _ _ hm
  obtain ⟨m0, hR0, hl0⟩ := open_bal (hval 0 33 v0 rfl rfl) h0
  obtain ⟨a1, rfl, _, _, w1⟩ := open_int Tryz.underlying3 (hval 1 3 v1 rfl rfl) h1
  clear hA0 hval0
  refine (walkFnExactCrash v0 m0 a1 W hR0 hl0  ).mono fun e W' ⟨he, bel⟩ => ?_
  subst he
  exact ⟨_, rfl, _, _, _, [], _, [], hW', trodAll_mk1 (shut_bool Tryz.underlying4 _), (trodAll_cons_mk (Below.trod laidOut (by kernel_rfl) (of_decide_eq_true (by kernel_rfl)) k0 bel lt0) (trodAll_cons_mk (Below.trod laidOut (by kernel_rfl) (of_decide_eq_true (by kernel_rfl)) k1 bel lt1) trodAll_mk0)), rfl, bel.frame _, fun h => by cases h⟩

theorem fnExactCrash_over : Rows.fnExactCrashRow.holds Tryz.pinned (OpenSpec.ofChange Rows.fnExactCrashSpec) :=
  OpenClaim.holds_of_wide 9 Tryz.f9 rfl rfl rfl rfl rfl rfl rfl ⟨rfl, rfl, rfl, rfl, rfl⟩ rfl rfl rfl rfl rfl (by kernel_rfl) Tryz.func9 (by kernel_rfl)
    (of_decide_eq_true (by kernel_rfl)) (by unfold Func.isWrapper; first | (rw [if_pos (by decide +kernel)]; kernel_rfl) | (rw [if_neg (by decide +kernel)]; exact ⟨rfl, rfl⟩))
    (fun os started H enc _ => fnExactCrash_lifted os started H enc)

theorem fnExactCrash_holds : Rows.FnExactCrashSaid := fnExactCrash_over

end Go.Proofs.YtajfkcpifnpkeaaGreat

