/- For every balancer the law FnExactBalOk answers true, and the balancer reads as it did: impl.BalOk answers as the model's, and writes nothing into what it is handed. No conditions. -/
import Derived.Test.YtajfkcpifnpkeaaGreatGrOpenB
import Derived.Deep.RegionHeld3
namespace Go.Proofs.YtajfkcpifnpkeaaGreat
open Go.ChangeShapes Go.WideShapes Go.ChangeAt Go.RowKit Go.Joins
set_option linter.unusedVariables false
set_option linter.unusedSimpArgs false

theorem specBalOk_in (lo hi : Nat) (v : Value) (m : Bm) (w : World) (h : InBm lo hi w v m) (hh : hi ≤ w.heap.size) (hf : fitB0 m) :
    Calls Tryz.prog 12 #[v] w fun e w' => e = .returned (.bool (balB m)) ∧ Below w.heap.size w w' := by
  obtain ⟨o, c, ob, cb, oR, cR, ot, ct, rfl, r1, r2, r3, r4⟩ := balIn_open h hh
  exact specBalOk_any m.j.key o m.j.l.length c m.j.safe m.p.key ob m.p.l.length cb oR m.p.ring.length cR ot m.t.length ct m.j.l m.p.l m.p.ring m.t w rfl rfl r1 r2 r3 r4 hf
theorem implBalOk_in (lo hi : Nat) (v : Value) (m : Bm) (w : World) (h : InBm lo hi w v m) (hh : hi ≤ w.heap.size) (hf : fitB0 m) :
    Calls Tryz.prog 14 #[v] w fun e w' => e = .returned (.bool (balB m)) ∧ Below w.heap.size w w' := by
  obtain ⟨o, c, ob, cb, oR, cR, ot, ct, rfl, r1, r2, r3, r4⟩ := balIn_open h hh
  exact implBalOk_any m.j.key o m.j.l.length c m.j.safe m.p.key ob m.p.l.length cb oR m.p.ring.length cR ot m.t.length ct m.j.l m.p.l m.p.ring m.t w rfl rfl r1 r2 r3 r4 hf
set_option maxRecDepth 100000 in
set_option maxHeartbeats 8000000 in
theorem lawFnExactBalOk (v : Value) (m : Bm) (w : World) (hR : RdBm w.heap.size w v m) (hl : lenBm m) :
    Calls Tryz.prog 3 #[v] w fun e w' => e = .returned (.bool true) ∧ Below w.heap.size w w' := by
  obtain ⟨oa, ca, oba, cba, oRa, cRa, ota, cta, eva⟩ := hR.opn
  subst eva
  have bxa : (w.alloc (.cells #[.int .i64 m.j.key, .slice oa m.j.l.length ca, .int .i64 m.j.safe, .int .i64 m.p.key, .slice oba m.p.l.length cba, .slice oRa m.p.ring.length cRa, .slice ota m.t.length cta] 33)).heap[w.heap.size]? = some (.cells #[.int .i64 m.j.key, .slice oa m.j.l.length ca, .int .i64 m.j.safe, .int .i64 m.p.key, .slice oba m.p.l.length cba, .slice oRa m.p.ring.length cRa, .slice ota m.t.length cta] 33 (0, 0)) := World.alloc_heap_new w (.cells #[.int .i64 m.j.key, .slice oa m.j.l.length ca, .int .i64 m.j.safe, .int .i64 m.p.key, .slice oba m.p.l.length cba, .slice oRa m.p.ring.length cRa, .slice ota m.t.length cta] 33)
  have hb_w0 : Below w.heap.size w (w.alloc (.cells #[.int .i64 m.j.key, .slice oa m.j.l.length ca, .int .i64 m.j.safe, .int .i64 m.p.key, .slice oba m.p.l.length cba, .slice oRa m.p.ring.length cRa, .slice ota m.t.length cta] 33)) := (Below.refl _ _).alloc (Nat.le_refl _) _
  have hz_w0 : w.heap.size < (w.alloc (.cells #[.int .i64 m.j.key, .slice oa m.j.l.length ca, .int .i64 m.j.safe, .int .i64 m.p.key, .slice oba m.p.l.length cba, .slice oRa m.p.ring.length cRa, .slice ota m.t.length cta] 33)).heap.size := by simp
  have Hbxa := hide bxa
  have Hb_ := hide hb_w0
  have HR := hide hR
  clear bxa hb_w0 hR
  go_enter Tryz.func3, Tryz.ntmps3
  go_wp2_with fail
  have bxa := Hbxa.out
  have hb_w0 := Hb_.out
  have hR := HR.out
  clear Hbxa Hb_ HR
  generalize w.alloc (.cells #[.int .i64 m.j.key, .slice oa m.j.l.length ca, .int .i64 m.j.safe, .int .i64 m.p.key, .slice oba m.p.l.length cba, .slice oRa m.p.ring.length cRa, .slice ota m.t.length cta] 33) = w0 at *
  have B_w0 := hb_w0
  clear hb_w0
  refine (szBal_sh _ m w0 ((hR.kept B_w0 (Nat.le_refl _)).le B_w0.size) hl).mono ?_
  rintro e w1 ⟨⟨zz, rfl, hz⟩, hb_w1⟩
  replace bxa := (hb_w1.block _ (by omega)).trans bxa
  have B_w1 : Below w.heap.size w w1 := B_w0.trans (hb_w1.mono B_w0.size)
  have hs_w1 : w0.heap.size ≤ w1.heap.size := hb_w1.size
  clear hb_w1 B_w0
  rcases hz with ⟨hz1, hz2⟩ | ⟨hz1, hz2, hf⟩
  · have Hbxa := hide bxa
    clear bxa
    have HB_ := hide B_w1
    clear B_w1
    go_wp2
    go_ret
    exact ⟨rfl, HB_.out⟩
  · have HS := hide (fun lo hi v w h hh => specBalOk_in lo hi v m w h hh hf)
    have HI := hide (fun lo hi v w h hh => implBalOk_in lo hi v m w h hh hf)
    generalize balB m = t at *
    have bxac0 : w1.cell? ⟨w.heap.size, 0, none⟩ = some (.int .i64 m.j.key) := block_cellB bxa 0 _ rfl
    have bxac1 : w1.cell? ⟨w.heap.size, 1, none⟩ = some (.slice oa m.j.l.length ca) := block_cellB bxa 1 _ rfl
    have bxac2 : w1.cell? ⟨w.heap.size, 2, none⟩ = some (.int .i64 m.j.safe) := block_cellB bxa 2 _ rfl
    have bxac3 : w1.cell? ⟨w.heap.size, 3, none⟩ = some (.int .i64 m.p.key) := block_cellB bxa 3 _ rfl
    have bxac4 : w1.cell? ⟨w.heap.size, 4, none⟩ = some (.slice oba m.p.l.length cba) := block_cellB bxa 4 _ rfl
    have bxac5 : w1.cell? ⟨w.heap.size, 5, none⟩ = some (.slice oRa m.p.ring.length cRa) := block_cellB bxa 5 _ rfl
    have bxac6 : w1.cell? ⟨w.heap.size, 6, none⟩ = some (.slice ota m.t.length cta) := block_cellB bxa 6 _ rfl
    have Hbxa := hide bxa
    clear bxa
    have HB_ := hide B_w1
    clear B_w1
    go_wp2_with fail
    clear bxac0 bxac1 bxac2 bxac3 bxac4 bxac5 bxac6
    have bxa := Hbxa.out
    clear Hbxa
    have B_w1 := HB_.out
    clear HB_
    refine (toBal_sh _ m w1 ((hR.kept B_w1 (Nat.le_refl _)).le B_w1.size) hf).mono ?_
    rintro e w2 ⟨v2, rfl, in2, hb_w2⟩
    replace bxa := (hb_w2.block _ (by omega)).trans bxa
    have B_w2 : Below w.heap.size w w2 := B_w1.trans (hb_w2.mono B_w1.size)
    have hs_w2 : w1.heap.size ≤ w2.heap.size := hb_w2.size
    clear hb_w2 B_w1
    have Hbxa := hide bxa
    clear bxa
    have Hin2 := hide in2
    clear in2
    have HB_ := hide B_w2
    clear B_w2
    go_wp2_with fail
    have bxa := Hbxa.out
    clear Hbxa
    have in2 := Hin2.out
    clear Hin2
    have B_w2 := HB_.out
    clear HB_
    refine (HS.out _ _ _ w2 in2 (by omega)).mono ?_
    rintro e w3 ⟨rfl, hb_w3⟩
    replace bxa := (hb_w3.block _ (by omega)).trans bxa
    replace in2 := in2.step (Stp.of (lo := 0) (hi := 0) hb_w3) (.inl (Nat.zero_le _))
    have B_w3 : Below w.heap.size w w3 := B_w2.trans (hb_w3.mono B_w2.size)
    have hs_w3 : w2.heap.size ≤ w3.heap.size := hb_w3.size
    clear hb_w3 B_w2
    clear in2
    have bxac0 : w3.cell? ⟨w.heap.size, 0, none⟩ = some (.int .i64 m.j.key) := block_cellB bxa 0 _ rfl
    have bxac1 : w3.cell? ⟨w.heap.size, 1, none⟩ = some (.slice oa m.j.l.length ca) := block_cellB bxa 1 _ rfl
    have bxac2 : w3.cell? ⟨w.heap.size, 2, none⟩ = some (.int .i64 m.j.safe) := block_cellB bxa 2 _ rfl
    have bxac3 : w3.cell? ⟨w.heap.size, 3, none⟩ = some (.int .i64 m.p.key) := block_cellB bxa 3 _ rfl
    have bxac4 : w3.cell? ⟨w.heap.size, 4, none⟩ = some (.slice oba m.p.l.length cba) := block_cellB bxa 4 _ rfl
    have bxac5 : w3.cell? ⟨w.heap.size, 5, none⟩ = some (.slice oRa m.p.ring.length cRa) := block_cellB bxa 5 _ rfl
    have bxac6 : w3.cell? ⟨w.heap.size, 6, none⟩ = some (.slice ota m.t.length cta) := block_cellB bxa 6 _ rfl
    have Hbxa := hide bxa
    clear bxa
    have HB_ := hide B_w3
    clear B_w3
    go_wp2_with fail
    clear bxac0 bxac1 bxac2 bxac3 bxac4 bxac5 bxac6
    have bxa := Hbxa.out
    clear Hbxa
    have B_w3 := HB_.out
    clear HB_
    refine (toBal_sh _ m w3 ((hR.kept B_w3 (Nat.le_refl _)).le B_w3.size) hf).mono ?_
    rintro e w4 ⟨vx, rfl, inx, hb_w4⟩
    replace bxa := (hb_w4.block _ (by omega)).trans bxa
    have B_w4 : Below w.heap.size w w4 := B_w3.trans (hb_w4.mono B_w3.size)
    have hs_w4 : w3.heap.size ≤ w4.heap.size := hb_w4.size
    clear hb_w4 B_w3
    obtain ⟨ox, cx, obx, cbx, oRx, cRx, otx, ctx, evx⟩ := inx.rd.opn
    subst evx
    have bxx : (w4.alloc (.cells #[.int .i64 m.j.key, .slice ox m.j.l.length cx, .int .i64 m.j.safe, .int .i64 m.p.key, .slice obx m.p.l.length cbx, .slice oRx m.p.ring.length cRx, .slice otx m.t.length ctx] 46)).heap[w4.heap.size]? = some (.cells #[.int .i64 m.j.key, .slice ox m.j.l.length cx, .int .i64 m.j.safe, .int .i64 m.p.key, .slice obx m.p.l.length cbx, .slice oRx m.p.ring.length cRx, .slice otx m.t.length ctx] 46 (0, 0)) := World.alloc_heap_new w4 (.cells #[.int .i64 m.j.key, .slice ox m.j.l.length cx, .int .i64 m.j.safe, .int .i64 m.p.key, .slice obx m.p.l.length cbx, .slice oRx m.p.ring.length cRx, .slice otx m.t.length ctx] 46)
    have hb_w5 : Below w4.heap.size w4 (w4.alloc (.cells #[.int .i64 m.j.key, .slice ox m.j.l.length cx, .int .i64 m.j.safe, .int .i64 m.p.key, .slice obx m.p.l.length cbx, .slice oRx m.p.ring.length cRx, .slice otx m.t.length ctx] 46)) := (Below.refl _ _).alloc (Nat.le_refl _) _
    have hz_w5 : w4.heap.size < (w4.alloc (.cells #[.int .i64 m.j.key, .slice ox m.j.l.length cx, .int .i64 m.j.safe, .int .i64 m.p.key, .slice obx m.p.l.length cbx, .slice oRx m.p.ring.length cRx, .slice otx m.t.length ctx] 46)).heap.size := by simp
    have bxxc0 : (w4.alloc (.cells #[.int .i64 m.j.key, .slice ox m.j.l.length cx, .int .i64 m.j.safe, .int .i64 m.p.key, .slice obx m.p.l.length cbx, .slice oRx m.p.ring.length cRx, .slice otx m.t.length ctx] 46)).cell? ⟨w4.heap.size, 0, none⟩ = some (.int .i64 m.j.key) := block_cellB bxx 0 _ rfl
    have bxxc1 : (w4.alloc (.cells #[.int .i64 m.j.key, .slice ox m.j.l.length cx, .int .i64 m.j.safe, .int .i64 m.p.key, .slice obx m.p.l.length cbx, .slice oRx m.p.ring.length cRx, .slice otx m.t.length ctx] 46)).cell? ⟨w4.heap.size, 1, none⟩ = some (.slice ox m.j.l.length cx) := block_cellB bxx 1 _ rfl
    have bxxc2 : (w4.alloc (.cells #[.int .i64 m.j.key, .slice ox m.j.l.length cx, .int .i64 m.j.safe, .int .i64 m.p.key, .slice obx m.p.l.length cbx, .slice oRx m.p.ring.length cRx, .slice otx m.t.length ctx] 46)).cell? ⟨w4.heap.size, 2, none⟩ = some (.int .i64 m.j.safe) := block_cellB bxx 2 _ rfl
    have bxxc3 : (w4.alloc (.cells #[.int .i64 m.j.key, .slice ox m.j.l.length cx, .int .i64 m.j.safe, .int .i64 m.p.key, .slice obx m.p.l.length cbx, .slice oRx m.p.ring.length cRx, .slice otx m.t.length ctx] 46)).cell? ⟨w4.heap.size, 3, none⟩ = some (.int .i64 m.p.key) := block_cellB bxx 3 _ rfl
    have bxxc4 : (w4.alloc (.cells #[.int .i64 m.j.key, .slice ox m.j.l.length cx, .int .i64 m.j.safe, .int .i64 m.p.key, .slice obx m.p.l.length cbx, .slice oRx m.p.ring.length cRx, .slice otx m.t.length ctx] 46)).cell? ⟨w4.heap.size, 4, none⟩ = some (.slice obx m.p.l.length cbx) := block_cellB bxx 4 _ rfl
    have bxxc5 : (w4.alloc (.cells #[.int .i64 m.j.key, .slice ox m.j.l.length cx, .int .i64 m.j.safe, .int .i64 m.p.key, .slice obx m.p.l.length cbx, .slice oRx m.p.ring.length cRx, .slice otx m.t.length ctx] 46)).cell? ⟨w4.heap.size, 5, none⟩ = some (.slice oRx m.p.ring.length cRx) := block_cellB bxx 5 _ rfl
    have bxxc6 : (w4.alloc (.cells #[.int .i64 m.j.key, .slice ox m.j.l.length cx, .int .i64 m.j.safe, .int .i64 m.p.key, .slice obx m.p.l.length cbx, .slice oRx m.p.ring.length cRx, .slice otx m.t.length ctx] 46)).cell? ⟨w4.heap.size, 6, none⟩ = some (.slice otx m.t.length ctx) := block_cellB bxx 6 _ rfl
    have Hbxx := hide bxx
    have Hb_ := hide hb_w5
    clear bxx hb_w5
    have Hbxa := hide bxa
    clear bxa
    have Hinx := hide inx
    clear inx
    have HB_ := hide B_w4
    clear B_w4
    go_wp2_with fail
    clear bxxc0 bxxc1 bxxc2 bxxc3 bxxc4 bxxc5 bxxc6
    have bxa := Hbxa.out
    clear Hbxa
    have inx := Hinx.out
    clear Hinx
    have B_w4 := HB_.out
    clear HB_
    have bxx := Hbxx.out
    have hb_w5 := Hb_.out
    clear Hbxx Hb_
    generalize w4.alloc (.cells #[.int .i64 m.j.key, .slice ox m.j.l.length cx, .int .i64 m.j.safe, .int .i64 m.p.key, .slice obx m.p.l.length cbx, .slice oRx m.p.ring.length cRx, .slice otx m.t.length ctx] 46) = w5 at *
    replace bxa := (hb_w5.block _ (by omega)).trans bxa
    replace inx := inx.step (Stp.of (lo := 0) (hi := 0) hb_w5) (.inl (Nat.zero_le _))
    have B_w5 : Below w.heap.size w w5 := B_w4.trans (hb_w5.mono B_w4.size)
    have hs_w5 : w4.heap.size ≤ w5.heap.size := hb_w5.size
    clear hb_w5 B_w4
    refine (HI.out _ _ _ w5 inx (by omega)).mono ?_
    rintro e w6 ⟨rfl, hb_w6⟩
    replace bxa := (hb_w6.block _ (by omega)).trans bxa
    replace inx := inx.step (Stp.of (lo := 0) (hi := 0) hb_w6) (.inl (Nat.zero_le _))
    replace bxx := (hb_w6.block _ (by omega)).trans bxx
    have B_w6 : Below w.heap.size w w6 := B_w5.trans (hb_w6.mono B_w5.size)
    have hs_w6 : w5.heap.size ≤ w6.heap.size := hb_w6.size
    clear hb_w6 B_w5
    have bxac0 : w6.cell? ⟨w.heap.size, 0, none⟩ = some (.int .i64 m.j.key) := block_cellB bxa 0 _ rfl
    have bxac1 : w6.cell? ⟨w.heap.size, 1, none⟩ = some (.slice oa m.j.l.length ca) := block_cellB bxa 1 _ rfl
    have bxac2 : w6.cell? ⟨w.heap.size, 2, none⟩ = some (.int .i64 m.j.safe) := block_cellB bxa 2 _ rfl
    have bxac3 : w6.cell? ⟨w.heap.size, 3, none⟩ = some (.int .i64 m.p.key) := block_cellB bxa 3 _ rfl
    have bxac4 : w6.cell? ⟨w.heap.size, 4, none⟩ = some (.slice oba m.p.l.length cba) := block_cellB bxa 4 _ rfl
    have bxac5 : w6.cell? ⟨w.heap.size, 5, none⟩ = some (.slice oRa m.p.ring.length cRa) := block_cellB bxa 5 _ rfl
    have bxac6 : w6.cell? ⟨w.heap.size, 6, none⟩ = some (.slice ota m.t.length cta) := block_cellB bxa 6 _ rfl
    have bxxc0 : w6.cell? ⟨w4.heap.size, 0, none⟩ = some (.int .i64 m.j.key) := block_cellB bxx 0 _ rfl
    have bxxc1 : w6.cell? ⟨w4.heap.size, 1, none⟩ = some (.slice ox m.j.l.length cx) := block_cellB bxx 1 _ rfl
    have bxxc2 : w6.cell? ⟨w4.heap.size, 2, none⟩ = some (.int .i64 m.j.safe) := block_cellB bxx 2 _ rfl
    have bxxc3 : w6.cell? ⟨w4.heap.size, 3, none⟩ = some (.int .i64 m.p.key) := block_cellB bxx 3 _ rfl
    have bxxc4 : w6.cell? ⟨w4.heap.size, 4, none⟩ = some (.slice obx m.p.l.length cbx) := block_cellB bxx 4 _ rfl
    have bxxc5 : w6.cell? ⟨w4.heap.size, 5, none⟩ = some (.slice oRx m.p.ring.length cRx) := block_cellB bxx 5 _ rfl
    have bxxc6 : w6.cell? ⟨w4.heap.size, 6, none⟩ = some (.slice otx m.t.length ctx) := block_cellB bxx 6 _ rfl
    have Hbxa := hide bxa
    clear bxa
    have Hinx := hide inx
    clear inx
    have Hbxx := hide bxx
    clear bxx
    have HB_ := hide B_w6
    clear B_w6
    go_wp2
    have hka : w.heap.size < w6.heap.size := by omega
    have hkx : w4.heap.size < w6.heap.size := by omega
    go_region_held3 (fun w' => w'.cell? ⟨w.heap.size, 0, none⟩ = some (.int .i64 m.j.key) ∧ w'.cell? ⟨w.heap.size, 1, none⟩ = some (.slice oa m.j.l.length ca) ∧ w'.cell? ⟨w.heap.size, 2, none⟩ = some (.int .i64 m.j.safe) ∧ w'.cell? ⟨w.heap.size, 3, none⟩ = some (.int .i64 m.p.key) ∧ w'.cell? ⟨w.heap.size, 4, none⟩ = some (.slice oba m.p.l.length cba) ∧ w'.cell? ⟨w.heap.size, 5, none⟩ = some (.slice oRa m.p.ring.length cRa) ∧ w'.cell? ⟨w.heap.size, 6, none⟩ = some (.slice ota m.t.length cta) ∧ w'.cell? ⟨w4.heap.size, 0, none⟩ = some (.int .i64 m.j.key) ∧ w'.cell? ⟨w4.heap.size, 1, none⟩ = some (.slice ox m.j.l.length cx) ∧ w'.cell? ⟨w4.heap.size, 2, none⟩ = some (.int .i64 m.j.safe) ∧ w'.cell? ⟨w4.heap.size, 3, none⟩ = some (.int .i64 m.p.key) ∧ w'.cell? ⟨w4.heap.size, 4, none⟩ = some (.slice obx m.p.l.length cbx) ∧ w'.cell? ⟨w4.heap.size, 5, none⟩ = some (.slice oRx m.p.ring.length cRx) ∧ w'.cell? ⟨w4.heap.size, 6, none⟩ = some (.slice otx m.t.length ctx)) (first | exact ⟨q0, q1, q2, q3, q4, q5, q6, q7, q8, q9, q10, q11, q12, q13⟩ | exact ⟨p0, p1, p2, p3, p4, p5, p6, p7, p8, p9, p10, p11, p12, p13⟩ | exact ⟨bxac0, bxac1, bxac2, bxac3, bxac4, bxac5, bxac6, bxxc0, bxxc1, bxxc2, bxxc3, bxxc4, bxxc5, bxxc6⟩) (first | (go_at_call 13; refine (toBal_sh _ m w6.drew ((hR.kept (Below.drew HB_.out) (Nat.le_refl _)).le HB_.out.size) hf).mono ?_; rintro e w7 ⟨va, rfl, ina, hba⟩; replace hba : Below w6.heap.size w6 w7 := (Below.drew (Below.refl _ _)).trans hba; have p0 := (hba.cell (p := ⟨w.heap.size, 0, none⟩) hka).trans bxac0; have p1 := (hba.cell (p := ⟨w.heap.size, 1, none⟩) hka).trans bxac1; have p2 := (hba.cell (p := ⟨w.heap.size, 2, none⟩) hka).trans bxac2; have p3 := (hba.cell (p := ⟨w.heap.size, 3, none⟩) hka).trans bxac3; have p4 := (hba.cell (p := ⟨w.heap.size, 4, none⟩) hka).trans bxac4; have p5 := (hba.cell (p := ⟨w.heap.size, 5, none⟩) hka).trans bxac5; have p6 := (hba.cell (p := ⟨w.heap.size, 6, none⟩) hka).trans bxac6; have p7 := (hba.cell (p := ⟨w4.heap.size, 0, none⟩) hkx).trans bxxc0; have p8 := (hba.cell (p := ⟨w4.heap.size, 1, none⟩) hkx).trans bxxc1; have p9 := (hba.cell (p := ⟨w4.heap.size, 2, none⟩) hkx).trans bxxc2; have p10 := (hba.cell (p := ⟨w4.heap.size, 3, none⟩) hkx).trans bxxc3; have p11 := (hba.cell (p := ⟨w4.heap.size, 4, none⟩) hkx).trans bxxc4; have p12 := (hba.cell (p := ⟨w4.heap.size, 5, none⟩) hkx).trans bxxc5; have p13 := (hba.cell (p := ⟨w4.heap.size, 6, none⟩) hkx).trans bxxc6) | (go_at_call 15; refine (eqBal_sh _ _ m w7 ((Hinx.out.rd.kept hba (by omega)).le (by have := hba.size; omega)) (ina.rd.le (Nat.le_refl _)) hf).mono ?_; rintro e w8 ⟨rfl, hbb⟩; replace hbb : Below w6.heap.size w6 w8 := hba.trans (hbb.mono hba.size); have q0 := (hbb.cell (p := ⟨w.heap.size, 0, none⟩) hka).trans bxac0; have q1 := (hbb.cell (p := ⟨w.heap.size, 1, none⟩) hka).trans bxac1; have q2 := (hbb.cell (p := ⟨w.heap.size, 2, none⟩) hka).trans bxac2; have q3 := (hbb.cell (p := ⟨w.heap.size, 3, none⟩) hka).trans bxac3; have q4 := (hbb.cell (p := ⟨w.heap.size, 4, none⟩) hka).trans bxac4; have q5 := (hbb.cell (p := ⟨w.heap.size, 5, none⟩) hka).trans bxac5; have q6 := (hbb.cell (p := ⟨w.heap.size, 6, none⟩) hka).trans bxac6; have q7 := (hbb.cell (p := ⟨w4.heap.size, 0, none⟩) hkx).trans bxxc0; have q8 := (hbb.cell (p := ⟨w4.heap.size, 1, none⟩) hkx).trans bxxc1; have q9 := (hbb.cell (p := ⟨w4.heap.size, 2, none⟩) hkx).trans bxxc2; have q10 := (hbb.cell (p := ⟨w4.heap.size, 3, none⟩) hkx).trans bxxc3; have q11 := (hbb.cell (p := ⟨w4.heap.size, 4, none⟩) hkx).trans bxxc4; have q12 := (hbb.cell (p := ⟨w4.heap.size, 5, none⟩) hkx).trans bxxc5; have q13 := (hbb.cell (p := ⟨w4.heap.size, 6, none⟩) hkx).trans bxxc6))
    clear p0 q0 p1 q1 p2 q2 p3 q3 p4 q4 p5 q5 p6 q6 p7 q7 p8 q8 p9 q9 p10 q10 p11 q11 p12 q12 p13 q13 hka hkx ina hba
    clear bxac0 bxac1 bxac2 bxac3 bxac4 bxac5 bxac6
    clear bxxc0 bxxc1 bxxc2 bxxc3 bxxc4 bxxc5 bxxc6
    have bxa := Hbxa.out
    clear Hbxa
    have inx := Hinx.out
    clear Hinx
    have bxx := Hbxx.out
    clear Hbxx
    have B_w6 := HB_.out
    clear HB_
    replace bxa := (hbb.block _ (by omega)).trans bxa
    replace inx := inx.step (Stp.of (lo := 0) (hi := 0) hbb) (.inl (Nat.zero_le _))
    replace bxx := (hbb.block _ (by omega)).trans bxx
    have B_w8 : Below w.heap.size w w8 := B_w6.trans (hbb.mono B_w6.size)
    have hs_w8 : w6.heap.size ≤ w8.heap.size := hbb.size
    clear hbb B_w6
    have Hbxa := hide bxa
    clear bxa
    have Hinx := hide inx
    clear inx
    have Hbxx := hide bxx
    clear bxx
    have HB_ := hide B_w8
    clear B_w8
    go_wp2
    go_ret
    exact ⟨rfl, HB_.out⟩

set_option maxRecDepth 100000 in
theorem fnExactBalOk_lifted (os : Os) (started : os.Started) (H : Type) (enc : TypeId × Value → H) :
    ReturnsInHanded {} Tryz.checked os 3 .any (Rows.fnExactBalOkSpec.pre6 enc Tryz.prog Tryz.f3 Rows.fnExactBalOkRow.domain false) (Rows.fnExactBalOkSpec.post enc Tryz.prog Tryz.f3 false true false false) := by
  refine returnsInHanded_of_change (C := Tryz.checked) own started (by kernel_rfl) Tryz.func3
    (ChangeSpec.witness6 (enc := enc) (C := Tryz.checked) false ⟨#[], #[.agg #[.int .i64 0, .slice none 0 0, .int .i64 0, .int .i64 0, .slice none 0 0, .slice none 0 0, .slice none 0 0]], []⟩ 8 (by kernel_rfl) (by kernel_rfl) (by kernel_rfl) (by kernel_rfl)) ?_
  intro W base args ds gs before hval0 hW hcnd _
  have hval : ∀ (j : Nat) t v, Tryz.f3.params[j]? = some t → args[j]? = some v → Value.okWide Tryz.prog W .any base t v := hval0
  have hW' := hW
  obtain ⟨p, q, hA0, hV, rfl, hfz, hnd⟩ := hW
  have hA : DataW.TrodAll enc Tryz.prog W 0 (fun _ => true) true Tryz.f3.params.toList args.toList ds p := hA0
  rw [Tryz.params3] at hA hval
  obtain ⟨v0, vs0, d0, ds0, p0, q0, hargs, rfl, rfl, h0, r0⟩ := trodAll_cons hA
  obtain ⟨rfl, rfl, rfl⟩ := trodAll_nil r0
  obtain rfl : args = #[v0] := by cases args; simp_all
  obtain ⟨rfl, rfl⟩ := trodVars_none hV
  have k0 := h0
  have lt0 : ∀ x ∈ p0, x.block < W.heap.size := by obtain ⟨m, hm⟩ := k0; exact DataW.trod_lt m _ _ _ hm
  obtain ⟨m0, hR0, hl0⟩ := open_bal (hval 0 33 v0 rfl rfl) h0
  clear hA0 hval0
  refine (lawFnExactBalOk v0 m0 W hR0 hl0 ).mono fun e W' ⟨he, bel⟩ => ?_
  subst he
  exact ⟨_, rfl, _, _, _, [], _, [], hW', trodAll_mk1 (shut_bool Tryz.underlying4 _), (trodAll_cons_mk (Below.trod laidOut (by kernel_rfl) (of_decide_eq_true (by kernel_rfl)) k0 bel lt0) trodAll_mk0), rfl, bel.frame _, fun h => by cases h⟩

theorem fnExactBalOk_over : Rows.fnExactBalOkRow.holds Tryz.pinned (OpenSpec.ofChange Rows.fnExactBalOkSpec) :=
  OpenClaim.holds_of_wide 3 Tryz.f3 rfl rfl rfl rfl rfl rfl rfl ⟨rfl, rfl, rfl, rfl, rfl⟩ rfl rfl rfl rfl rfl (by kernel_rfl) Tryz.func3 (by kernel_rfl)
    (of_decide_eq_true (by kernel_rfl)) (by unfold Func.isWrapper; first | (rw [if_pos (by decide +kernel)]; kernel_rfl) | (rw [if_neg (by decide +kernel)]; exact ⟨rfl, rfl⟩))
    (fun os started H enc _ => fnExactBalOk_lifted os started H enc)

theorem fnExactBalOk_holds : Rows.FnExactBalOkSaid := fnExactBalOk_over

end Go.Proofs.YtajfkcpifnpkeaaGreat
