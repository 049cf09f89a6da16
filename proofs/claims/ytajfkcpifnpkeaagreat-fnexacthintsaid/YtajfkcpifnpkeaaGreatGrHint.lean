/- For every balancer and flow the law FnExactHint answers true, and the balancer reads as it did: impl.Hint answers as the model's, and writes nothing into what it is handed. No conditions. -/
import Derived.Test.YtajfkcpifnpkeaaGreatGrSHint
import Derived.Test.YtajfkcpifnpkeaaGreatGrOpenB
import Derived.Deep.RegionHeld3
namespace Go.Proofs.YtajfkcpifnpkeaaGreat
open Go.ChangeShapes Go.WideShapes Go.ChangeAt Go.RowKit Go.Joins
set_option linter.unusedVariables false
set_option linter.unusedSimpArgs false

theorem specHint_in (lo hi : Nat) (v : Value) (m : Bm) (a p : Int) (w : World) (h : InBm lo hi w v m) (hh : hi ≤ w.heap.size) (hf : fitB0 m) :
    Calls Tryz.prog 42 #[v, flow a p] w fun e w' => e = .returned (.int .i64 (hintM m a p)) ∧ Below w.heap.size w w' := by
  obtain ⟨o, c, ob, cb, oR, cR, ot, ct, rfl, r1, r2, r3, r4⟩ := balIn_open h hh
  exact specHint_any m.j.key o m.j.l.length c m.j.safe m.p.key ob m.p.l.length cb oR m.p.ring.length cR ot m.t.length ct m.j.l m.p.l m.p.ring m.t a p w rfl rfl r1 r2 r3 r4 hf
theorem implHint_in (lo hi : Nat) (v : Value) (m : Bm) (a p : Int) (w : World) (h : InBm lo hi w v m) (hh : hi ≤ w.heap.size) (hf : fitB0 m) :
    Calls Tryz.prog 43 #[v, flow a p] w fun e w' => e = .returned (.int .i64 (hintM m a p)) ∧ Below w.heap.size w w' := by
  obtain ⟨o, c, ob, cb, oR, cR, ot, ct, rfl, r1, r2, r3, r4⟩ := balIn_open h hh
  exact implHint_any m.j.key o m.j.l.length c m.j.safe m.p.key ob m.p.l.length cb oR m.p.ring.length cR ot m.t.length ct m.j.l m.p.l m.p.ring m.t a p w rfl rfl r1 r2 r3 r4 hf

set_option maxRecDepth 100000 in
set_option maxHeartbeats 8000000 in
theorem lawFnExactHint (v : Value) (m : Bm) (a p : Int) (w : World) (hR : RdBm w.heap.size w v m) (hl : lenBm m) :
    Calls Tryz.prog 10 #[v, flow a p] w fun e w' => e = .returned (.bool true) ∧ Below w.heap.size w w' := by
  obtain ⟨oa, ca, oba, cba, oRa, cRa, ota, cta, eva⟩ := hR.opn
  subst eva
  obtain ⟨w0, hw0⟩ : ∃ W, ((w.alloc (.cells #[.int .i64 m.j.key, .slice oa m.j.l.length ca, .int .i64 m.j.safe, .int .i64 m.p.key, .slice oba m.p.l.length cba, .slice oRa m.p.ring.length cRa, .slice ota m.t.length cta] 33)).alloc (.cells #[.int .i64 a, .int .i64 p] 59)) = W := ⟨_, rfl⟩
  have B_w0 : Below w.heap.size w w0 := by rw [← hw0]; exact (((Below.refl _ _).alloc (Nat.le_refl _) _).alloc (by simp) _)
  have hz_w0 : w.heap.size + 1 < w0.heap.size := by rw [← hw0]; simp
  have bxa : w0.heap[w.heap.size]? = some (.cells #[.int .i64 m.j.key, .slice oa m.j.l.length ca, .int .i64 m.j.safe, .int .i64 m.p.key, .slice oba m.p.l.length cba, .slice oRa m.p.ring.length cRa, .slice ota m.t.length cta] 33 (0, 0)) := by
    have h := World.alloc_heap_new w (.cells #[.int .i64 m.j.key, .slice oa m.j.l.length ca, .int .i64 m.j.safe, .int .i64 m.p.key, .slice oba m.p.l.length cba, .slice oRa m.p.ring.length cRa, .slice ota m.t.length cta] 33)
    (try rw [World.size_alloc] at h)
    (try rw [World.size_alloc] at h)
    rw [← hw0]
    refine (Below.heap_alloc _ _ _ (by simp)).trans ?_
    exact h
  have bxf : w0.heap[w.heap.size + 1]? = some (.cells #[.int .i64 a, .int .i64 p] 59 (0, 0)) := by
    have h := World.alloc_heap_new (w.alloc (.cells #[.int .i64 m.j.key, .slice oa m.j.l.length ca, .int .i64 m.j.safe, .int .i64 m.p.key, .slice oba m.p.l.length cba, .slice oRa m.p.ring.length cRa, .slice ota m.t.length cta] 33)) (.cells #[.int .i64 a, .int .i64 p] 59)
    (try rw [World.size_alloc] at h)
    (try rw [World.size_alloc] at h)
    rw [← hw0]
    exact h
  have HR := hide hR
  clear hR
  have bxac0 : w0.cell? ⟨w.heap.size, 0, none⟩ = some (.int .i64 m.j.key) := block_cellB bxa 0 _ rfl
  have bxac1 : w0.cell? ⟨w.heap.size, 1, none⟩ = some (.slice oa m.j.l.length ca) := block_cellB bxa 1 _ rfl
  have bxac2 : w0.cell? ⟨w.heap.size, 2, none⟩ = some (.int .i64 m.j.safe) := block_cellB bxa 2 _ rfl
  have bxac3 : w0.cell? ⟨w.heap.size, 3, none⟩ = some (.int .i64 m.p.key) := block_cellB bxa 3 _ rfl
  have bxac4 : w0.cell? ⟨w.heap.size, 4, none⟩ = some (.slice oba m.p.l.length cba) := block_cellB bxa 4 _ rfl
  have bxac5 : w0.cell? ⟨w.heap.size, 5, none⟩ = some (.slice oRa m.p.ring.length cRa) := block_cellB bxa 5 _ rfl
  have bxac6 : w0.cell? ⟨w.heap.size, 6, none⟩ = some (.slice ota m.t.length cta) := block_cellB bxa 6 _ rfl
  have Hbxa := hide bxa
  clear bxa
  have Hbxf := hide bxf
  clear bxf
  have HB_ := hide B_w0
  clear B_w0
  go_enter Tryz.func10, Tryz.ntmps10
  go_wp2_with fail
  clear bxac0 bxac1 bxac2 bxac3 bxac4 bxac5 bxac6
  have bxa := Hbxa.out
  clear Hbxa
  have bxf := Hbxf.out
  clear Hbxf
  have B_w0 := HB_.out
  clear HB_
  clear hw0
  have hR := HR.out
  clear HR
  refine (szBal_sh _ m w0 ((hR.kept B_w0 (Nat.le_refl _)).le B_w0.size) hl).mono ?_
  rintro e w1 ⟨⟨zz, rfl, hz⟩, hb_w1⟩
  replace bxa := (hb_w1.block _ (by omega)).trans bxa
  replace bxf := (hb_w1.block _ (by omega)).trans bxf
  have B_w1 : Below w.heap.size w w1 := B_w0.trans (hb_w1.mono B_w0.size)
  have hs_w1 : w0.heap.size ≤ w1.heap.size := hb_w1.size
  clear hb_w1 B_w0
  rcases hz with ⟨hz1, hz2⟩ | ⟨hz1, hz2, hf⟩
  · have Hbxa := hide bxa
    clear bxa
    have Hbxf := hide bxf
    clear bxf
    have HB_ := hide B_w1
    clear B_w1
    go_wp2
    go_ret
    exact ⟨rfl, HB_.out⟩
  · have HS := hide (fun lo hi v w h hh => specHint_in lo hi v m a p w h hh hf)
    have HI := hide (fun lo hi v w h hh => implHint_in lo hi v m a p w h hh hf)
    generalize hintM m a p = t at *
    have bxac0 : w1.cell? ⟨w.heap.size, 0, none⟩ = some (.int .i64 m.j.key) := block_cellB bxa 0 _ rfl
    have bxac1 : w1.cell? ⟨w.heap.size, 1, none⟩ = some (.slice oa m.j.l.length ca) := block_cellB bxa 1 _ rfl
    have bxac2 : w1.cell? ⟨w.heap.size, 2, none⟩ = some (.int .i64 m.j.safe) := block_cellB bxa 2 _ rfl
    have bxac3 : w1.cell? ⟨w.heap.size, 3, none⟩ = some (.int .i64 m.p.key) := block_cellB bxa 3 _ rfl
    have bxac4 : w1.cell? ⟨w.heap.size, 4, none⟩ = some (.slice oba m.p.l.length cba) := block_cellB bxa 4 _ rfl
    have bxac5 : w1.cell? ⟨w.heap.size, 5, none⟩ = some (.slice oRa m.p.ring.length cRa) := block_cellB bxa 5 _ rfl
    have bxac6 : w1.cell? ⟨w.heap.size, 6, none⟩ = some (.slice ota m.t.length cta) := block_cellB bxa 6 _ rfl
    have bxfc0 : w1.cell? ⟨w.heap.size + 1, 0, none⟩ = some (.int .i64 a) := block_cellB bxf 0 _ rfl
    have bxfc1 : w1.cell? ⟨w.heap.size + 1, 1, none⟩ = some (.int .i64 p) := block_cellB bxf 1 _ rfl
    have Hbxa := hide bxa
    clear bxa
    have Hbxf := hide bxf
    clear bxf
    have HB_ := hide B_w1
    clear B_w1
    go_wp2
    have hk_bxa : w.heap.size < w1.heap.size := by omega
    have hk_bxf : w.heap.size + 1 < w1.heap.size := by omega
    go_region_held3 (fun w' => w'.cell? ⟨w.heap.size, 0, none⟩ = some (.int .i64 m.j.key) ∧ w'.cell? ⟨w.heap.size, 1, none⟩ = some (.slice oa m.j.l.length ca) ∧ w'.cell? ⟨w.heap.size, 2, none⟩ = some (.int .i64 m.j.safe) ∧ w'.cell? ⟨w.heap.size, 3, none⟩ = some (.int .i64 m.p.key) ∧ w'.cell? ⟨w.heap.size, 4, none⟩ = some (.slice oba m.p.l.length cba) ∧ w'.cell? ⟨w.heap.size, 5, none⟩ = some (.slice oRa m.p.ring.length cRa) ∧ w'.cell? ⟨w.heap.size, 6, none⟩ = some (.slice ota m.t.length cta) ∧ w'.cell? ⟨w.heap.size + 1, 0, none⟩ = some (.int .i64 a) ∧ w'.cell? ⟨w.heap.size + 1, 1, none⟩ = some (.int .i64 p)) (first | exact ⟨k2_0, k2_1, k2_2, k2_3, k2_4, k2_5, k2_6, k2_7, k2_8⟩ | exact ⟨k1_0, k1_1, k1_2, k1_3, k1_4, k1_5, k1_6, k1_7, k1_8⟩ | exact ⟨k0_0, k0_1, k0_2, k0_3, k0_4, k0_5, k0_6, k0_7, k0_8⟩ | exact ⟨bxac0, bxac1, bxac2, bxac3, bxac4, bxac5, bxac6, bxfc0, bxfc1⟩) (first | (go_at_call 13; refine (toBal_sh _ m w1.drew ((hR.kept (Below.drew HB_.out) (Nat.le_refl _)).le HB_.out.size) hf).mono ?_; rintro e w2 ⟨v2, rfl, in2, hb⟩; have hx0 : Below w1.heap.size w1 w2 := (Below.drew (Below.refl _ _)).trans hb; clear hb; have k0_0 := (hx0.cell (p := ⟨w.heap.size, 0, none⟩) hk_bxa).trans bxac0; have k0_1 := (hx0.cell (p := ⟨w.heap.size, 1, none⟩) hk_bxa).trans bxac1; have k0_2 := (hx0.cell (p := ⟨w.heap.size, 2, none⟩) hk_bxa).trans bxac2; have k0_3 := (hx0.cell (p := ⟨w.heap.size, 3, none⟩) hk_bxa).trans bxac3; have k0_4 := (hx0.cell (p := ⟨w.heap.size, 4, none⟩) hk_bxa).trans bxac4; have k0_5 := (hx0.cell (p := ⟨w.heap.size, 5, none⟩) hk_bxa).trans bxac5; have k0_6 := (hx0.cell (p := ⟨w.heap.size, 6, none⟩) hk_bxa).trans bxac6; have k0_7 := (hx0.cell (p := ⟨w.heap.size + 1, 0, none⟩) hk_bxf).trans bxfc0; have k0_8 := (hx0.cell (p := ⟨w.heap.size + 1, 1, none⟩) hk_bxf).trans bxfc1) | (go_at_call 36; refine (toFlow_any a p w2).mono ?_; rintro e w3 ⟨rfl, hb⟩; have rd2 := in2.step (Stp.of (lo := 0) (hi := 0) hb) (.inl (Nat.zero_le _)); have sz2 := hb.size; have hx1 : Below w1.heap.size w1 w3 := hx0.trans (hb.mono hx0.size); clear hb; have k1_0 := (hx1.cell (p := ⟨w.heap.size, 0, none⟩) hk_bxa).trans bxac0; have k1_1 := (hx1.cell (p := ⟨w.heap.size, 1, none⟩) hk_bxa).trans bxac1; have k1_2 := (hx1.cell (p := ⟨w.heap.size, 2, none⟩) hk_bxa).trans bxac2; have k1_3 := (hx1.cell (p := ⟨w.heap.size, 3, none⟩) hk_bxa).trans bxac3; have k1_4 := (hx1.cell (p := ⟨w.heap.size, 4, none⟩) hk_bxa).trans bxac4; have k1_5 := (hx1.cell (p := ⟨w.heap.size, 5, none⟩) hk_bxa).trans bxac5; have k1_6 := (hx1.cell (p := ⟨w.heap.size, 6, none⟩) hk_bxa).trans bxac6; have k1_7 := (hx1.cell (p := ⟨w.heap.size + 1, 0, none⟩) hk_bxf).trans bxfc0; have k1_8 := (hx1.cell (p := ⟨w.heap.size + 1, 1, none⟩) hk_bxf).trans bxfc1) | (go_at_call 42; refine (HS.out _ _ _ w3 rd2 sz2).mono ?_; rintro e w4 ⟨rfl, hb⟩; have hx2 : Below w1.heap.size w1 w4 := hx1.trans (hb.mono hx1.size); clear hb; have k2_0 := (hx2.cell (p := ⟨w.heap.size, 0, none⟩) hk_bxa).trans bxac0; have k2_1 := (hx2.cell (p := ⟨w.heap.size, 1, none⟩) hk_bxa).trans bxac1; have k2_2 := (hx2.cell (p := ⟨w.heap.size, 2, none⟩) hk_bxa).trans bxac2; have k2_3 := (hx2.cell (p := ⟨w.heap.size, 3, none⟩) hk_bxa).trans bxac3; have k2_4 := (hx2.cell (p := ⟨w.heap.size, 4, none⟩) hk_bxa).trans bxac4; have k2_5 := (hx2.cell (p := ⟨w.heap.size, 5, none⟩) hk_bxa).trans bxac5; have k2_6 := (hx2.cell (p := ⟨w.heap.size, 6, none⟩) hk_bxa).trans bxac6; have k2_7 := (hx2.cell (p := ⟨w.heap.size + 1, 0, none⟩) hk_bxf).trans bxfc0; have k2_8 := (hx2.cell (p := ⟨w.heap.size + 1, 1, none⟩) hk_bxf).trans bxfc1))
    clear k0_0 k0_1 k0_2 k0_3 k0_4 k0_5 k0_6 k0_7 k0_8
    clear k1_0 k1_1 k1_2 k1_3 k1_4 k1_5 k1_6 k1_7 k1_8
    clear k2_0 k2_1 k2_2 k2_3 k2_4 k2_5 k2_6 k2_7 k2_8
    clear hk_bxa hk_bxf hx0 hx1
    clear bxac0 bxac1 bxac2 bxac3 bxac4 bxac5 bxac6
    clear bxfc0 bxfc1
    have bxa := Hbxa.out
    clear Hbxa
    have bxf := Hbxf.out
    clear Hbxf
    have B_w1 := HB_.out
    clear HB_
    replace bxa := (hx2.block _ (by omega)).trans bxa
    replace bxf := (hx2.block _ (by omega)).trans bxf
    have B_w4 : Below w.heap.size w w4 := B_w1.trans (hx2.mono B_w1.size)
    have hs_w4 : w1.heap.size ≤ w4.heap.size := hx2.size
    clear hx2 B_w1
    clear rd2 sz2 in2
    have bxac0 : w4.cell? ⟨w.heap.size, 0, none⟩ = some (.int .i64 m.j.key) := block_cellB bxa 0 _ rfl
    have bxac1 : w4.cell? ⟨w.heap.size, 1, none⟩ = some (.slice oa m.j.l.length ca) := block_cellB bxa 1 _ rfl
    have bxac2 : w4.cell? ⟨w.heap.size, 2, none⟩ = some (.int .i64 m.j.safe) := block_cellB bxa 2 _ rfl
    have bxac3 : w4.cell? ⟨w.heap.size, 3, none⟩ = some (.int .i64 m.p.key) := block_cellB bxa 3 _ rfl
    have bxac4 : w4.cell? ⟨w.heap.size, 4, none⟩ = some (.slice oba m.p.l.length cba) := block_cellB bxa 4 _ rfl
    have bxac5 : w4.cell? ⟨w.heap.size, 5, none⟩ = some (.slice oRa m.p.ring.length cRa) := block_cellB bxa 5 _ rfl
    have bxac6 : w4.cell? ⟨w.heap.size, 6, none⟩ = some (.slice ota m.t.length cta) := block_cellB bxa 6 _ rfl
    have Hbxa := hide bxa
    clear bxa
    have Hbxf := hide bxf
    clear bxf
    have HB_ := hide B_w4
    clear B_w4
    go_wp2_with fail
    clear bxac0 bxac1 bxac2 bxac3 bxac4 bxac5 bxac6
    have bxa := Hbxa.out
    clear Hbxa
    have bxf := Hbxf.out
    clear Hbxf
    have B_w4 := HB_.out
    clear HB_
    refine (toBal_sh _ m w4 ((hR.kept B_w4 (Nat.le_refl _)).le B_w4.size) hf).mono ?_
    rintro e w5 ⟨vx, rfl, inx, hb_w5⟩
    replace bxa := (hb_w5.block _ (by omega)).trans bxa
    replace bxf := (hb_w5.block _ (by omega)).trans bxf
    have B_w5 : Below w.heap.size w w5 := B_w4.trans (hb_w5.mono B_w4.size)
    have hs_w5 : w4.heap.size ≤ w5.heap.size := hb_w5.size
    clear hb_w5 B_w4
    obtain ⟨ox, cx, obx, cbx, oRx, cRx, otx, ctx, evx⟩ := inx.rd.opn
    subst evx
    obtain ⟨w6, hW_w6⟩ : ∃ W, w5.alloc (.cells #[.int .i64 m.j.key, .slice ox m.j.l.length cx, .int .i64 m.j.safe, .int .i64 m.p.key, .slice obx m.p.l.length cbx, .slice oRx m.p.ring.length cRx, .slice otx m.t.length ctx] 46) = W := ⟨_, rfl⟩
    have bxx : w6.heap[w5.heap.size]? = some (.cells #[.int .i64 m.j.key, .slice ox m.j.l.length cx, .int .i64 m.j.safe, .int .i64 m.p.key, .slice obx m.p.l.length cbx, .slice oRx m.p.ring.length cRx, .slice otx m.t.length ctx] 46 (0, 0)) := by rw [← hW_w6]; exact World.alloc_heap_new w5 _
    have hb_w6 : Below w5.heap.size w5 w6 := by rw [← hW_w6]; exact (Below.refl _ _).alloc (Nat.le_refl _) _
    have hz_w6 : w5.heap.size < w6.heap.size := by rw [← hW_w6]; simp
    replace bxa := (hb_w6.block _ (by omega)).trans bxa
    replace bxf := (hb_w6.block _ (by omega)).trans bxf
    replace inx := inx.step (Stp.of (lo := 0) (hi := 0) hb_w6) (.inl (Nat.zero_le _))
    have B_w6 : Below w.heap.size w w6 := B_w5.trans (hb_w6.mono B_w5.size)
    have hs_w6 : w5.heap.size ≤ w6.heap.size := hb_w6.size
    clear hb_w6 B_w5
    have bxxc0 : w6.cell? ⟨w5.heap.size, 0, none⟩ = some (.int .i64 m.j.key) := block_cellB bxx 0 _ rfl
    have bxxc1 : w6.cell? ⟨w5.heap.size, 1, none⟩ = some (.slice ox m.j.l.length cx) := block_cellB bxx 1 _ rfl
    have bxxc2 : w6.cell? ⟨w5.heap.size, 2, none⟩ = some (.int .i64 m.j.safe) := block_cellB bxx 2 _ rfl
    have bxxc3 : w6.cell? ⟨w5.heap.size, 3, none⟩ = some (.int .i64 m.p.key) := block_cellB bxx 3 _ rfl
    have bxxc4 : w6.cell? ⟨w5.heap.size, 4, none⟩ = some (.slice obx m.p.l.length cbx) := block_cellB bxx 4 _ rfl
    have bxxc5 : w6.cell? ⟨w5.heap.size, 5, none⟩ = some (.slice oRx m.p.ring.length cRx) := block_cellB bxx 5 _ rfl
    have bxxc6 : w6.cell? ⟨w5.heap.size, 6, none⟩ = some (.slice otx m.t.length ctx) := block_cellB bxx 6 _ rfl
    have bxfc0 : w6.cell? ⟨w.heap.size + 1, 0, none⟩ = some (.int .i64 a) := block_cellB bxf 0 _ rfl
    have bxfc1 : w6.cell? ⟨w.heap.size + 1, 1, none⟩ = some (.int .i64 p) := block_cellB bxf 1 _ rfl
    have Hbxa := hide bxa
    clear bxa
    have Hbxf := hide bxf
    clear bxf
    have Hinx := hide inx
    clear inx
    have Hbxx := hide bxx
    clear bxx
    have HB_ := hide B_w6
    clear B_w6
    go_wp2
    have hk_bxx : w5.heap.size < w6.heap.size := by omega
    have hk_bxf : w.heap.size + 1 < w6.heap.size := by omega
    go_region_held3 (fun w' => w'.cell? ⟨w5.heap.size, 0, none⟩ = some (.int .i64 m.j.key) ∧ w'.cell? ⟨w5.heap.size, 1, none⟩ = some (.slice ox m.j.l.length cx) ∧ w'.cell? ⟨w5.heap.size, 2, none⟩ = some (.int .i64 m.j.safe) ∧ w'.cell? ⟨w5.heap.size, 3, none⟩ = some (.int .i64 m.p.key) ∧ w'.cell? ⟨w5.heap.size, 4, none⟩ = some (.slice obx m.p.l.length cbx) ∧ w'.cell? ⟨w5.heap.size, 5, none⟩ = some (.slice oRx m.p.ring.length cRx) ∧ w'.cell? ⟨w5.heap.size, 6, none⟩ = some (.slice otx m.t.length ctx) ∧ w'.cell? ⟨w.heap.size + 1, 0, none⟩ = some (.int .i64 a) ∧ w'.cell? ⟨w.heap.size + 1, 1, none⟩ = some (.int .i64 p)) (first | exact ⟨k1_0, k1_1, k1_2, k1_3, k1_4, k1_5, k1_6, k1_7, k1_8⟩ | exact ⟨k0_0, k0_1, k0_2, k0_3, k0_4, k0_5, k0_6, k0_7, k0_8⟩ | exact ⟨bxxc0, bxxc1, bxxc2, bxxc3, bxxc4, bxxc5, bxxc6, bxfc0, bxfc1⟩) (first | (go_at_call 36; refine (toFlow_any a p w6.drew).mono ?_; rintro e w7 ⟨rfl, hb⟩; have rdx := Hinx.out.step (Stp.of (lo := 0) (hi := 0) ((Below.drew (Below.refl _ _)).trans hb)) (.inl (Nat.zero_le _)); have szx := Nat.le_trans (Nat.le_of_lt hk_bxx) hb.size; have hx0 : Below w6.heap.size w6 w7 := (Below.drew (Below.refl _ _)).trans hb; clear hb; have k0_0 := (hx0.cell (p := ⟨w5.heap.size, 0, none⟩) hk_bxx).trans bxxc0; have k0_1 := (hx0.cell (p := ⟨w5.heap.size, 1, none⟩) hk_bxx).trans bxxc1; have k0_2 := (hx0.cell (p := ⟨w5.heap.size, 2, none⟩) hk_bxx).trans bxxc2; have k0_3 := (hx0.cell (p := ⟨w5.heap.size, 3, none⟩) hk_bxx).trans bxxc3; have k0_4 := (hx0.cell (p := ⟨w5.heap.size, 4, none⟩) hk_bxx).trans bxxc4; have k0_5 := (hx0.cell (p := ⟨w5.heap.size, 5, none⟩) hk_bxx).trans bxxc5; have k0_6 := (hx0.cell (p := ⟨w5.heap.size, 6, none⟩) hk_bxx).trans bxxc6; have k0_7 := (hx0.cell (p := ⟨w.heap.size + 1, 0, none⟩) hk_bxf).trans bxfc0; have k0_8 := (hx0.cell (p := ⟨w.heap.size + 1, 1, none⟩) hk_bxf).trans bxfc1) | (go_at_call 43; refine (HI.out _ _ _ w7 rdx szx).mono ?_; rintro e w8 ⟨rfl, hb⟩; have hx1 : Below w6.heap.size w6 w8 := hx0.trans (hb.mono hx0.size); clear hb; have k1_0 := (hx1.cell (p := ⟨w5.heap.size, 0, none⟩) hk_bxx).trans bxxc0; have k1_1 := (hx1.cell (p := ⟨w5.heap.size, 1, none⟩) hk_bxx).trans bxxc1; have k1_2 := (hx1.cell (p := ⟨w5.heap.size, 2, none⟩) hk_bxx).trans bxxc2; have k1_3 := (hx1.cell (p := ⟨w5.heap.size, 3, none⟩) hk_bxx).trans bxxc3; have k1_4 := (hx1.cell (p := ⟨w5.heap.size, 4, none⟩) hk_bxx).trans bxxc4; have k1_5 := (hx1.cell (p := ⟨w5.heap.size, 5, none⟩) hk_bxx).trans bxxc5; have k1_6 := (hx1.cell (p := ⟨w5.heap.size, 6, none⟩) hk_bxx).trans bxxc6; have k1_7 := (hx1.cell (p := ⟨w.heap.size + 1, 0, none⟩) hk_bxf).trans bxfc0; have k1_8 := (hx1.cell (p := ⟨w.heap.size + 1, 1, none⟩) hk_bxf).trans bxfc1))
    clear k0_0 k0_1 k0_2 k0_3 k0_4 k0_5 k0_6 k0_7 k0_8
    clear k1_0 k1_1 k1_2 k1_3 k1_4 k1_5 k1_6 k1_7 k1_8
    clear hk_bxx hk_bxf hx0
    clear bxxc0 bxxc1 bxxc2 bxxc3 bxxc4 bxxc5 bxxc6
    clear bxfc0 bxfc1
    have bxa := Hbxa.out
    clear Hbxa
    have bxf := Hbxf.out
    clear Hbxf
    have inx := Hinx.out
    clear Hinx
    have bxx := Hbxx.out
    clear Hbxx
    have B_w6 := HB_.out
    clear HB_
    replace bxa := (hx1.block _ (by omega)).trans bxa
    replace bxf := (hx1.block _ (by omega)).trans bxf
    replace inx := inx.step (Stp.of (lo := 0) (hi := 0) hx1) (.inl (Nat.zero_le _))
    replace bxx := (hx1.block _ (by omega)).trans bxx
    have B_w8 : Below w.heap.size w w8 := B_w6.trans (hx1.mono B_w6.size)
    have hs_w8 : w6.heap.size ≤ w8.heap.size := hx1.size
    clear hx1 B_w6
    clear rdx szx
    clear hW_w6
    have bxac0 : w8.cell? ⟨w.heap.size, 0, none⟩ = some (.int .i64 m.j.key) := block_cellB bxa 0 _ rfl
    have bxac1 : w8.cell? ⟨w.heap.size, 1, none⟩ = some (.slice oa m.j.l.length ca) := block_cellB bxa 1 _ rfl
    have bxac2 : w8.cell? ⟨w.heap.size, 2, none⟩ = some (.int .i64 m.j.safe) := block_cellB bxa 2 _ rfl
    have bxac3 : w8.cell? ⟨w.heap.size, 3, none⟩ = some (.int .i64 m.p.key) := block_cellB bxa 3 _ rfl
    have bxac4 : w8.cell? ⟨w.heap.size, 4, none⟩ = some (.slice oba m.p.l.length cba) := block_cellB bxa 4 _ rfl
    have bxac5 : w8.cell? ⟨w.heap.size, 5, none⟩ = some (.slice oRa m.p.ring.length cRa) := block_cellB bxa 5 _ rfl
    have bxac6 : w8.cell? ⟨w.heap.size, 6, none⟩ = some (.slice ota m.t.length cta) := block_cellB bxa 6 _ rfl
    have bxxc0 : w8.cell? ⟨w5.heap.size, 0, none⟩ = some (.int .i64 m.j.key) := block_cellB bxx 0 _ rfl
    have bxxc1 : w8.cell? ⟨w5.heap.size, 1, none⟩ = some (.slice ox m.j.l.length cx) := block_cellB bxx 1 _ rfl
    have bxxc2 : w8.cell? ⟨w5.heap.size, 2, none⟩ = some (.int .i64 m.j.safe) := block_cellB bxx 2 _ rfl
    have bxxc3 : w8.cell? ⟨w5.heap.size, 3, none⟩ = some (.int .i64 m.p.key) := block_cellB bxx 3 _ rfl
    have bxxc4 : w8.cell? ⟨w5.heap.size, 4, none⟩ = some (.slice obx m.p.l.length cbx) := block_cellB bxx 4 _ rfl
    have bxxc5 : w8.cell? ⟨w5.heap.size, 5, none⟩ = some (.slice oRx m.p.ring.length cRx) := block_cellB bxx 5 _ rfl
    have bxxc6 : w8.cell? ⟨w5.heap.size, 6, none⟩ = some (.slice otx m.t.length ctx) := block_cellB bxx 6 _ rfl
    have Hbxa := hide bxa
    clear bxa
    have Hbxf := hide bxf
    clear bxf
    have Hinx := hide inx
    clear inx
    have Hbxx := hide bxx
    clear bxx
    have HB_ := hide B_w8
    clear B_w8
    go_wp2
    have hk_bxa : w.heap.size < w8.heap.size := by omega
    have hk_bxx : w5.heap.size < w8.heap.size := by omega
    go_region_held3 (fun w' => w'.cell? ⟨w.heap.size, 0, none⟩ = some (.int .i64 m.j.key) ∧ w'.cell? ⟨w.heap.size, 1, none⟩ = some (.slice oa m.j.l.length ca) ∧ w'.cell? ⟨w.heap.size, 2, none⟩ = some (.int .i64 m.j.safe) ∧ w'.cell? ⟨w.heap.size, 3, none⟩ = some (.int .i64 m.p.key) ∧ w'.cell? ⟨w.heap.size, 4, none⟩ = some (.slice oba m.p.l.length cba) ∧ w'.cell? ⟨w.heap.size, 5, none⟩ = some (.slice oRa m.p.ring.length cRa) ∧ w'.cell? ⟨w.heap.size, 6, none⟩ = some (.slice ota m.t.length cta) ∧ w'.cell? ⟨w5.heap.size, 0, none⟩ = some (.int .i64 m.j.key) ∧ w'.cell? ⟨w5.heap.size, 1, none⟩ = some (.slice ox m.j.l.length cx) ∧ w'.cell? ⟨w5.heap.size, 2, none⟩ = some (.int .i64 m.j.safe) ∧ w'.cell? ⟨w5.heap.size, 3, none⟩ = some (.int .i64 m.p.key) ∧ w'.cell? ⟨w5.heap.size, 4, none⟩ = some (.slice obx m.p.l.length cbx) ∧ w'.cell? ⟨w5.heap.size, 5, none⟩ = some (.slice oRx m.p.ring.length cRx) ∧ w'.cell? ⟨w5.heap.size, 6, none⟩ = some (.slice otx m.t.length ctx)) (first | exact ⟨k1_0, k1_1, k1_2, k1_3, k1_4, k1_5, k1_6, k1_7, k1_8, k1_9, k1_10, k1_11, k1_12, k1_13⟩ | exact ⟨k0_0, k0_1, k0_2, k0_3, k0_4, k0_5, k0_6, k0_7, k0_8, k0_9, k0_10, k0_11, k0_12, k0_13⟩ | exact ⟨bxac0, bxac1, bxac2, bxac3, bxac4, bxac5, bxac6, bxxc0, bxxc1, bxxc2, bxxc3, bxxc4, bxxc5, bxxc6⟩) (first | (go_at_call 13; refine (toBal_sh _ m w8.drew ((hR.kept (Below.drew HB_.out) (Nat.le_refl _)).le HB_.out.size) hf).mono ?_; rintro e w9 ⟨va, rfl, ina, hb⟩; have hbx : Below w8.heap.size w8 w9 := (Below.drew (Below.refl _ _)).trans hb; have rdx := Hinx.out.rd.kept hbx (by omega); have szx := hbx.size; have hx0 : Below w8.heap.size w8 w9 := (Below.drew (Below.refl _ _)).trans hb; clear hb; have k0_0 := (hx0.cell (p := ⟨w.heap.size, 0, none⟩) hk_bxa).trans bxac0; have k0_1 := (hx0.cell (p := ⟨w.heap.size, 1, none⟩) hk_bxa).trans bxac1; have k0_2 := (hx0.cell (p := ⟨w.heap.size, 2, none⟩) hk_bxa).trans bxac2; have k0_3 := (hx0.cell (p := ⟨w.heap.size, 3, none⟩) hk_bxa).trans bxac3; have k0_4 := (hx0.cell (p := ⟨w.heap.size, 4, none⟩) hk_bxa).trans bxac4; have k0_5 := (hx0.cell (p := ⟨w.heap.size, 5, none⟩) hk_bxa).trans bxac5; have k0_6 := (hx0.cell (p := ⟨w.heap.size, 6, none⟩) hk_bxa).trans bxac6; have k0_7 := (hx0.cell (p := ⟨w5.heap.size, 0, none⟩) hk_bxx).trans bxxc0; have k0_8 := (hx0.cell (p := ⟨w5.heap.size, 1, none⟩) hk_bxx).trans bxxc1; have k0_9 := (hx0.cell (p := ⟨w5.heap.size, 2, none⟩) hk_bxx).trans bxxc2; have k0_10 := (hx0.cell (p := ⟨w5.heap.size, 3, none⟩) hk_bxx).trans bxxc3; have k0_11 := (hx0.cell (p := ⟨w5.heap.size, 4, none⟩) hk_bxx).trans bxxc4; have k0_12 := (hx0.cell (p := ⟨w5.heap.size, 5, none⟩) hk_bxx).trans bxxc5; have k0_13 := (hx0.cell (p := ⟨w5.heap.size, 6, none⟩) hk_bxx).trans bxxc6) | (go_at_call 15; refine (eqBal_sh _ _ m w9 (rdx.le (by omega)) (ina.rd.le (Nat.le_refl _)) hf).mono ?_; rintro e w10 ⟨rfl, hb⟩; have hx1 : Below w8.heap.size w8 w10 := hx0.trans (hb.mono hx0.size); clear hb; have k1_0 := (hx1.cell (p := ⟨w.heap.size, 0, none⟩) hk_bxa).trans bxac0; have k1_1 := (hx1.cell (p := ⟨w.heap.size, 1, none⟩) hk_bxa).trans bxac1; have k1_2 := (hx1.cell (p := ⟨w.heap.size, 2, none⟩) hk_bxa).trans bxac2; have k1_3 := (hx1.cell (p := ⟨w.heap.size, 3, none⟩) hk_bxa).trans bxac3; have k1_4 := (hx1.cell (p := ⟨w.heap.size, 4, none⟩) hk_bxa).trans bxac4; have k1_5 := (hx1.cell (p := ⟨w.heap.size, 5, none⟩) hk_bxa).trans bxac5; have k1_6 := (hx1.cell (p := ⟨w.heap.size, 6, none⟩) hk_bxa).trans bxac6; have k1_7 := (hx1.cell (p := ⟨w5.heap.size, 0, none⟩) hk_bxx).trans bxxc0; have k1_8 := (hx1.cell (p := ⟨w5.heap.size, 1, none⟩) hk_bxx).trans bxxc1; have k1_9 := (hx1.cell (p := ⟨w5.heap.size, 2, none⟩) hk_bxx).trans bxxc2; have k1_10 := (hx1.cell (p := ⟨w5.heap.size, 3, none⟩) hk_bxx).trans bxxc3; have k1_11 := (hx1.cell (p := ⟨w5.heap.size, 4, none⟩) hk_bxx).trans bxxc4; have k1_12 := (hx1.cell (p := ⟨w5.heap.size, 5, none⟩) hk_bxx).trans bxxc5; have k1_13 := (hx1.cell (p := ⟨w5.heap.size, 6, none⟩) hk_bxx).trans bxxc6))
    clear k0_0 k0_1 k0_2 k0_3 k0_4 k0_5 k0_6 k0_7 k0_8 k0_9 k0_10 k0_11 k0_12 k0_13
    clear k1_0 k1_1 k1_2 k1_3 k1_4 k1_5 k1_6 k1_7 k1_8 k1_9 k1_10 k1_11 k1_12 k1_13
    clear hk_bxa hk_bxx hx0
    clear bxac0 bxac1 bxac2 bxac3 bxac4 bxac5 bxac6
    clear bxxc0 bxxc1 bxxc2 bxxc3 bxxc4 bxxc5 bxxc6
    have bxa := Hbxa.out
    clear Hbxa
    have bxf := Hbxf.out
    clear Hbxf
    have inx := Hinx.out
    clear Hinx
    have bxx := Hbxx.out
    clear Hbxx
    have B_w8 := HB_.out
    clear HB_
    replace bxa := (hx1.block _ (by omega)).trans bxa
    replace bxf := (hx1.block _ (by omega)).trans bxf
    replace inx := inx.step (Stp.of (lo := 0) (hi := 0) hx1) (.inl (Nat.zero_le _))
    replace bxx := (hx1.block _ (by omega)).trans bxx
    have B_w10 : Below w.heap.size w w10 := B_w8.trans (hx1.mono B_w8.size)
    have hs_w10 : w8.heap.size ≤ w10.heap.size := hx1.size
    clear hx1 B_w8
    clear rdx szx ina hbx
    have Hbxa := hide bxa
    clear bxa
    have Hbxf := hide bxf
    clear bxf
    have Hinx := hide inx
    clear inx
    have Hbxx := hide bxx
    clear bxx
    have HB_ := hide B_w10
    clear B_w10
    go_wp2
    go_ret
    exact ⟨rfl, HB_.out⟩

theorem walkFnExactHint (v : Value) (m : Bm) (a p : Int) (w : World) (hR : RdBm w.heap.size w v m) (hl : lenBm m) :
    Calls Tryz.prog 10 #[v, flow a p] w fun e w' => e = .returned (.bool true) ∧ Below w.heap.size w w' := lawFnExactHint v m a p w hR hl

set_option maxRecDepth 100000 in
theorem fnExactHint_lifted (os : Os) (started : os.Started) (H : Type) (enc : TypeId × Value → H) :
    ReturnsInHanded {} Tryz.checked os 10 .any (Rows.fnExactHintSpec.pre6 enc Tryz.prog Tryz.f10 Rows.fnExactHintRow.domain false) (Rows.fnExactHintSpec.post enc Tryz.prog Tryz.f10 false true false false) := by
  refine returnsInHanded_of_change (C := Tryz.checked) own started (by kernel_rfl) Tryz.func10
    (ChangeSpec.witness6 (enc := enc) (C := Tryz.checked) false ⟨#[], #[.agg #[.int .i64 0, .slice none 0 0, .int .i64 0, .int .i64 0, .slice none 0 0, .slice none 0 0, .slice none 0 0], .agg #[.int .i64 0, .int .i64 0]], []⟩ 8 (by kernel_rfl) (by kernel_rfl) (by kernel_rfl) (by kernel_rfl)) ?_
  intro W base args ds gs before hval0 hW hcnd _
  have hval : ∀ (j : Nat) t v, Tryz.f10.params[j]? = some t → args[j]? = some v → Value.okWide Tryz.prog W .any base t v := hval0
  have hW' := hW
  obtain ⟨p, q, hA0, hV, rfl, hfz, hnd⟩ := hW
  have hA : DataW.TrodAll enc Tryz.prog W 0 (fun _ => true) true Tryz.f10.params.toList args.toList ds p := hA0
  rw [Tryz.params10] at hA hval
  obtain ⟨v0, vs0, d0, ds0, p0, q0, hargs, rfl, rfl, h0, r0⟩ := trodAll_cons hA
  obtain ⟨v1, vs1, d1, ds1, p1, q1, rfl, rfl, rfl, h1, r1⟩ := trodAll_cons r0
  obtain ⟨rfl, rfl, rfl⟩ := trodAll_nil r1
  obtain rfl : args = #[v0, v1] := by cases args; simp_all
  obtain ⟨rfl, rfl⟩ := trodVars_none hV
  have k0 := h0
  have lt0 : ∀ x ∈ p0, x.block < W.heap.size := by obtain ⟨m, hm⟩ := k0; exact DataW.trod_lt m _ _ _ hm
  have k1 := h1
  have lt1 : ∀ x ∈ p1, x.block < W.heap.size := by obtain ⟨m, hm⟩ := k1; exact DataW.trod_lt m _ _ _ hm
  obtain ⟨m0, hR0, hl0⟩ := open_bal (hval 0 33 v0 rfl rfl) h0
  obtain ⟨a1, b1, rfl⟩ := open_flow (hval 1 59 v1 rfl rfl) h1
  clear hA0 hval0
  refine (walkFnExactHint v0 m0 a1 b1 W hR0 hl0  ).mono fun e W' ⟨he, bel⟩ => ?_
  subst he
  exact ⟨_, rfl, _, _, _, [], _, [], hW', trodAll_mk1 (shut_bool Tryz.underlying4 _), (trodAll_cons_mk (Below.trod laidOut (by kernel_rfl) (of_decide_eq_true (by kernel_rfl)) k0 bel lt0) (trodAll_cons_mk (Below.trod laidOut (by kernel_rfl) (of_decide_eq_true (by kernel_rfl)) k1 bel lt1) trodAll_mk0)), rfl, bel.frame _, fun h => by cases h⟩

theorem fnExactHint_over : Rows.fnExactHintRow.holds Tryz.pinned (OpenSpec.ofChange Rows.fnExactHintSpec) :=
  OpenClaim.holds_of_wide 10 Tryz.f10 rfl rfl rfl rfl rfl rfl rfl ⟨rfl, rfl, rfl, rfl, rfl⟩ rfl rfl rfl rfl rfl (by kernel_rfl) Tryz.func10 (by kernel_rfl)
    (of_decide_eq_true (by kernel_rfl)) (by unfold Func.isWrapper; first | (rw [if_pos (by decide +kernel)]; kernel_rfl) | (rw [if_neg (by decide +kernel)]; exact ⟨rfl, rfl⟩))
    (fun os started H enc _ => fnExactHint_lifted os started H enc)

theorem fnExactHint_holds : Rows.FnExactHintSaid := fnExactHint_over

end Go.Proofs.YtajfkcpifnpkeaaGreat
