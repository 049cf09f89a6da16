/- For every balancer and packet the law FnExactRouteOf answers true, and both read as they did: impl.RouteOf answers as the model's, writes nothing into what it is handed, and its answer owns its memory. No conditions. -/
import Derived.Deep.RegionHeld3
import Derived.Test.YtajfkcpifnpkeaaGreatQRouteOf39
import Derived.Test.YtajfkcpifnpkeaaGreatQRouteOf40
namespace Go.Proofs.YtajfkcpifnpkeaaGreat
open Go.ChangeShapes Go.WideShapes Go.ChangeAt Go.RowKit Go.Joins
set_option linter.unusedVariables false
set_option linter.unusedSimpArgs false

theorem routeM_len (m : Bm) (a b f s : Int) (n : Nat) : (routeM m a b f s n).length ≤ 1048576 := by
  unfold routeM
  split
  · next h =>
    rw [Bool.and_eq_true] at h
    have hp := balB_pool h.1
    have hr := Ring.of hp
    obtain ⟨qn, hq, hq8⟩ := bucketI_nat (pool_facts hp).1 (packet_flow h.2)
    unfold routeQ
    rw [hq]
    have h6 := hr.six hq8
    have h2 := hr.two 0 hr.pos qn hq8
    rw [show ((qn : Int)).toNat = qn from rfl]
    have h7 := segsTo_len (endL m.t a b).2 (getL m.t a b).v (candL m.p.ring qn) (candL m.p.ring qn).length
    unfold routeL
    split
    · have h8 := huntTo_len (segsTo (endL m.t a b).2 (getL m.t a b).v (candL m.p.ring qn) (candL m.p.ring qn).length) ((m.p.ring.getD 0 []).getD qn []) ((m.p.ring.getD 0 []).getD qn []).length
      omega
    · omega
  · simp
theorem specRouteOf_in (lo hi : Nat) (v : Value) (m : Bm) (w : World) (h : InBm lo hi w v m) (hh : hi ≤ w.heap.size) (hf : fitB0 m) (vp : Value) (q : Pk) (C : Nat) (hp : RdPk C w vp q) (hl : q.l.length ≤ 1048576) :
    Calls Tryz.prog 22 #[v, vp] w fun e w' => ∃ v', e = .returned v' ∧ ownL layG 126 w' w.heap.size v' (routeM m q.a q.b q.f q.s q.l.length) ∧ Below w.heap.size w w' := by
  obtain ⟨o, c, ob, cb, oR, cR, ot, ct, rfl, r1, r2, r3, r4⟩ := balIn_open h hh
  obtain ⟨po, pc, rfl⟩ := hp.opn
  exact specRouteOf_any m.j.key o m.j.l.length c m.j.safe m.p.key ob m.p.l.length cb oR m.p.ring.length cR ot m.t.length ct m.j.l m.p.l m.p.ring m.t q.a q.b q.f q.s po q.l.length pc w rfl rfl r1 r2 r3 r4 hf (by unfold maxLen; omega)
theorem implRouteOf_in (lo hi : Nat) (v : Value) (m : Bm) (w : World) (h : InBm lo hi w v m) (hh : hi ≤ w.heap.size) (hf : fitB0 m) (vp : Value) (q : Pk) (C : Nat) (hp : RdPk C w vp q) (hl : q.l.length ≤ 1048576) :
    Calls Tryz.prog 24 #[v, vp] w fun e w' => ∃ v', e = .returned v' ∧ ownL layG 126 w' w.heap.size v' (routeM m q.a q.b q.f q.s q.l.length) ∧ Below w.heap.size w w' := by
  obtain ⟨o, c, ob, cb, oR, cR, ot, ct, rfl, r1, r2, r3, r4⟩ := balIn_open h hh
  obtain ⟨po, pc, rfl⟩ := hp.opn
  exact implRouteOf_any m.j.key o m.j.l.length c m.j.safe m.p.key ob m.p.l.length cb oR m.p.ring.length cR ot m.t.length ct m.j.l m.p.l m.p.ring m.t q.a q.b q.f q.s po q.l.length pc w rfl rfl r1 r2 r3 r4 hf (by unfold maxLen; omega)

set_option maxRecDepth 100000 in
set_option maxHeartbeats 16000000 in
theorem lawFnExactRouteOf (v : Value) (m : Bm) (vp : Value) (q : Pk) (w : World) (hR : RdBm w.heap.size w v m) (hl : lenBm m) (hRp : RdPk w.heap.size w vp q) (hlp : q.l.length ≤ maxLen) (hB8 : isB q.l) :
    Calls Tryz.prog 5 #[v, vp] w fun e w' => e = .returned (.bool true) ∧ Below w.heap.size w w' := by
  obtain ⟨oa, ca, oba, cba, oRa, cRa, ota, cta, eva⟩ := hR.opn
  subst eva
  obtain ⟨op, cp, evp⟩ := hRp.opn
  subst evp
  obtain ⟨w0, hw0⟩ : ∃ W, ((w.alloc (.cells #[.int .i64 m.j.key, .slice oa m.j.l.length ca, .int .i64 m.j.safe, .int .i64 m.p.key, .slice oba m.p.l.length cba, .slice oRa m.p.ring.length cRa, .slice ota m.t.length cta] 33)).alloc (.cells #[.int .i64 q.a, .int .i64 q.b, .int .i64 q.f, .int .i64 q.s, .slice op q.l.length cp] 62)) = W := ⟨_, rfl⟩
  have B_w0 : Below w.heap.size w w0 := by rw [← hw0]; exact (((Below.refl _ _).alloc (Nat.le_refl _) _).alloc (by simp) _)
  have hz_w0 : w.heap.size + 1 < w0.heap.size := by rw [← hw0]; simp
  have bxa : w0.heap[w.heap.size]? = some (.cells #[.int .i64 m.j.key, .slice oa m.j.l.length ca, .int .i64 m.j.safe, .int .i64 m.p.key, .slice oba m.p.l.length cba, .slice oRa m.p.ring.length cRa, .slice ota m.t.length cta] 33 (0, 0)) := by
    have h := World.alloc_heap_new w (.cells #[.int .i64 m.j.key, .slice oa m.j.l.length ca, .int .i64 m.j.safe, .int .i64 m.p.key, .slice oba m.p.l.length cba, .slice oRa m.p.ring.length cRa, .slice ota m.t.length cta] 33)
    (try rw [World.size_alloc] at h)
    (try rw [World.size_alloc] at h)
    rw [← hw0]
    refine (Below.heap_alloc _ _ _ (by simp)).trans ?_
    exact h
  have bxp : w0.heap[w.heap.size + 1]? = some (.cells #[.int .i64 q.a, .int .i64 q.b, .int .i64 q.f, .int .i64 q.s, .slice op q.l.length cp] 62 (0, 0)) := by
    have h := World.alloc_heap_new (w.alloc (.cells #[.int .i64 m.j.key, .slice oa m.j.l.length ca, .int .i64 m.j.safe, .int .i64 m.p.key, .slice oba m.p.l.length cba, .slice oRa m.p.ring.length cRa, .slice ota m.t.length cta] 33)) (.cells #[.int .i64 q.a, .int .i64 q.b, .int .i64 q.f, .int .i64 q.s, .slice op q.l.length cp] 62)
    (try rw [World.size_alloc] at h)
    (try rw [World.size_alloc] at h)
    rw [← hw0]
    exact h
  have HRp := hide hRp
  clear hRp
  have HR := hide hR
  clear hR
  have bxac0 : w0.cell? ⟨w.heap.size, 0, none⟩ = some (.int .i64 m.j.key) := block_cellB bxa 0 _ rfl
  have bxac1 : w0.cell? ⟨w.heap.size, 1, none⟩ = some (.slice oa m.j.l.length ca) := block_cellB bxa 1 _ rfl
  have bxac2 : w0.cell? ⟨w.heap.size, 2, none⟩ = some (.int .i64 m.j.safe) := block_cellB bxa 2 _ rfl
  have bxac3 : w0.cell? ⟨w.heap.size, 3, none⟩ = some (.int .i64 m.p.key) := block_cellB bxa 3 _ rfl
  have bxac4 : w0.cell? ⟨w.heap.size, 4, none⟩ = some (.slice oba m.p.l.length cba) := block_cellB bxa 4 _ rfl
  have bxac5 : w0.cell? ⟨w.heap.size, 5, none⟩ = some (.slice oRa m.p.ring.length cRa) := block_cellB bxa 5 _ rfl
  have bxac6 : w0.cell? ⟨w.heap.size, 6, none⟩ = some (.slice ota m.t.length cta) := block_cellB bxa 6 _ rfl
  have Hbxa := hide bxa
  clear bxa
  have Hbxp := hide bxp
  clear bxp
  have HB_ := hide B_w0
  clear B_w0
  go_enter Tryz.func5, Tryz.ntmps5
  go_wp2_with fail
  clear bxac0 bxac1 bxac2 bxac3 bxac4 bxac5 bxac6
  have bxa := Hbxa.out
  clear Hbxa
  have bxp := Hbxp.out
  clear Hbxp
  have B_w0 := HB_.out
  clear HB_
  clear hw0
  have hR := HR.out
  clear HR
  have hRp := HRp.out
  clear HRp
  refine (szBal_sh _ m w0 ((hR.kept B_w0 (Nat.le_refl _)).le B_w0.size) hl).mono ?_
  rintro e w1 ⟨⟨zz, rfl, hz⟩, hb_w1⟩
  replace bxa := (hb_w1.block _ (by omega)).trans bxa
  replace bxp := (hb_w1.block _ (by omega)).trans bxp
  have B_w1 : Below w.heap.size w w1 := B_w0.trans (hb_w1.mono B_w0.size)
  have hs_w1 : w0.heap.size ≤ w1.heap.size := hb_w1.size
  clear hb_w1 B_w0
  rcases hz with ⟨hz1, hz2⟩ | ⟨hz1, hz2, hf⟩
  · have Hbxa := hide bxa
    clear bxa
    have Hbxp := hide bxp
    clear bxp
    have HB_ := hide B_w1
    clear B_w1
    go_wp2
    go_ret
    exact ⟨rfl, HB_.out⟩
  · have hz3 : zz ≤ 1048576 := by omega
    have bxpc0 : w1.cell? ⟨w.heap.size + 1, 0, none⟩ = some (.int .i64 q.a) := block_cellB bxp 0 _ rfl
    have bxpc1 : w1.cell? ⟨w.heap.size + 1, 1, none⟩ = some (.int .i64 q.b) := block_cellB bxp 1 _ rfl
    have bxpc2 : w1.cell? ⟨w.heap.size + 1, 2, none⟩ = some (.int .i64 q.f) := block_cellB bxp 2 _ rfl
    have bxpc3 : w1.cell? ⟨w.heap.size + 1, 3, none⟩ = some (.int .i64 q.s) := block_cellB bxp 3 _ rfl
    have bxpc4 : w1.cell? ⟨w.heap.size + 1, 4, none⟩ = some (.slice op q.l.length cp) := block_cellB bxp 4 _ rfl
    have Hbxa := hide bxa
    clear bxa
    have Hbxp := hide bxp
    clear bxp
    have HB_ := hide B_w1
    clear B_w1
    go_wp2_with fail
    clear bxpc0 bxpc1 bxpc2 bxpc3 bxpc4
    have bxa := Hbxa.out
    clear Hbxa
    have bxp := Hbxp.out
    clear Hbxp
    have B_w1 := HB_.out
    clear HB_
    refine (szPacket_any q.a q.b q.f q.s op q.l.length cp zz w1 hlp (by omega) hz3).mono ?_
    rintro e w2 ⟨rfl, hb_w2⟩
    replace bxa := (hb_w2.block _ (by omega)).trans bxa
    replace bxp := (hb_w2.block _ (by omega)).trans bxp
    have B_w2 : Below w.heap.size w w2 := B_w1.trans (hb_w2.mono B_w1.size)
    have hs_w2 : w1.heap.size ≤ w2.heap.size := hb_w2.size
    clear hb_w2 B_w1
    by_cases hlen : zz - (q.l.length : Int) < 0
    · rw [if_pos hlen]
      have Hbxa := hide bxa
      clear bxa
      have Hbxp := hide bxp
      clear bxp
      have HB_ := hide B_w2
      clear B_w2
      go_wp2
      go_ret
      exact ⟨rfl, HB_.out⟩
    · rw [if_neg hlen]
      have hql : q.l.length ≤ 1048576 := by omega
      have hzn : ¬ (zz - (q.l.length : Int) < 0) := hlen
      have HS := hide (fun lo hi v w h hh vp C hp => specRouteOf_in lo hi v m w h hh hf vp q C hp hql)
      have HI := hide (fun lo hi v w h hh vp C hp => implRouteOf_in lo hi v m w h hh hf vp q C hp hql)
      have hmr := routeM_len m q.a q.b q.f q.s q.l.length
      generalize routeM m q.a q.b q.f q.s q.l.length = mr at *
      clear hlen hz1 hz2 hz3
      have bxac0 : w2.cell? ⟨w.heap.size, 0, none⟩ = some (.int .i64 m.j.key) := block_cellB bxa 0 _ rfl
      have bxac1 : w2.cell? ⟨w.heap.size, 1, none⟩ = some (.slice oa m.j.l.length ca) := block_cellB bxa 1 _ rfl
      have bxac2 : w2.cell? ⟨w.heap.size, 2, none⟩ = some (.int .i64 m.j.safe) := block_cellB bxa 2 _ rfl
      have bxac3 : w2.cell? ⟨w.heap.size, 3, none⟩ = some (.int .i64 m.p.key) := block_cellB bxa 3 _ rfl
      have bxac4 : w2.cell? ⟨w.heap.size, 4, none⟩ = some (.slice oba m.p.l.length cba) := block_cellB bxa 4 _ rfl
      have bxac5 : w2.cell? ⟨w.heap.size, 5, none⟩ = some (.slice oRa m.p.ring.length cRa) := block_cellB bxa 5 _ rfl
      have bxac6 : w2.cell? ⟨w.heap.size, 6, none⟩ = some (.slice ota m.t.length cta) := block_cellB bxa 6 _ rfl
      have bxpc0 : w2.cell? ⟨w.heap.size + 1, 0, none⟩ = some (.int .i64 q.a) := block_cellB bxp 0 _ rfl
      have bxpc1 : w2.cell? ⟨w.heap.size + 1, 1, none⟩ = some (.int .i64 q.b) := block_cellB bxp 1 _ rfl
      have bxpc2 : w2.cell? ⟨w.heap.size + 1, 2, none⟩ = some (.int .i64 q.f) := block_cellB bxp 2 _ rfl
      have bxpc3 : w2.cell? ⟨w.heap.size + 1, 3, none⟩ = some (.int .i64 q.s) := block_cellB bxp 3 _ rfl
      have bxpc4 : w2.cell? ⟨w.heap.size + 1, 4, none⟩ = some (.slice op q.l.length cp) := block_cellB bxp 4 _ rfl
      have Hbxa := hide bxa
      clear bxa
      have Hbxp := hide bxp
      clear bxp
      have HB_ := hide B_w2
      clear B_w2
      go_wp2
      have hk_bxa : w.heap.size < w2.heap.size := by omega
      have hk_bxp : w.heap.size + 1 < w2.heap.size := by omega
      go_region_held3 (fun w' => w'.cell? ⟨w.heap.size, 0, none⟩ = some (.int .i64 m.j.key) ∧ w'.cell? ⟨w.heap.size, 1, none⟩ = some (.slice oa m.j.l.length ca) ∧ w'.cell? ⟨w.heap.size, 2, none⟩ = some (.int .i64 m.j.safe) ∧ w'.cell? ⟨w.heap.size, 3, none⟩ = some (.int .i64 m.p.key) ∧ w'.cell? ⟨w.heap.size, 4, none⟩ = some (.slice oba m.p.l.length cba) ∧ w'.cell? ⟨w.heap.size, 5, none⟩ = some (.slice oRa m.p.ring.length cRa) ∧ w'.cell? ⟨w.heap.size, 6, none⟩ = some (.slice ota m.t.length cta) ∧ w'.cell? ⟨w.heap.size + 1, 0, none⟩ = some (.int .i64 q.a) ∧ w'.cell? ⟨w.heap.size + 1, 1, none⟩ = some (.int .i64 q.b) ∧ w'.cell? ⟨w.heap.size + 1, 2, none⟩ = some (.int .i64 q.f) ∧ w'.cell? ⟨w.heap.size + 1, 3, none⟩ = some (.int .i64 q.s) ∧ w'.cell? ⟨w.heap.size + 1, 4, none⟩ = some (.slice op q.l.length cp)) (first | exact ⟨k2_0, k2_1, k2_2, k2_3, k2_4, k2_5, k2_6, k2_7, k2_8, k2_9, k2_10, k2_11⟩ | exact ⟨k1_0, k1_1, k1_2, k1_3, k1_4, k1_5, k1_6, k1_7, k1_8, k1_9, k1_10, k1_11⟩ | exact ⟨k0_0, k0_1, k0_2, k0_3, k0_4, k0_5, k0_6, k0_7, k0_8, k0_9, k0_10, k0_11⟩ | exact ⟨bxac0, bxac1, bxac2, bxac3, bxac4, bxac5, bxac6, bxpc0, bxpc1, bxpc2, bxpc3, bxpc4⟩) (first | (go_at_call 13; refine (toBal_sh _ m w2.drew ((hR.kept (Below.drew HB_.out) (Nat.le_refl _)).le HB_.out.size) hf).mono ?_; rintro e w3 ⟨v2, rfl, in2, hb⟩; have hx0 : Below w2.heap.size w2 w3 := (Below.drew (Below.refl _ _)).trans hb; clear hb; have k0_0 := (hx0.cell (p := ⟨w.heap.size, 0, none⟩) hk_bxa).trans bxac0; have k0_1 := (hx0.cell (p := ⟨w.heap.size, 1, none⟩) hk_bxa).trans bxac1; have k0_2 := (hx0.cell (p := ⟨w.heap.size, 2, none⟩) hk_bxa).trans bxac2; have k0_3 := (hx0.cell (p := ⟨w.heap.size, 3, none⟩) hk_bxa).trans bxac3; have k0_4 := (hx0.cell (p := ⟨w.heap.size, 4, none⟩) hk_bxa).trans bxac4; have k0_5 := (hx0.cell (p := ⟨w.heap.size, 5, none⟩) hk_bxa).trans bxac5; have k0_6 := (hx0.cell (p := ⟨w.heap.size, 6, none⟩) hk_bxa).trans bxac6; have k0_7 := (hx0.cell (p := ⟨w.heap.size + 1, 0, none⟩) hk_bxp).trans bxpc0; have k0_8 := (hx0.cell (p := ⟨w.heap.size + 1, 1, none⟩) hk_bxp).trans bxpc1; have k0_9 := (hx0.cell (p := ⟨w.heap.size + 1, 2, none⟩) hk_bxp).trans bxpc2; have k0_10 := (hx0.cell (p := ⟨w.heap.size + 1, 3, none⟩) hk_bxp).trans bxpc3; have k0_11 := (hx0.cell (p := ⟨w.heap.size + 1, 4, none⟩) hk_bxp).trans bxpc4) | (go_at_call 23; refine (toPacket_sh _ q w3 ((hRp.kept (HB_.out.trans ((hx0).mono HB_.out.size)) (Nat.le_refl _)).le (Nat.le_trans HB_.out.size hx0.size)) hB8 hql).mono ?_; rintro e w4 ⟨v3, rfl, in3, hb⟩; have rd2 := in2.step (Stp.of (lo := 0) (hi := 0) hb) (.inl (Nat.zero_le _)); have sz2 := hb.size; have hx1 : Below w2.heap.size w2 w4 := hx0.trans (hb.mono hx0.size); clear hb; have k1_0 := (hx1.cell (p := ⟨w.heap.size, 0, none⟩) hk_bxa).trans bxac0; have k1_1 := (hx1.cell (p := ⟨w.heap.size, 1, none⟩) hk_bxa).trans bxac1; have k1_2 := (hx1.cell (p := ⟨w.heap.size, 2, none⟩) hk_bxa).trans bxac2; have k1_3 := (hx1.cell (p := ⟨w.heap.size, 3, none⟩) hk_bxa).trans bxac3; have k1_4 := (hx1.cell (p := ⟨w.heap.size, 4, none⟩) hk_bxa).trans bxac4; have k1_5 := (hx1.cell (p := ⟨w.heap.size, 5, none⟩) hk_bxa).trans bxac5; have k1_6 := (hx1.cell (p := ⟨w.heap.size, 6, none⟩) hk_bxa).trans bxac6; have k1_7 := (hx1.cell (p := ⟨w.heap.size + 1, 0, none⟩) hk_bxp).trans bxpc0; have k1_8 := (hx1.cell (p := ⟨w.heap.size + 1, 1, none⟩) hk_bxp).trans bxpc1; have k1_9 := (hx1.cell (p := ⟨w.heap.size + 1, 2, none⟩) hk_bxp).trans bxpc2; have k1_10 := (hx1.cell (p := ⟨w.heap.size + 1, 3, none⟩) hk_bxp).trans bxpc3; have k1_11 := (hx1.cell (p := ⟨w.heap.size + 1, 4, none⟩) hk_bxp).trans bxpc4) | (go_at_call 22; refine (HS.out _ _ _ w4 rd2 sz2 _ _ in3.rd).mono ?_; rintro e w5 ⟨vw, rfl, hww, hb⟩; have szw := hb.size; have svw := hx1.size; have hx2 : Below w2.heap.size w2 w5 := hx1.trans (hb.mono hx1.size); clear hb; have k2_0 := (hx2.cell (p := ⟨w.heap.size, 0, none⟩) hk_bxa).trans bxac0; have k2_1 := (hx2.cell (p := ⟨w.heap.size, 1, none⟩) hk_bxa).trans bxac1; have k2_2 := (hx2.cell (p := ⟨w.heap.size, 2, none⟩) hk_bxa).trans bxac2; have k2_3 := (hx2.cell (p := ⟨w.heap.size, 3, none⟩) hk_bxa).trans bxac3; have k2_4 := (hx2.cell (p := ⟨w.heap.size, 4, none⟩) hk_bxa).trans bxac4; have k2_5 := (hx2.cell (p := ⟨w.heap.size, 5, none⟩) hk_bxa).trans bxac5; have k2_6 := (hx2.cell (p := ⟨w.heap.size, 6, none⟩) hk_bxa).trans bxac6; have k2_7 := (hx2.cell (p := ⟨w.heap.size + 1, 0, none⟩) hk_bxp).trans bxpc0; have k2_8 := (hx2.cell (p := ⟨w.heap.size + 1, 1, none⟩) hk_bxp).trans bxpc1; have k2_9 := (hx2.cell (p := ⟨w.heap.size + 1, 2, none⟩) hk_bxp).trans bxpc2; have k2_10 := (hx2.cell (p := ⟨w.heap.size + 1, 3, none⟩) hk_bxp).trans bxpc3; have k2_11 := (hx2.cell (p := ⟨w.heap.size + 1, 4, none⟩) hk_bxp).trans bxpc4))
      clear k0_0 k0_1 k0_2 k0_3 k0_4 k0_5 k0_6 k0_7 k0_8 k0_9 k0_10 k0_11
      clear k1_0 k1_1 k1_2 k1_3 k1_4 k1_5 k1_6 k1_7 k1_8 k1_9 k1_10 k1_11
      clear k2_0 k2_1 k2_2 k2_3 k2_4 k2_5 k2_6 k2_7 k2_8 k2_9 k2_10 k2_11
      clear hk_bxa hk_bxp hx0 hx1
      clear bxac0 bxac1 bxac2 bxac3 bxac4 bxac5 bxac6
      clear bxpc0 bxpc1 bxpc2 bxpc3 bxpc4
      have bxa := Hbxa.out
      clear Hbxa
      have bxp := Hbxp.out
      clear Hbxp
      have B_w2 := HB_.out
      clear HB_
      replace bxa := (hx2.block _ (by omega)).trans bxa
      replace bxp := (hx2.block _ (by omega)).trans bxp
      have B_w5 : Below w.heap.size w w5 := B_w2.trans (hx2.mono B_w2.size)
      have hs_w5 : w2.heap.size ≤ w5.heap.size := hx2.size
      clear hx2 B_w2
      have inw : InL layG 126 w4.heap.size w5.heap.size w5 vw mr := InRow.of hww
      clear hww rd2 sz2 in2 in3
      have bxac0 : w5.cell? ⟨w.heap.size, 0, none⟩ = some (.int .i64 m.j.key) := block_cellB bxa 0 _ rfl
      have bxac1 : w5.cell? ⟨w.heap.size, 1, none⟩ = some (.slice oa m.j.l.length ca) := block_cellB bxa 1 _ rfl
      have bxac2 : w5.cell? ⟨w.heap.size, 2, none⟩ = some (.int .i64 m.j.safe) := block_cellB bxa 2 _ rfl
      have bxac3 : w5.cell? ⟨w.heap.size, 3, none⟩ = some (.int .i64 m.p.key) := block_cellB bxa 3 _ rfl
      have bxac4 : w5.cell? ⟨w.heap.size, 4, none⟩ = some (.slice oba m.p.l.length cba) := block_cellB bxa 4 _ rfl
      have bxac5 : w5.cell? ⟨w.heap.size, 5, none⟩ = some (.slice oRa m.p.ring.length cRa) := block_cellB bxa 5 _ rfl
      have bxac6 : w5.cell? ⟨w.heap.size, 6, none⟩ = some (.slice ota m.t.length cta) := block_cellB bxa 6 _ rfl
      have Hbxa := hide bxa
      clear bxa
      have Hbxp := hide bxp
      clear bxp
      have Hinw := hide inw
      clear inw
      have HB_ := hide B_w5
      clear B_w5
      go_wp2_with fail
      clear bxac0 bxac1 bxac2 bxac3 bxac4 bxac5 bxac6
      have bxa := Hbxa.out
      clear Hbxa
      have bxp := Hbxp.out
      clear Hbxp
      have inw := Hinw.out
      clear Hinw
      have B_w5 := HB_.out
      clear HB_
      refine (toBal_sh _ m w5 ((hR.kept B_w5 (Nat.le_refl _)).le B_w5.size) hf).mono ?_
      rintro e w6 ⟨vx, rfl, inx, hb_w6⟩
      replace bxa := (hb_w6.block _ (by omega)).trans bxa
      replace bxp := (hb_w6.block _ (by omega)).trans bxp
      replace inw := inw.step (Stp.of (lo := 0) (hi := 0) hb_w6) (.inl (Nat.zero_le _))
      have B_w6 : Below w.heap.size w w6 := B_w5.trans (hb_w6.mono B_w5.size)
      have hs_w6 : w5.heap.size ≤ w6.heap.size := hb_w6.size
      clear hb_w6 B_w5
      obtain ⟨ox, cx, obx, cbx, oRx, cRx, otx, ctx, evx⟩ := inx.rd.opn
      subst evx
      obtain ⟨w7, hW_w7⟩ : ∃ W, w6.alloc (.cells #[.int .i64 m.j.key, .slice ox m.j.l.length cx, .int .i64 m.j.safe, .int .i64 m.p.key, .slice obx m.p.l.length cbx, .slice oRx m.p.ring.length cRx, .slice otx m.t.length ctx] 46) = W := ⟨_, rfl⟩
      have bxx : w7.heap[w6.heap.size]? = some (.cells #[.int .i64 m.j.key, .slice ox m.j.l.length cx, .int .i64 m.j.safe, .int .i64 m.p.key, .slice obx m.p.l.length cbx, .slice oRx m.p.ring.length cRx, .slice otx m.t.length ctx] 46 (0, 0)) := by rw [← hW_w7]; exact World.alloc_heap_new w6 _
      have hb_w7 : Below w6.heap.size w6 w7 := by rw [← hW_w7]; exact (Below.refl _ _).alloc (Nat.le_refl _) _
      have hz_w7 : w6.heap.size < w7.heap.size := by rw [← hW_w7]; simp
      replace bxa := (hb_w7.block _ (by omega)).trans bxa
      replace bxp := (hb_w7.block _ (by omega)).trans bxp
      replace inw := inw.step (Stp.of (lo := 0) (hi := 0) hb_w7) (.inl (Nat.zero_le _))
      replace inx := inx.step (Stp.of (lo := 0) (hi := 0) hb_w7) (.inl (Nat.zero_le _))
      have B_w7 : Below w.heap.size w w7 := B_w6.trans (hb_w7.mono B_w6.size)
      have hs_w7 : w6.heap.size ≤ w7.heap.size := hb_w7.size
      clear hb_w7 B_w6
      have bxpc0 : w7.cell? ⟨w.heap.size + 1, 0, none⟩ = some (.int .i64 q.a) := block_cellB bxp 0 _ rfl
      have bxpc1 : w7.cell? ⟨w.heap.size + 1, 1, none⟩ = some (.int .i64 q.b) := block_cellB bxp 1 _ rfl
      have bxpc2 : w7.cell? ⟨w.heap.size + 1, 2, none⟩ = some (.int .i64 q.f) := block_cellB bxp 2 _ rfl
      have bxpc3 : w7.cell? ⟨w.heap.size + 1, 3, none⟩ = some (.int .i64 q.s) := block_cellB bxp 3 _ rfl
      have bxpc4 : w7.cell? ⟨w.heap.size + 1, 4, none⟩ = some (.slice op q.l.length cp) := block_cellB bxp 4 _ rfl
      have Hbxa := hide bxa
      clear bxa
      have Hbxp := hide bxp
      clear bxp
      have Hinw := hide inw
      clear inw
      have Hinx := hide inx
      clear inx
      have Hbxx := hide bxx
      clear bxx
      have HB_ := hide B_w7
      clear B_w7
      go_wp2_with fail
      clear bxpc0 bxpc1 bxpc2 bxpc3 bxpc4
      have bxa := Hbxa.out
      clear Hbxa
      have bxp := Hbxp.out
      clear Hbxp
      have inw := Hinw.out
      clear Hinw
      have inx := Hinx.out
      clear Hinx
      have bxx := Hbxx.out
      clear Hbxx
      have B_w7 := HB_.out
      clear HB_
      refine (toPacket_sh _ q w7 ((hRp.kept B_w7 (Nat.le_refl _)).le B_w7.size) hB8 hql).mono ?_
      rintro e w8 ⟨vy, rfl, iny, hb_w8⟩
      replace bxa := (hb_w8.block _ (by omega)).trans bxa
      replace bxp := (hb_w8.block _ (by omega)).trans bxp
      replace inw := inw.step (Stp.of (lo := 0) (hi := 0) hb_w8) (.inl (Nat.zero_le _))
      replace inx := inx.step (Stp.of (lo := 0) (hi := 0) hb_w8) (.inl (Nat.zero_le _))
      replace bxx := (hb_w8.block _ (by omega)).trans bxx
      have B_w8 : Below w.heap.size w w8 := B_w7.trans (hb_w8.mono B_w7.size)
      have hs_w8 : w7.heap.size ≤ w8.heap.size := hb_w8.size
      clear hb_w8 B_w7
      obtain ⟨oy, cy, evy⟩ := iny.rd.opn
      subst evy
      obtain ⟨w9, hW_w9⟩ : ∃ W, w8.alloc (.cells #[.int .i64 q.a, .int .i64 q.b, .int .i64 q.f, .int .i64 q.s, .slice oy q.l.length cy] 68) = W := ⟨_, rfl⟩
      have bxy : w9.heap[w8.heap.size]? = some (.cells #[.int .i64 q.a, .int .i64 q.b, .int .i64 q.f, .int .i64 q.s, .slice oy q.l.length cy] 68 (0, 0)) := by rw [← hW_w9]; exact World.alloc_heap_new w8 _
      have hb_w9 : Below w8.heap.size w8 w9 := by rw [← hW_w9]; exact (Below.refl _ _).alloc (Nat.le_refl _) _
      have hz_w9 : w8.heap.size < w9.heap.size := by rw [← hW_w9]; simp
      replace bxa := (hb_w9.block _ (by omega)).trans bxa
      replace bxp := (hb_w9.block _ (by omega)).trans bxp
      replace inw := inw.step (Stp.of (lo := 0) (hi := 0) hb_w9) (.inl (Nat.zero_le _))
      replace inx := inx.step (Stp.of (lo := 0) (hi := 0) hb_w9) (.inl (Nat.zero_le _))
      replace bxx := (hb_w9.block _ (by omega)).trans bxx
      replace iny := iny.step (Stp.of (lo := 0) (hi := 0) hb_w9) (.inl (Nat.zero_le _))
      have B_w9 : Below w.heap.size w w9 := B_w8.trans (hb_w9.mono B_w8.size)
      have hs_w9 : w8.heap.size ≤ w9.heap.size := hb_w9.size
      clear hb_w9 B_w8
      have bxxc0 : w9.cell? ⟨w6.heap.size, 0, none⟩ = some (.int .i64 m.j.key) := block_cellB bxx 0 _ rfl
      have bxxc1 : w9.cell? ⟨w6.heap.size, 1, none⟩ = some (.slice ox m.j.l.length cx) := block_cellB bxx 1 _ rfl
      have bxxc2 : w9.cell? ⟨w6.heap.size, 2, none⟩ = some (.int .i64 m.j.safe) := block_cellB bxx 2 _ rfl
      have bxxc3 : w9.cell? ⟨w6.heap.size, 3, none⟩ = some (.int .i64 m.p.key) := block_cellB bxx 3 _ rfl
      have bxxc4 : w9.cell? ⟨w6.heap.size, 4, none⟩ = some (.slice obx m.p.l.length cbx) := block_cellB bxx 4 _ rfl
      have bxxc5 : w9.cell? ⟨w6.heap.size, 5, none⟩ = some (.slice oRx m.p.ring.length cRx) := block_cellB bxx 5 _ rfl
      have bxxc6 : w9.cell? ⟨w6.heap.size, 6, none⟩ = some (.slice otx m.t.length ctx) := block_cellB bxx 6 _ rfl
      have bxyc0 : w9.cell? ⟨w8.heap.size, 0, none⟩ = some (.int .i64 q.a) := block_cellB bxy 0 _ rfl
      have bxyc1 : w9.cell? ⟨w8.heap.size, 1, none⟩ = some (.int .i64 q.b) := block_cellB bxy 1 _ rfl
      have bxyc2 : w9.cell? ⟨w8.heap.size, 2, none⟩ = some (.int .i64 q.f) := block_cellB bxy 2 _ rfl
      have bxyc3 : w9.cell? ⟨w8.heap.size, 3, none⟩ = some (.int .i64 q.s) := block_cellB bxy 3 _ rfl
      have bxyc4 : w9.cell? ⟨w8.heap.size, 4, none⟩ = some (.slice oy q.l.length cy) := block_cellB bxy 4 _ rfl
      have Hbxa := hide bxa
      clear bxa
      have Hbxp := hide bxp
      clear bxp
      have Hinw := hide inw
      clear inw
      have Hinx := hide inx
      clear inx
      have Hbxx := hide bxx
      clear bxx
      have Hiny := hide iny
      clear iny
      have Hbxy := hide bxy
      clear bxy
      have HB_ := hide B_w9
      clear B_w9
      go_wp2_with fail
      clear bxxc0 bxxc1 bxxc2 bxxc3 bxxc4 bxxc5 bxxc6
      clear bxyc0 bxyc1 bxyc2 bxyc3 bxyc4
      have bxa := Hbxa.out
      clear Hbxa
      have bxp := Hbxp.out
      clear Hbxp
      have inw := Hinw.out
      clear Hinw
      have inx := Hinx.out
      clear Hinx
      have bxx := Hbxx.out
      clear Hbxx
      have iny := Hiny.out
      clear Hiny
      have bxy := Hbxy.out
      clear Hbxy
      have B_w9 := HB_.out
      clear HB_
      refine (HI.out _ _ _ w9 inx (by omega) _ _ iny.rd).mono ?_
      rintro e w10 ⟨vg, rfl, hwg, hb_w10⟩
      replace bxa := (hb_w10.block _ (by omega)).trans bxa
      replace bxp := (hb_w10.block _ (by omega)).trans bxp
      replace inw := inw.step (Stp.of (lo := 0) (hi := 0) hb_w10) (.inl (Nat.zero_le _))
      replace inx := inx.step (Stp.of (lo := 0) (hi := 0) hb_w10) (.inl (Nat.zero_le _))
      replace bxx := (hb_w10.block _ (by omega)).trans bxx
      replace iny := iny.step (Stp.of (lo := 0) (hi := 0) hb_w10) (.inl (Nat.zero_le _))
      replace bxy := (hb_w10.block _ (by omega)).trans bxy
      have B_w10 : Below w.heap.size w w10 := B_w9.trans (hb_w10.mono B_w9.size)
      have hs_w10 : w9.heap.size ≤ w10.heap.size := hb_w10.size
      clear hb_w10 B_w9
      have ing : InL layG 126 w9.heap.size w10.heap.size w10 vg mr := InRow.of hwg
      clear hwg
      clear hW_w7 hW_w9
      have Hbxa := hide bxa
      clear bxa
      have Hbxp := hide bxp
      clear bxp
      have Hinw := hide inw
      clear inw
      have Hinx := hide inx
      clear inx
      have Hbxx := hide bxx
      clear bxx
      have Hiny := hide iny
      clear iny
      have Hbxy := hide bxy
      clear bxy
      have Hing := hide ing
      clear ing
      have HB_ := hide B_w10
      clear B_w10
      go_wp2_with fail
      have bxa := Hbxa.out
      clear Hbxa
      have bxp := Hbxp.out
      clear Hbxp
      have inw := Hinw.out
      clear Hinw
      have inx := Hinx.out
      clear Hinx
      have bxx := Hbxx.out
      clear Hbxx
      have iny := Hiny.out
      clear Hiny
      have bxy := Hbxy.out
      clear Hbxy
      have ing := Hing.out
      clear Hing
      have B_w10 := HB_.out
      clear HB_
      refine (eqSegS_sh _ _ mr w10 ((InL.rd (L := layG) ing).le (by omega)) ((InL.rd (L := layG) inw).le (by omega)) hmr).mono ?_
      rintro e w11 ⟨rfl, hb_w11⟩
      replace bxa := (hb_w11.block _ (by omega)).trans bxa
      replace bxp := (hb_w11.block _ (by omega)).trans bxp
      replace inw := inw.step (Stp.of (lo := 0) (hi := 0) hb_w11) (.inl (Nat.zero_le _))
      replace inx := inx.step (Stp.of (lo := 0) (hi := 0) hb_w11) (.inl (Nat.zero_le _))
      replace bxx := (hb_w11.block _ (by omega)).trans bxx
      replace iny := iny.step (Stp.of (lo := 0) (hi := 0) hb_w11) (.inl (Nat.zero_le _))
      replace bxy := (hb_w11.block _ (by omega)).trans bxy
      replace ing := ing.step (Stp.of (lo := 0) (hi := 0) hb_w11) (.inl (Nat.zero_le _))
      have B_w11 : Below w.heap.size w w11 := B_w10.trans (hb_w11.mono B_w10.size)
      have hs_w11 : w10.heap.size ≤ w11.heap.size := hb_w11.size
      clear hb_w11 B_w10
      have bxac0 : w11.cell? ⟨w.heap.size, 0, none⟩ = some (.int .i64 m.j.key) := block_cellB bxa 0 _ rfl
      have bxac1 : w11.cell? ⟨w.heap.size, 1, none⟩ = some (.slice oa m.j.l.length ca) := block_cellB bxa 1 _ rfl
      have bxac2 : w11.cell? ⟨w.heap.size, 2, none⟩ = some (.int .i64 m.j.safe) := block_cellB bxa 2 _ rfl
      have bxac3 : w11.cell? ⟨w.heap.size, 3, none⟩ = some (.int .i64 m.p.key) := block_cellB bxa 3 _ rfl
      have bxac4 : w11.cell? ⟨w.heap.size, 4, none⟩ = some (.slice oba m.p.l.length cba) := block_cellB bxa 4 _ rfl
      have bxac5 : w11.cell? ⟨w.heap.size, 5, none⟩ = some (.slice oRa m.p.ring.length cRa) := block_cellB bxa 5 _ rfl
      have bxac6 : w11.cell? ⟨w.heap.size, 6, none⟩ = some (.slice ota m.t.length cta) := block_cellB bxa 6 _ rfl
      have bxxc0 : w11.cell? ⟨w6.heap.size, 0, none⟩ = some (.int .i64 m.j.key) := block_cellB bxx 0 _ rfl
      have bxxc1 : w11.cell? ⟨w6.heap.size, 1, none⟩ = some (.slice ox m.j.l.length cx) := block_cellB bxx 1 _ rfl
      have bxxc2 : w11.cell? ⟨w6.heap.size, 2, none⟩ = some (.int .i64 m.j.safe) := block_cellB bxx 2 _ rfl
      have bxxc3 : w11.cell? ⟨w6.heap.size, 3, none⟩ = some (.int .i64 m.p.key) := block_cellB bxx 3 _ rfl
      have bxxc4 : w11.cell? ⟨w6.heap.size, 4, none⟩ = some (.slice obx m.p.l.length cbx) := block_cellB bxx 4 _ rfl
      have bxxc5 : w11.cell? ⟨w6.heap.size, 5, none⟩ = some (.slice oRx m.p.ring.length cRx) := block_cellB bxx 5 _ rfl
      have bxxc6 : w11.cell? ⟨w6.heap.size, 6, none⟩ = some (.slice otx m.t.length ctx) := block_cellB bxx 6 _ rfl
      have Hbxa := hide bxa
      clear bxa
      have Hbxp := hide bxp
      clear bxp
      have Hinw := hide inw
      clear inw
      have Hinx := hide inx
      clear inx
      have Hbxx := hide bxx
      clear bxx
      have Hiny := hide iny
      clear iny
      have Hbxy := hide bxy
      clear bxy
      have Hing := hide ing
      clear ing
      have HB_ := hide B_w11
      clear B_w11
      go_wp2
      have hk_bxa : w.heap.size < w11.heap.size := by omega
      have hk_bxx : w6.heap.size < w11.heap.size := by omega
      go_region_held3 (fun w' => w'.cell? ⟨w.heap.size, 0, none⟩ = some (.int .i64 m.j.key) ∧ w'.cell? ⟨w.heap.size, 1, none⟩ = some (.slice oa m.j.l.length ca) ∧ w'.cell? ⟨w.heap.size, 2, none⟩ = some (.int .i64 m.j.safe) ∧ w'.cell? ⟨w.heap.size, 3, none⟩ = some (.int .i64 m.p.key) ∧ w'.cell? ⟨w.heap.size, 4, none⟩ = some (.slice oba m.p.l.length cba) ∧ w'.cell? ⟨w.heap.size, 5, none⟩ = some (.slice oRa m.p.ring.length cRa) ∧ w'.cell? ⟨w.heap.size, 6, none⟩ = some (.slice ota m.t.length cta) ∧ w'.cell? ⟨w6.heap.size, 0, none⟩ = some (.int .i64 m.j.key) ∧ w'.cell? ⟨w6.heap.size, 1, none⟩ = some (.slice ox m.j.l.length cx) ∧ w'.cell? ⟨w6.heap.size, 2, none⟩ = some (.int .i64 m.j.safe) ∧ w'.cell? ⟨w6.heap.size, 3, none⟩ = some (.int .i64 m.p.key) ∧ w'.cell? ⟨w6.heap.size, 4, none⟩ = some (.slice obx m.p.l.length cbx) ∧ w'.cell? ⟨w6.heap.size, 5, none⟩ = some (.slice oRx m.p.ring.length cRx) ∧ w'.cell? ⟨w6.heap.size, 6, none⟩ = some (.slice otx m.t.length ctx)) (first | exact ⟨k1_0, k1_1, k1_2, k1_3, k1_4, k1_5, k1_6, k1_7, k1_8, k1_9, k1_10, k1_11, k1_12, k1_13⟩ | exact ⟨k0_0, k0_1, k0_2, k0_3, k0_4, k0_5, k0_6, k0_7, k0_8, k0_9, k0_10, k0_11, k0_12, k0_13⟩ | exact ⟨bxac0, bxac1, bxac2, bxac3, bxac4, bxac5, bxac6, bxxc0, bxxc1, bxxc2, bxxc3, bxxc4, bxxc5, bxxc6⟩) (first | (go_at_call 13; refine (toBal_sh _ m w11.drew ((hR.kept (Below.drew HB_.out) (Nat.le_refl _)).le HB_.out.size) hf).mono ?_; rintro e w12 ⟨va, rfl, ina, hb⟩; have hbx : Below w11.heap.size w11 w12 := (Below.drew (Below.refl _ _)).trans hb; have rdx := Hinx.out.rd.kept hbx (by omega); have szx := hbx.size; have hx0 : Below w11.heap.size w11 w12 := (Below.drew (Below.refl _ _)).trans hb; clear hb; have k0_0 := (hx0.cell (p := ⟨w.heap.size, 0, none⟩) hk_bxa).trans bxac0; have k0_1 := (hx0.cell (p := ⟨w.heap.size, 1, none⟩) hk_bxa).trans bxac1; have k0_2 := (hx0.cell (p := ⟨w.heap.size, 2, none⟩) hk_bxa).trans bxac2; have k0_3 := (hx0.cell (p := ⟨w.heap.size, 3, none⟩) hk_bxa).trans bxac3; have k0_4 := (hx0.cell (p := ⟨w.heap.size, 4, none⟩) hk_bxa).trans bxac4; have k0_5 := (hx0.cell (p := ⟨w.heap.size, 5, none⟩) hk_bxa).trans bxac5; have k0_6 := (hx0.cell (p := ⟨w.heap.size, 6, none⟩) hk_bxa).trans bxac6; have k0_7 := (hx0.cell (p := ⟨w6.heap.size, 0, none⟩) hk_bxx).trans bxxc0; have k0_8 := (hx0.cell (p := ⟨w6.heap.size, 1, none⟩) hk_bxx).trans bxxc1; have k0_9 := (hx0.cell (p := ⟨w6.heap.size, 2, none⟩) hk_bxx).trans bxxc2; have k0_10 := (hx0.cell (p := ⟨w6.heap.size, 3, none⟩) hk_bxx).trans bxxc3; have k0_11 := (hx0.cell (p := ⟨w6.heap.size, 4, none⟩) hk_bxx).trans bxxc4; have k0_12 := (hx0.cell (p := ⟨w6.heap.size, 5, none⟩) hk_bxx).trans bxxc5; have k0_13 := (hx0.cell (p := ⟨w6.heap.size, 6, none⟩) hk_bxx).trans bxxc6) | (go_at_call 15; refine (eqBal_sh _ _ m w12 (rdx.le (by omega)) (ina.rd.le (Nat.le_refl _)) hf).mono ?_; rintro e w13 ⟨rfl, hb⟩; have hx1 : Below w11.heap.size w11 w13 := hx0.trans (hb.mono hx0.size); clear hb; have k1_0 := (hx1.cell (p := ⟨w.heap.size, 0, none⟩) hk_bxa).trans bxac0; have k1_1 := (hx1.cell (p := ⟨w.heap.size, 1, none⟩) hk_bxa).trans bxac1; have k1_2 := (hx1.cell (p := ⟨w.heap.size, 2, none⟩) hk_bxa).trans bxac2; have k1_3 := (hx1.cell (p := ⟨w.heap.size, 3, none⟩) hk_bxa).trans bxac3; have k1_4 := (hx1.cell (p := ⟨w.heap.size, 4, none⟩) hk_bxa).trans bxac4; have k1_5 := (hx1.cell (p := ⟨w.heap.size, 5, none⟩) hk_bxa).trans bxac5; have k1_6 := (hx1.cell (p := ⟨w.heap.size, 6, none⟩) hk_bxa).trans bxac6; have k1_7 := (hx1.cell (p := ⟨w6.heap.size, 0, none⟩) hk_bxx).trans bxxc0; have k1_8 := (hx1.cell (p := ⟨w6.heap.size, 1, none⟩) hk_bxx).trans bxxc1; have k1_9 := (hx1.cell (p := ⟨w6.heap.size, 2, none⟩) hk_bxx).trans bxxc2; have k1_10 := (hx1.cell (p := ⟨w6.heap.size, 3, none⟩) hk_bxx).trans bxxc3; have k1_11 := (hx1.cell (p := ⟨w6.heap.size, 4, none⟩) hk_bxx).trans bxxc4; have k1_12 := (hx1.cell (p := ⟨w6.heap.size, 5, none⟩) hk_bxx).trans bxxc5; have k1_13 := (hx1.cell (p := ⟨w6.heap.size, 6, none⟩) hk_bxx).trans bxxc6))
      clear k0_0 k0_1 k0_2 k0_3 k0_4 k0_5 k0_6 k0_7 k0_8 k0_9 k0_10 k0_11 k0_12 k0_13
      clear k1_0 k1_1 k1_2 k1_3 k1_4 k1_5 k1_6 k1_7 k1_8 k1_9 k1_10 k1_11 k1_12 k1_13
      clear hk_bxa hk_bxx hx0
      clear bxac0 bxac1 bxac2 bxac3 bxac4 bxac5 bxac6
      clear bxxc0 bxxc1 bxxc2 bxxc3 bxxc4 bxxc5 bxxc6
      have bxa := Hbxa.out
      clear Hbxa
      have bxp := Hbxp.out
      clear Hbxp
      have inw := Hinw.out
      clear Hinw
      have inx := Hinx.out
      clear Hinx
      have bxx := Hbxx.out
      clear Hbxx
      have iny := Hiny.out
      clear Hiny
      have bxy := Hbxy.out
      clear Hbxy
      have ing := Hing.out
      clear Hing
      have B_w11 := HB_.out
      clear HB_
      replace bxa := (hx1.block _ (by omega)).trans bxa
      replace bxp := (hx1.block _ (by omega)).trans bxp
      replace inw := inw.step (Stp.of (lo := 0) (hi := 0) hx1) (.inl (Nat.zero_le _))
      replace inx := inx.step (Stp.of (lo := 0) (hi := 0) hx1) (.inl (Nat.zero_le _))
      replace bxx := (hx1.block _ (by omega)).trans bxx
      replace iny := iny.step (Stp.of (lo := 0) (hi := 0) hx1) (.inl (Nat.zero_le _))
      replace bxy := (hx1.block _ (by omega)).trans bxy
      replace ing := ing.step (Stp.of (lo := 0) (hi := 0) hx1) (.inl (Nat.zero_le _))
      have B_w13 : Below w.heap.size w w13 := B_w11.trans (hx1.mono B_w11.size)
      have hs_w13 : w11.heap.size ≤ w13.heap.size := hx1.size
      clear hx1 B_w11
      clear rdx szx ina hbx
      have bxpc0 : w13.cell? ⟨w.heap.size + 1, 0, none⟩ = some (.int .i64 q.a) := block_cellB bxp 0 _ rfl
      have bxpc1 : w13.cell? ⟨w.heap.size + 1, 1, none⟩ = some (.int .i64 q.b) := block_cellB bxp 1 _ rfl
      have bxpc2 : w13.cell? ⟨w.heap.size + 1, 2, none⟩ = some (.int .i64 q.f) := block_cellB bxp 2 _ rfl
      have bxpc3 : w13.cell? ⟨w.heap.size + 1, 3, none⟩ = some (.int .i64 q.s) := block_cellB bxp 3 _ rfl
      have bxpc4 : w13.cell? ⟨w.heap.size + 1, 4, none⟩ = some (.slice op q.l.length cp) := block_cellB bxp 4 _ rfl
      have bxyc0 : w13.cell? ⟨w8.heap.size, 0, none⟩ = some (.int .i64 q.a) := block_cellB bxy 0 _ rfl
      have bxyc1 : w13.cell? ⟨w8.heap.size, 1, none⟩ = some (.int .i64 q.b) := block_cellB bxy 1 _ rfl
      have bxyc2 : w13.cell? ⟨w8.heap.size, 2, none⟩ = some (.int .i64 q.f) := block_cellB bxy 2 _ rfl
      have bxyc3 : w13.cell? ⟨w8.heap.size, 3, none⟩ = some (.int .i64 q.s) := block_cellB bxy 3 _ rfl
      have bxyc4 : w13.cell? ⟨w8.heap.size, 4, none⟩ = some (.slice oy q.l.length cy) := block_cellB bxy 4 _ rfl
      have Hbxa := hide bxa
      clear bxa
      have Hbxp := hide bxp
      clear bxp
      have Hinw := hide inw
      clear inw
      have Hinx := hide inx
      clear inx
      have Hbxx := hide bxx
      clear bxx
      have Hiny := hide iny
      clear iny
      have Hbxy := hide bxy
      clear bxy
      have Hing := hide ing
      clear ing
      have HB_ := hide B_w13
      clear B_w13
      go_wp2
      have hk_bxp : w.heap.size + 1 < w13.heap.size := by omega
      have hk_bxy : w8.heap.size < w13.heap.size := by omega
      go_region_held3 (fun w' => w'.cell? ⟨w.heap.size + 1, 0, none⟩ = some (.int .i64 q.a) ∧ w'.cell? ⟨w.heap.size + 1, 1, none⟩ = some (.int .i64 q.b) ∧ w'.cell? ⟨w.heap.size + 1, 2, none⟩ = some (.int .i64 q.f) ∧ w'.cell? ⟨w.heap.size + 1, 3, none⟩ = some (.int .i64 q.s) ∧ w'.cell? ⟨w.heap.size + 1, 4, none⟩ = some (.slice op q.l.length cp) ∧ w'.cell? ⟨w8.heap.size, 0, none⟩ = some (.int .i64 q.a) ∧ w'.cell? ⟨w8.heap.size, 1, none⟩ = some (.int .i64 q.b) ∧ w'.cell? ⟨w8.heap.size, 2, none⟩ = some (.int .i64 q.f) ∧ w'.cell? ⟨w8.heap.size, 3, none⟩ = some (.int .i64 q.s) ∧ w'.cell? ⟨w8.heap.size, 4, none⟩ = some (.slice oy q.l.length cy)) (first | exact ⟨k1_0, k1_1, k1_2, k1_3, k1_4, k1_5, k1_6, k1_7, k1_8, k1_9⟩ | exact ⟨k0_0, k0_1, k0_2, k0_3, k0_4, k0_5, k0_6, k0_7, k0_8, k0_9⟩ | exact ⟨bxpc0, bxpc1, bxpc2, bxpc3, bxpc4, bxyc0, bxyc1, bxyc2, bxyc3, bxyc4⟩) (first | (go_at_call 23; refine (toPacket_sh _ q w13.drew ((hRp.kept (Below.drew HB_.out) (Nat.le_refl _)).le HB_.out.size) hB8 hql).mono ?_; rintro e w14 ⟨va, rfl, ina, hb⟩; have hbx : Below w13.heap.size w13 w14 := (Below.drew (Below.refl _ _)).trans hb; have rdx := Hiny.out.rd.kept hbx (by omega); have szx := hbx.size; have hx0 : Below w13.heap.size w13 w14 := (Below.drew (Below.refl _ _)).trans hb; clear hb; have k0_0 := (hx0.cell (p := ⟨w.heap.size + 1, 0, none⟩) hk_bxp).trans bxpc0; have k0_1 := (hx0.cell (p := ⟨w.heap.size + 1, 1, none⟩) hk_bxp).trans bxpc1; have k0_2 := (hx0.cell (p := ⟨w.heap.size + 1, 2, none⟩) hk_bxp).trans bxpc2; have k0_3 := (hx0.cell (p := ⟨w.heap.size + 1, 3, none⟩) hk_bxp).trans bxpc3; have k0_4 := (hx0.cell (p := ⟨w.heap.size + 1, 4, none⟩) hk_bxp).trans bxpc4; have k0_5 := (hx0.cell (p := ⟨w8.heap.size, 0, none⟩) hk_bxy).trans bxyc0; have k0_6 := (hx0.cell (p := ⟨w8.heap.size, 1, none⟩) hk_bxy).trans bxyc1; have k0_7 := (hx0.cell (p := ⟨w8.heap.size, 2, none⟩) hk_bxy).trans bxyc2; have k0_8 := (hx0.cell (p := ⟨w8.heap.size, 3, none⟩) hk_bxy).trans bxyc3; have k0_9 := (hx0.cell (p := ⟨w8.heap.size, 4, none⟩) hk_bxy).trans bxyc4) | (go_at_call 26; refine (eqPacket_sh _ _ q w14 (rdx.le (by omega)) (ina.rd.le (Nat.le_refl _)) hql).mono ?_; rintro e w15 ⟨rfl, hb⟩; have hx1 : Below w13.heap.size w13 w15 := hx0.trans (hb.mono hx0.size); clear hb; have k1_0 := (hx1.cell (p := ⟨w.heap.size + 1, 0, none⟩) hk_bxp).trans bxpc0; have k1_1 := (hx1.cell (p := ⟨w.heap.size + 1, 1, none⟩) hk_bxp).trans bxpc1; have k1_2 := (hx1.cell (p := ⟨w.heap.size + 1, 2, none⟩) hk_bxp).trans bxpc2; have k1_3 := (hx1.cell (p := ⟨w.heap.size + 1, 3, none⟩) hk_bxp).trans bxpc3; have k1_4 := (hx1.cell (p := ⟨w.heap.size + 1, 4, none⟩) hk_bxp).trans bxpc4; have k1_5 := (hx1.cell (p := ⟨w8.heap.size, 0, none⟩) hk_bxy).trans bxyc0; have k1_6 := (hx1.cell (p := ⟨w8.heap.size, 1, none⟩) hk_bxy).trans bxyc1; have k1_7 := (hx1.cell (p := ⟨w8.heap.size, 2, none⟩) hk_bxy).trans bxyc2; have k1_8 := (hx1.cell (p := ⟨w8.heap.size, 3, none⟩) hk_bxy).trans bxyc3; have k1_9 := (hx1.cell (p := ⟨w8.heap.size, 4, none⟩) hk_bxy).trans bxyc4))
      clear k0_0 k0_1 k0_2 k0_3 k0_4 k0_5 k0_6 k0_7 k0_8 k0_9
      clear k1_0 k1_1 k1_2 k1_3 k1_4 k1_5 k1_6 k1_7 k1_8 k1_9
      clear hk_bxp hk_bxy hx0
      clear bxpc0 bxpc1 bxpc2 bxpc3 bxpc4
      clear bxyc0 bxyc1 bxyc2 bxyc3 bxyc4
      have bxa := Hbxa.out
      clear Hbxa
      have bxp := Hbxp.out
      clear Hbxp
      have inw := Hinw.out
      clear Hinw
      have inx := Hinx.out
      clear Hinx
      have bxx := Hbxx.out
      clear Hbxx
      have iny := Hiny.out
      clear Hiny
      have bxy := Hbxy.out
      clear Hbxy
      have ing := Hing.out
      clear Hing
      have B_w13 := HB_.out
      clear HB_
      replace bxa := (hx1.block _ (by omega)).trans bxa
      replace bxp := (hx1.block _ (by omega)).trans bxp
      replace inw := inw.step (Stp.of (lo := 0) (hi := 0) hx1) (.inl (Nat.zero_le _))
      replace inx := inx.step (Stp.of (lo := 0) (hi := 0) hx1) (.inl (Nat.zero_le _))
      replace bxx := (hx1.block _ (by omega)).trans bxx
      replace iny := iny.step (Stp.of (lo := 0) (hi := 0) hx1) (.inl (Nat.zero_le _))
      replace bxy := (hx1.block _ (by omega)).trans bxy
      replace ing := ing.step (Stp.of (lo := 0) (hi := 0) hx1) (.inl (Nat.zero_le _))
      have B_w15 : Below w.heap.size w w15 := B_w13.trans (hx1.mono B_w13.size)
      have hs_w15 : w13.heap.size ≤ w15.heap.size := hx1.size
      clear hx1 B_w13
      clear rdx szx ina hbx
      have bxxc0 : w15.cell? ⟨w6.heap.size, 0, none⟩ = some (.int .i64 m.j.key) := block_cellB bxx 0 _ rfl
      have bxxc1 : w15.cell? ⟨w6.heap.size, 1, none⟩ = some (.slice ox m.j.l.length cx) := block_cellB bxx 1 _ rfl
      have bxxc2 : w15.cell? ⟨w6.heap.size, 2, none⟩ = some (.int .i64 m.j.safe) := block_cellB bxx 2 _ rfl
      have bxxc3 : w15.cell? ⟨w6.heap.size, 3, none⟩ = some (.int .i64 m.p.key) := block_cellB bxx 3 _ rfl
      have bxxc4 : w15.cell? ⟨w6.heap.size, 4, none⟩ = some (.slice obx m.p.l.length cbx) := block_cellB bxx 4 _ rfl
      have bxxc5 : w15.cell? ⟨w6.heap.size, 5, none⟩ = some (.slice oRx m.p.ring.length cRx) := block_cellB bxx 5 _ rfl
      have bxxc6 : w15.cell? ⟨w6.heap.size, 6, none⟩ = some (.slice otx m.t.length ctx) := block_cellB bxx 6 _ rfl
      have Hbxa := hide bxa
      clear bxa
      have Hbxp := hide bxp
      clear bxp
      have Hinw := hide inw
      clear inw
      have Hinx := hide inx
      clear inx
      have Hbxx := hide bxx
      clear bxx
      have Hiny := hide iny
      clear iny
      have Hbxy := hide bxy
      clear bxy
      have Hing := hide ing
      clear ing
      have HB_ := hide B_w15
      clear B_w15
      go_wp2_with fail
      clear bxxc0 bxxc1 bxxc2 bxxc3 bxxc4 bxxc5 bxxc6
      have bxa := Hbxa.out
      clear Hbxa
      have bxp := Hbxp.out
      clear Hbxp
      have inw := Hinw.out
      clear Hinw
      have inx := Hinx.out
      clear Hinx
      have bxx := Hbxx.out
      clear Hbxx
      have iny := Hiny.out
      clear Hiny
      have bxy := Hbxy.out
      clear Hbxy
      have ing := Hing.out
      clear Hing
      have B_w15 := HB_.out
      clear HB_
      refine (markBal_sh0 (w5.heap.size) (w6.heap.size) _ m 1 w15 inx (by omega) (by omega) (by omega) hf).mono ?_
      rintro e w16 ⟨rfl, _, sp_w16⟩
      clear bxx
      replace bxa := sp_w16.box bxa (by omega)
      replace bxp := sp_w16.box bxp (by omega)
      replace inw := inw.step sp_w16 (by omega)
      replace iny := iny.step sp_w16 (by omega)
      replace bxy := sp_w16.box bxy (by omega)
      replace ing := ing.step sp_w16 (by omega)
      have B_w16 : Below w.heap.size w w16 := B_w15.trans (sp_w16.below (by omega) (by omega))
      have hs_w16 : w15.heap.size ≤ w16.heap.size := sp_w16.size
      clear sp_w16 B_w15
      clear inx
      have hnb := nBm_bd0 hf
      have hk1 : (0 : Int) ≤ 1 + nBm m ∧ 1 + nBm m ≤ 1073741824 := by omega
      generalize 1 + nBm m = kb at *
      clear hnb
      have bxyc0 : w16.cell? ⟨w8.heap.size, 0, none⟩ = some (.int .i64 q.a) := block_cellB bxy 0 _ rfl
      have bxyc1 : w16.cell? ⟨w8.heap.size, 1, none⟩ = some (.int .i64 q.b) := block_cellB bxy 1 _ rfl
      have bxyc2 : w16.cell? ⟨w8.heap.size, 2, none⟩ = some (.int .i64 q.f) := block_cellB bxy 2 _ rfl
      have bxyc3 : w16.cell? ⟨w8.heap.size, 3, none⟩ = some (.int .i64 q.s) := block_cellB bxy 3 _ rfl
      have bxyc4 : w16.cell? ⟨w8.heap.size, 4, none⟩ = some (.slice oy q.l.length cy) := block_cellB bxy 4 _ rfl
      have Hbxa := hide bxa
      clear bxa
      have Hbxp := hide bxp
      clear bxp
      have Hinw := hide inw
      clear inw
      have Hiny := hide iny
      clear iny
      have Hbxy := hide bxy
      clear bxy
      have Hing := hide ing
      clear ing
      have HB_ := hide B_w16
      clear B_w16
      go_wp2_with fail
      clear bxyc0 bxyc1 bxyc2 bxyc3 bxyc4
      have bxa := Hbxa.out
      clear Hbxa
      have bxp := Hbxp.out
      clear Hbxp
      have inw := Hinw.out
      clear Hinw
      have iny := Hiny.out
      clear Hiny
      have bxy := Hbxy.out
      clear Hbxy
      have ing := Hing.out
      clear Hing
      have B_w16 := HB_.out
      clear HB_
      refine (markPacket_sh (w7.heap.size) (w8.heap.size) _ q kb w16 iny hk1.1 hk1.2 hql).mono ?_
      rintro e w17 ⟨rfl, sp_w17⟩
      clear bxy
      replace bxa := sp_w17.box bxa (by omega)
      replace bxp := sp_w17.box bxp (by omega)
      replace inw := inw.step sp_w17 (by omega)
      replace ing := ing.step sp_w17 (by omega)
      have B_w17 : Below w.heap.size w w17 := B_w16.trans (sp_w17.below (by omega) (by omega))
      have hs_w17 : w16.heap.size ≤ w17.heap.size := sp_w17.size
      clear sp_w17 B_w16
      clear iny
      have hk2 : (0 : Int) ≤ kb + (q.l.length : Int) := by omega
      have hk3 : ¬ (kb + (q.l.length : Int) < 0) := by omega
      have Hbxa := hide bxa
      clear bxa
      have Hbxp := hide bxp
      clear bxp
      have Hinw := hide inw
      clear inw
      have Hing := hide ing
      clear ing
      have HB_ := hide B_w17
      clear B_w17
      go_wp2_with fail
      have bxa := Hbxa.out
      clear Hbxa
      have bxp := Hbxp.out
      clear Hbxp
      have inw := Hinw.out
      clear Hinw
      have ing := Hing.out
      clear Hing
      have B_w17 := HB_.out
      clear HB_
      refine (eqSegS_sh _ _ mr w17 ((InL.rd (L := layG) ing).le (by omega)) ((InL.rd (L := layG) inw).le (by omega)) hmr).mono ?_
      rintro e w18 ⟨rfl, hb_w18⟩
      replace bxa := (hb_w18.block _ (by omega)).trans bxa
      replace bxp := (hb_w18.block _ (by omega)).trans bxp
      replace inw := inw.step (Stp.of (lo := 0) (hi := 0) hb_w18) (.inl (Nat.zero_le _))
      replace ing := ing.step (Stp.of (lo := 0) (hi := 0) hb_w18) (.inl (Nat.zero_le _))
      have B_w18 : Below w.heap.size w w18 := B_w17.trans (hb_w18.mono B_w17.size)
      have hs_w18 : w17.heap.size ≤ w18.heap.size := hb_w18.size
      clear hb_w18 B_w17
      have Hbxa := hide bxa
      clear bxa
      have Hbxp := hide bxp
      clear bxp
      have Hinw := hide inw
      clear inw
      have Hing := hide ing
      clear ing
      have HB_ := hide B_w18
      clear B_w18
      go_wp2_with fail
      have bxa := Hbxa.out
      clear Hbxa
      have bxp := Hbxp.out
      clear Hbxp
      have inw := Hinw.out
      clear Hinw
      have ing := Hing.out
      clear Hing
      have B_w18 := HB_.out
      clear HB_
      refine (markSegS_sh (w9.heap.size) (w10.heap.size) _ mr 1 w18 ing (by omega) (by omega) hmr).mono ?_
      rintro e w19 ⟨rfl, ing', sp_w19⟩
      replace bxa := sp_w19.box bxa (by omega)
      replace bxp := sp_w19.box bxp (by omega)
      replace inw := inw.step sp_w19 (by omega)
      have B_w19 : Below w.heap.size w w19 := B_w18.trans (sp_w19.below (by omega) (by omega))
      have hs_w19 : w18.heap.size ≤ w19.heap.size := sp_w19.size
      clear sp_w19 B_w18
      clear ing
      have ing := ing'
      clear ing'
      have hk4 : (0 : Int) ≤ 1 + 2 * (mr.length : Int) ∧ 1 + 2 * (mr.length : Int) ≤ 10000000 := by omega
      have Hbxa := hide bxa
      clear bxa
      have Hbxp := hide bxp
      clear bxp
      have Hinw := hide inw
      clear inw
      have Hing := hide ing
      clear ing
      have HB_ := hide B_w19
      clear B_w19
      go_wp2_with fail
      have bxa := Hbxa.out
      clear Hbxa
      have bxp := Hbxp.out
      clear Hbxp
      have inw := Hinw.out
      clear Hinw
      have ing := Hing.out
      clear Hing
      have B_w19 := HB_.out
      clear HB_
      refine (heldSegS_sh _ mr.length 1 w19 ((InL.rd (L := layG) ing).le (by omega)) (by omega) (by omega) hmr).mono ?_
      rintro e w20 ⟨rfl, hb_w20⟩
      replace bxa := (hb_w20.block _ (by omega)).trans bxa
      replace bxp := (hb_w20.block _ (by omega)).trans bxp
      replace inw := inw.step (Stp.of (lo := 0) (hi := 0) hb_w20) (.inl (Nat.zero_le _))
      replace ing := ing.step (Stp.of (lo := 0) (hi := 0) hb_w20) (.inl (Nat.zero_le _))
      have B_w20 : Below w.heap.size w w20 := B_w19.trans (hb_w20.mono B_w19.size)
      have hs_w20 : w19.heap.size ≤ w20.heap.size := hb_w20.size
      clear hb_w20 B_w19
      have bxac0 : w20.cell? ⟨w.heap.size, 0, none⟩ = some (.int .i64 m.j.key) := block_cellB bxa 0 _ rfl
      have bxac1 : w20.cell? ⟨w.heap.size, 1, none⟩ = some (.slice oa m.j.l.length ca) := block_cellB bxa 1 _ rfl
      have bxac2 : w20.cell? ⟨w.heap.size, 2, none⟩ = some (.int .i64 m.j.safe) := block_cellB bxa 2 _ rfl
      have bxac3 : w20.cell? ⟨w.heap.size, 3, none⟩ = some (.int .i64 m.p.key) := block_cellB bxa 3 _ rfl
      have bxac4 : w20.cell? ⟨w.heap.size, 4, none⟩ = some (.slice oba m.p.l.length cba) := block_cellB bxa 4 _ rfl
      have bxac5 : w20.cell? ⟨w.heap.size, 5, none⟩ = some (.slice oRa m.p.ring.length cRa) := block_cellB bxa 5 _ rfl
      have bxac6 : w20.cell? ⟨w.heap.size, 6, none⟩ = some (.slice ota m.t.length cta) := block_cellB bxa 6 _ rfl
      have bxpc0 : w20.cell? ⟨w.heap.size + 1, 0, none⟩ = some (.int .i64 q.a) := block_cellB bxp 0 _ rfl
      have bxpc1 : w20.cell? ⟨w.heap.size + 1, 1, none⟩ = some (.int .i64 q.b) := block_cellB bxp 1 _ rfl
      have bxpc2 : w20.cell? ⟨w.heap.size + 1, 2, none⟩ = some (.int .i64 q.f) := block_cellB bxp 2 _ rfl
      have bxpc3 : w20.cell? ⟨w.heap.size + 1, 3, none⟩ = some (.int .i64 q.s) := block_cellB bxp 3 _ rfl
      have bxpc4 : w20.cell? ⟨w.heap.size + 1, 4, none⟩ = some (.slice op q.l.length cp) := block_cellB bxp 4 _ rfl
      have Hbxa := hide bxa
      clear bxa
      have Hbxp := hide bxp
      clear bxp
      have Hinw := hide inw
      clear inw
      have Hing := hide ing
      clear ing
      have HB_ := hide B_w20
      clear B_w20
      go_wp2
      have hk_bxa : w.heap.size < w20.heap.size := by omega
      have hk_bxp : w.heap.size + 1 < w20.heap.size := by omega
      go_region_held3 (fun w' => w'.cell? ⟨w.heap.size, 0, none⟩ = some (.int .i64 m.j.key) ∧ w'.cell? ⟨w.heap.size, 1, none⟩ = some (.slice oa m.j.l.length ca) ∧ w'.cell? ⟨w.heap.size, 2, none⟩ = some (.int .i64 m.j.safe) ∧ w'.cell? ⟨w.heap.size, 3, none⟩ = some (.int .i64 m.p.key) ∧ w'.cell? ⟨w.heap.size, 4, none⟩ = some (.slice oba m.p.l.length cba) ∧ w'.cell? ⟨w.heap.size, 5, none⟩ = some (.slice oRa m.p.ring.length cRa) ∧ w'.cell? ⟨w.heap.size, 6, none⟩ = some (.slice ota m.t.length cta) ∧ w'.cell? ⟨w.heap.size + 1, 0, none⟩ = some (.int .i64 q.a) ∧ w'.cell? ⟨w.heap.size + 1, 1, none⟩ = some (.int .i64 q.b) ∧ w'.cell? ⟨w.heap.size + 1, 2, none⟩ = some (.int .i64 q.f) ∧ w'.cell? ⟨w.heap.size + 1, 3, none⟩ = some (.int .i64 q.s) ∧ w'.cell? ⟨w.heap.size + 1, 4, none⟩ = some (.slice op q.l.length cp)) (first | exact ⟨k2_0, k2_1, k2_2, k2_3, k2_4, k2_5, k2_6, k2_7, k2_8, k2_9, k2_10, k2_11⟩ | exact ⟨k1_0, k1_1, k1_2, k1_3, k1_4, k1_5, k1_6, k1_7, k1_8, k1_9, k1_10, k1_11⟩ | exact ⟨k0_0, k0_1, k0_2, k0_3, k0_4, k0_5, k0_6, k0_7, k0_8, k0_9, k0_10, k0_11⟩ | exact ⟨bxac0, bxac1, bxac2, bxac3, bxac4, bxac5, bxac6, bxpc0, bxpc1, bxpc2, bxpc3, bxpc4⟩) (first | (go_at_call 13; refine (toBal_sh _ m w20.drew ((hR.kept (Below.drew HB_.out) (Nat.le_refl _)).le HB_.out.size) hf).mono ?_; rintro e w21 ⟨v2, rfl, in2, hb⟩; have hx0 : Below w20.heap.size w20 w21 := (Below.drew (Below.refl _ _)).trans hb; clear hb; have k0_0 := (hx0.cell (p := ⟨w.heap.size, 0, none⟩) hk_bxa).trans bxac0; have k0_1 := (hx0.cell (p := ⟨w.heap.size, 1, none⟩) hk_bxa).trans bxac1; have k0_2 := (hx0.cell (p := ⟨w.heap.size, 2, none⟩) hk_bxa).trans bxac2; have k0_3 := (hx0.cell (p := ⟨w.heap.size, 3, none⟩) hk_bxa).trans bxac3; have k0_4 := (hx0.cell (p := ⟨w.heap.size, 4, none⟩) hk_bxa).trans bxac4; have k0_5 := (hx0.cell (p := ⟨w.heap.size, 5, none⟩) hk_bxa).trans bxac5; have k0_6 := (hx0.cell (p := ⟨w.heap.size, 6, none⟩) hk_bxa).trans bxac6; have k0_7 := (hx0.cell (p := ⟨w.heap.size + 1, 0, none⟩) hk_bxp).trans bxpc0; have k0_8 := (hx0.cell (p := ⟨w.heap.size + 1, 1, none⟩) hk_bxp).trans bxpc1; have k0_9 := (hx0.cell (p := ⟨w.heap.size + 1, 2, none⟩) hk_bxp).trans bxpc2; have k0_10 := (hx0.cell (p := ⟨w.heap.size + 1, 3, none⟩) hk_bxp).trans bxpc3; have k0_11 := (hx0.cell (p := ⟨w.heap.size + 1, 4, none⟩) hk_bxp).trans bxpc4) | (go_at_call 23; refine (toPacket_sh _ q w21 ((hRp.kept (HB_.out.trans ((hx0).mono HB_.out.size)) (Nat.le_refl _)).le (Nat.le_trans HB_.out.size hx0.size)) hB8 hql).mono ?_; rintro e w22 ⟨v3, rfl, in3, hb⟩; have rd2 := in2.step (Stp.of (lo := 0) (hi := 0) hb) (.inl (Nat.zero_le _)); have sz2 := hb.size; have hx1 : Below w20.heap.size w20 w22 := hx0.trans (hb.mono hx0.size); clear hb; have k1_0 := (hx1.cell (p := ⟨w.heap.size, 0, none⟩) hk_bxa).trans bxac0; have k1_1 := (hx1.cell (p := ⟨w.heap.size, 1, none⟩) hk_bxa).trans bxac1; have k1_2 := (hx1.cell (p := ⟨w.heap.size, 2, none⟩) hk_bxa).trans bxac2; have k1_3 := (hx1.cell (p := ⟨w.heap.size, 3, none⟩) hk_bxa).trans bxac3; have k1_4 := (hx1.cell (p := ⟨w.heap.size, 4, none⟩) hk_bxa).trans bxac4; have k1_5 := (hx1.cell (p := ⟨w.heap.size, 5, none⟩) hk_bxa).trans bxac5; have k1_6 := (hx1.cell (p := ⟨w.heap.size, 6, none⟩) hk_bxa).trans bxac6; have k1_7 := (hx1.cell (p := ⟨w.heap.size + 1, 0, none⟩) hk_bxp).trans bxpc0; have k1_8 := (hx1.cell (p := ⟨w.heap.size + 1, 1, none⟩) hk_bxp).trans bxpc1; have k1_9 := (hx1.cell (p := ⟨w.heap.size + 1, 2, none⟩) hk_bxp).trans bxpc2; have k1_10 := (hx1.cell (p := ⟨w.heap.size + 1, 3, none⟩) hk_bxp).trans bxpc3; have k1_11 := (hx1.cell (p := ⟨w.heap.size + 1, 4, none⟩) hk_bxp).trans bxpc4) | (go_at_call 24; refine (HI.out _ _ _ w22 rd2 sz2 _ _ in3.rd).mono ?_; rintro e w23 ⟨vh, rfl, hwh, hb⟩; have szh := hb.size; have svh := hx1.size; have hx2 : Below w20.heap.size w20 w23 := hx1.trans (hb.mono hx1.size); clear hb; have k2_0 := (hx2.cell (p := ⟨w.heap.size, 0, none⟩) hk_bxa).trans bxac0; have k2_1 := (hx2.cell (p := ⟨w.heap.size, 1, none⟩) hk_bxa).trans bxac1; have k2_2 := (hx2.cell (p := ⟨w.heap.size, 2, none⟩) hk_bxa).trans bxac2; have k2_3 := (hx2.cell (p := ⟨w.heap.size, 3, none⟩) hk_bxa).trans bxac3; have k2_4 := (hx2.cell (p := ⟨w.heap.size, 4, none⟩) hk_bxa).trans bxac4; have k2_5 := (hx2.cell (p := ⟨w.heap.size, 5, none⟩) hk_bxa).trans bxac5; have k2_6 := (hx2.cell (p := ⟨w.heap.size, 6, none⟩) hk_bxa).trans bxac6; have k2_7 := (hx2.cell (p := ⟨w.heap.size + 1, 0, none⟩) hk_bxp).trans bxpc0; have k2_8 := (hx2.cell (p := ⟨w.heap.size + 1, 1, none⟩) hk_bxp).trans bxpc1; have k2_9 := (hx2.cell (p := ⟨w.heap.size + 1, 2, none⟩) hk_bxp).trans bxpc2; have k2_10 := (hx2.cell (p := ⟨w.heap.size + 1, 3, none⟩) hk_bxp).trans bxpc3; have k2_11 := (hx2.cell (p := ⟨w.heap.size + 1, 4, none⟩) hk_bxp).trans bxpc4))
      clear k0_0 k0_1 k0_2 k0_3 k0_4 k0_5 k0_6 k0_7 k0_8 k0_9 k0_10 k0_11
      clear k1_0 k1_1 k1_2 k1_3 k1_4 k1_5 k1_6 k1_7 k1_8 k1_9 k1_10 k1_11
      clear k2_0 k2_1 k2_2 k2_3 k2_4 k2_5 k2_6 k2_7 k2_8 k2_9 k2_10 k2_11
      clear hk_bxa hk_bxp hx0 hx1
      clear bxac0 bxac1 bxac2 bxac3 bxac4 bxac5 bxac6
      clear bxpc0 bxpc1 bxpc2 bxpc3 bxpc4
      have bxa := Hbxa.out
      clear Hbxa
      have bxp := Hbxp.out
      clear Hbxp
      have inw := Hinw.out
      clear Hinw
      have ing := Hing.out
      clear Hing
      have B_w20 := HB_.out
      clear HB_
      replace bxa := (hx2.block _ (by omega)).trans bxa
      replace bxp := (hx2.block _ (by omega)).trans bxp
      replace inw := inw.step (Stp.of (lo := 0) (hi := 0) hx2) (.inl (Nat.zero_le _))
      replace ing := ing.step (Stp.of (lo := 0) (hi := 0) hx2) (.inl (Nat.zero_le _))
      have B_w23 : Below w.heap.size w w23 := B_w20.trans (hx2.mono B_w20.size)
      have hs_w23 : w20.heap.size ≤ w23.heap.size := hx2.size
      clear hx2 B_w20
      have inh : InL layG 126 w22.heap.size w23.heap.size w23 vh mr := InRow.of hwh
      clear hwh rd2 sz2 in2 in3
      have Hbxa := hide bxa
      clear bxa
      have Hbxp := hide bxp
      clear bxp
      have Hinw := hide inw
      clear inw
      have Hing := hide ing
      clear ing
      have Hinh := hide inh
      clear inh
      have HB_ := hide B_w23
      clear B_w23
      go_wp2_with fail
      have bxa := Hbxa.out
      clear Hbxa
      have bxp := Hbxp.out
      clear Hbxp
      have inw := Hinw.out
      clear Hinw
      have ing := Hing.out
      clear Hing
      have inh := Hinh.out
      clear Hinh
      have B_w23 := HB_.out
      clear HB_
      refine (eqSegS_sh _ _ mr w23 ((InL.rd (L := layG) inh).le (by omega)) ((InL.rd (L := layG) inw).le (by omega)) hmr).mono ?_
      rintro e w24 ⟨rfl, hb_w24⟩
      replace bxa := (hb_w24.block _ (by omega)).trans bxa
      replace bxp := (hb_w24.block _ (by omega)).trans bxp
      replace inw := inw.step (Stp.of (lo := 0) (hi := 0) hb_w24) (.inl (Nat.zero_le _))
      replace ing := ing.step (Stp.of (lo := 0) (hi := 0) hb_w24) (.inl (Nat.zero_le _))
      replace inh := inh.step (Stp.of (lo := 0) (hi := 0) hb_w24) (.inl (Nat.zero_le _))
      have B_w24 : Below w.heap.size w w24 := B_w23.trans (hb_w24.mono B_w23.size)
      have hs_w24 : w23.heap.size ≤ w24.heap.size := hb_w24.size
      clear hb_w24 B_w23
      clear inh
      have Hbxa := hide bxa
      clear bxa
      have Hbxp := hide bxp
      clear bxp
      have Hinw := hide inw
      clear inw
      have Hing := hide ing
      clear ing
      have HB_ := hide B_w24
      clear B_w24
      go_wp2_with fail
      have bxa := Hbxa.out
      clear Hbxa
      have bxp := Hbxp.out
      clear Hbxp
      have inw := Hinw.out
      clear Hinw
      have ing := Hing.out
      clear Hing
      have B_w24 := HB_.out
      clear HB_
      refine (heldSegS_sh _ mr.length 1 w24 ((InL.rd (L := layG) ing).le (by omega)) (by omega) (by omega) hmr).mono ?_
      rintro e w25 ⟨rfl, hb_w25⟩
      replace bxa := (hb_w25.block _ (by omega)).trans bxa
      replace bxp := (hb_w25.block _ (by omega)).trans bxp
      replace inw := inw.step (Stp.of (lo := 0) (hi := 0) hb_w25) (.inl (Nat.zero_le _))
      replace ing := ing.step (Stp.of (lo := 0) (hi := 0) hb_w25) (.inl (Nat.zero_le _))
      have B_w25 : Below w.heap.size w w25 := B_w24.trans (hb_w25.mono B_w24.size)
      have hs_w25 : w24.heap.size ≤ w25.heap.size := hb_w25.size
      clear hb_w25 B_w24
      have Hbxa := hide bxa
      clear bxa
      have Hbxp := hide bxp
      clear bxp
      have Hinw := hide inw
      clear inw
      have Hing := hide ing
      clear ing
      have HB_ := hide B_w25
      clear B_w25
      go_wp2
      go_ret
      exact ⟨rfl, HB_.out⟩

theorem walkFnExactRouteOf (v : Value) (m : Bm) (a b f s : Int) (o : Option Addr) (cap : Nat) (l : List Int) (w : World) (hR : RdBm w.heap.size w v m) (hl : lenBm m) (hm : l.length ≤ maxLen) (hRp : Rd w o l) (hB8 : isB l) :
    Calls Tryz.prog 5 #[v, pkt a b f s (.slice o l.length cap)] w fun e w' => e = .returned (.bool true) ∧ Below w.heap.size w w' := lawFnExactRouteOf v m _ ⟨a, b, f, s, l⟩ w hR hl (RdPk.mk hRp) hm hB8

set_option maxRecDepth 100000 in
theorem fnExactRouteOf_lifted (os : Os) (started : os.Started) (H : Type) (enc : TypeId × Value → H) :
    ReturnsInHanded {} Tryz.checked os 5 .any (Rows.fnExactRouteOfSpec.pre6 enc Tryz.prog Tryz.f5 Rows.fnExactRouteOfRow.domain false) (Rows.fnExactRouteOfSpec.post enc Tryz.prog Tryz.f5 false true false false) := by
  refine returnsInHanded_of_change (C := Tryz.checked) own started (by kernel_rfl) Tryz.func5
    (ChangeSpec.witness6 (enc := enc) (C := Tryz.checked) false ⟨#[], #[.agg #[.int .i64 0, .slice none 0 0, .int .i64 0, .int .i64 0, .slice none 0 0, .slice none 0 0, .slice none 0 0], .agg #[.int .i64 0, .int .i64 0, .int .i64 0, .int .i64 0, .slice none 0 0]], []⟩ 8 (by kernel_rfl) (by kernel_rfl) (by kernel_rfl) (by kernel_rfl)) ?_
  intro W base args ds gs before hval0 hW hcnd _
  have hval : ∀ (j : Nat) t v, Tryz.f5.params[j]? = some t → args[j]? = some v → Value.okWide Tryz.prog W .any base t v := hval0
  have hW' := hW
  obtain ⟨p, q, hA0, hV, rfl, hfz, hnd⟩ := hW
  have hA : DataW.TrodAll enc Tryz.prog W 0 (fun _ => true) true Tryz.f5.params.toList args.toList ds p := hA0
  rw [Tryz.params5] at hA hval
  obtain ⟨v0, vs0, d0, ds0, p0, q0, hargs, rfl, rfl, h0, r0⟩ := trodAll_cons hA
  obtain ⟨v1, vs1, d1, ds1, p1, q1, rfl, rfl, rfl, h1, r1⟩ := trodAll_cons r0
  obtain ⟨rfl, rfl, rfl⟩ := trodAll_nil r1
  obtain rfl : args = #[v0, v1] := by cases args; simp_all
  obtain ⟨rfl, rfl⟩ := trodVars_none hV
  have k0 := h0
  have lt0 : ∀ x ∈ p0, x.block < W.heap.size := by obtain ⟨m, hm⟩ := k0; exact DataW.trod_lt m _ _ _ hm
  have k1 := h1
  have lt1 : ∀ x ∈ p1, x.block < W.heap.size := by obtain ⟨m, hm⟩ := k1; exact DataW.trod_lt m _ _ _ hm
  obtain ⟨m0, hR0, hl0⟩ := open_bal (hval 0 33 v0 rfl rfl) h0
  obtain ⟨a1, b1, f1, s1, o1, cap1, l1, rfl, hm1, hR1, hB81⟩ := open_packet (hval 1 62 v1 rfl rfl) h1
  clear hA0 hval0
  refine (walkFnExactRouteOf v0 m0 a1 b1 f1 s1 o1 cap1 l1 W hR0 hl0 hm1 hR1 hB81 ).mono fun e W' ⟨he, bel⟩ => ?_
  subst he
  exact ⟨_, rfl, _, _, _, [], _, [], hW', trodAll_mk1 (shut_bool Tryz.underlying4 _), (trodAll_cons_mk (Below.trod laidOut (by kernel_rfl) (of_decide_eq_true (by kernel_rfl)) k0 bel lt0) (trodAll_cons_mk (Below.trod laidOut (by kernel_rfl) (of_decide_eq_true (by kernel_rfl)) k1 bel lt1) trodAll_mk0)), rfl, bel.frame _, fun h => by cases h⟩

theorem fnExactRouteOf_over : Rows.fnExactRouteOfRow.holds Tryz.pinned (OpenSpec.ofChange Rows.fnExactRouteOfSpec) :=
  OpenClaim.holds_of_wide 5 Tryz.f5 rfl rfl rfl rfl rfl rfl rfl ⟨rfl, rfl, rfl, rfl, rfl⟩ rfl rfl rfl rfl rfl (by kernel_rfl) Tryz.func5 (by kernel_rfl)
    (of_decide_eq_true (by kernel_rfl)) (by unfold Func.isWrapper; first | (rw [if_pos (by decide +kernel)]; kernel_rfl) | (rw [if_neg (by decide +kernel)]; exact ⟨rfl, rfl⟩))
    (fun os started H enc _ => fnExactRouteOf_lifted os started H enc)

theorem fnExactRouteOf_holds : Rows.FnExactRouteOfSaid := fnExactRouteOf_over

end Go.Proofs.YtajfkcpifnpkeaaGreat

