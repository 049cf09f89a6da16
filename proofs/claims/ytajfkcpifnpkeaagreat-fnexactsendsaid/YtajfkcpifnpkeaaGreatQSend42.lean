/- For every balancer, number and packet the law FnExactSend answers true, and all read as they did: impl.Send answers as the model's, writes nothing into what it is handed, and its answer owns its memory. No conditions. -/
import Derived.Deep.RegionHeld3
import Derived.Deep.CutRange
import Derived.Test.YtajfkcpifnpkeaaGreatQSend41
import Derived.Test.YtajfkcpifnpkeaaGreatQSend39
namespace Go.Proofs.YtajfkcpifnpkeaaGreat
open Go.ChangeShapes Go.WideShapes Go.ChangeAt Go.RowKit Go.Joins
set_option linter.unusedVariables false
set_option linter.unusedSimpArgs false

theorem sendM_fit (m : Bm) (now : Int) (q : Pk) (hl : q.l.length ≤ 1048576) : (sendM m now q.a q.b q.f q.s q.l).l.length ≤ 1048576 ∧ (sendM m now q.a q.b q.f q.s q.l).g.length ≤ 1048576 := by
 unfold sendM
 split
 ·next h =>
  unfold sendB at h
  simp only [Bool.and_eq_true] at h
  have h6 := route_six h.1.1 h.1.2.2
  exact ⟨hl, by show (routeQ m.p.key m.p.ring m.t q.a q.b q.f).length ≤ _; omega⟩
 ·exact ⟨by simp [cm0], by simp [cm0]⟩
theorem specSend_in (lo hi : Nat) (v : Value) (m : Bm) (now : Int) (w : World) (h : InBm lo hi w v m) (hh : hi ≤ w.heap.size) (hf : fitB0 m) (plo phi : Nat) (vp : Value) (q : Pk) (hp : InPk plo phi w vp q) (hph : phi ≤ w.heap.size) (hl : q.l.length ≤ 1048576) :
  Calls Tryz.prog 30 #[v, .int .i64 now, vp] w fun e w' => ∃ v', e = .returned (.tuple #[v', .bool (sendB m now q.a q.b q.f q.s q.l.length)]) ∧ InCm w.heap.size w'.heap.size w' v' (sendM m now q.a q.b q.f q.s q.l) ∧ Below w.heap.size w w' := by
 obtain ⟨o, c, ob, cb, oR, cR, ot, ct, rfl, r1, r2, r3, r4⟩ := balIn_open h hh
 have hcp : ∃ vl, vp = pkt q.a q.b q.f q.s vl ∧ capV vl := by obtain ⟨vl, e, i⟩ := hp; exact ⟨vl, e, InRow.cap i⟩
 obtain ⟨vl, e1, po, pc, e2, r⟩ := hp.rd
 subst e1 e2
 obtain ⟨vl2, e3, hc⟩ := hcp
 simp only [Value.agg.injEq, Array.mk.injEq, List.cons.injEq, and_true, true_and] at e3
 subst e3
 exact specSend_any m.j.key o m.j.l.length c m.j.safe m.p.key ob m.p.l.length cb oR m.p.ring.length cR ot m.t.length ct m.j.l m.p.l m.p.ring m.t now q.a q.b q.f q.s po q.l.length pc q.l w rfl rfl r1 r2 r3 r4 hf rfl (RdB_rd.1 (r.le hph)) (fun e => hc _ _ (by rw [e])) hl
theorem implSend_in (lo hi : Nat) (v : Value) (m : Bm) (now : Int) (w : World) (h : InBm lo hi w v m) (hh : hi ≤ w.heap.size) (hf : fitB0 m) (plo phi : Nat) (vp : Value) (q : Pk) (hp : InPk plo phi w vp q) (hph : phi ≤ w.heap.size) (hl : q.l.length ≤ 1048576) :
  Calls Tryz.prog 31 #[v, .int .i64 now, vp] w fun e w' => ∃ v', e = .returned (.tuple #[v', .bool (sendB m now q.a q.b q.f q.s q.l.length)]) ∧ InCm w.heap.size w'.heap.size w' v' (sendM m now q.a q.b q.f q.s q.l) ∧ Below w.heap.size w w' := by
 obtain ⟨o, c, ob, cb, oR, cR, ot, ct, rfl, r1, r2, r3, r4⟩ := balIn_open h hh
 have hcp : ∃ vl, vp = pkt q.a q.b q.f q.s vl ∧ capV vl := by obtain ⟨vl, e, i⟩ := hp; exact ⟨vl, e, InRow.cap i⟩
 obtain ⟨vl, e1, po, pc, e2, r⟩ := hp.rd
 subst e1 e2
 obtain ⟨vl2, e3, hc⟩ := hcp
 simp only [Value.agg.injEq, Array.mk.injEq, List.cons.injEq, and_true, true_and] at e3
 subst e3
 exact implSend_any m.j.key o m.j.l.length c m.j.safe m.p.key ob m.p.l.length cb oR m.p.ring.length cR ot m.t.length ct m.j.l m.p.l m.p.ring m.t now q.a q.b q.f q.s po q.l.length pc q.l w rfl rfl r1 r2 r3 r4 hf rfl (RdB_rd.1 (r.le hph)) (fun e => hc _ _ (by rw [e])) hl

set_option maxRecDepth 100000 in
set_option maxHeartbeats 32000000 in
theorem lawFnExactSend (v : Value) (m : Bm) (now : Int) (vp : Value) (q : Pk) (w : World) (hR : RdBm w.heap.size w v m) (hl : lenBm m) (hRp : RdPk w.heap.size w vp q) (hlp : q.l.length ≤ maxLen) (hB8 : isB q.l) :
  Calls Tryz.prog 6 #[v, .int .i64 now, vp] w fun e w' => e = .returned (.bool true) ∧ Below w.heap.size w w' := by
 obtain ⟨oa, ca, oba, cba, oRa, cRa, ota, cta, eva⟩ := hR.opn
 subst eva
 obtain ⟨op, cp, evp⟩ := hRp.opn
 subst evp
 obtain ⟨w0, hw0⟩ : ∃ W, ((w.alloc (.cells #[.int .i64 m.j.key, .slice oa m.j.l.length ca, .int .i64 m.j.safe, .int .i64 m.p.key, .slice oba m.p.l.length cba, .slice oRa m.p.ring.length cRa, .slice ota m.t.length cta] 33)).alloc (.cells #[.int .i64 q.a, .int .i64 q.b, .int .i64 q.f, .int .i64 q.s, .slice op q.l.length cp] 62)) = W := ⟨_, rfl⟩
 have B_w0 : Below w.heap.size w w0 := by rw [← hw0]; exact (((Below.refl _ _).alloc (Nat.le_refl _) _).alloc (by simp) _)
 have hz_w0 : w.heap.size + 1 < w0.heap.size := by rw [← hw0]; simp
 have bxa : w0.heap[w.heap.size]? = some (.cells #[.int .i64 m.j.key, .slice oa m.j.l.length ca, .int .i64 m.j.safe, .int .i64 m.p.key, .slice oba m.p.l.length cba, .slice oRa m.p.ring.length cRa, .slice ota m.t.length cta] 33 (0, 0)) := by
  have h := World.alloc_heap_new w (.cells #[.int .i64 m.j.key, .slice oa m.j.l.length ca, .int .i64 m.j.safe, .int .i64 m.p.key, .slice oba m.p.l.length cba, .slice oRa m.p.ring.length cRa, .slice ota m.t.length cta] 33)
  (try rw [World.size_alloc] at h)
  (try rw [World.size_alloc] at h)
  rw [← hw0]
  refine (Below.heap_alloc _ _ _ (by simp)).trans ?_
  exact h
 have bxp : w0.heap[w.heap.size + 1]? = some (.cells #[.int .i64 q.a, .int .i64 q.b, .int .i64 q.f, .int .i64 q.s, .slice op q.l.length cp] 62 (0, 0)) := by
  have h := World.alloc_heap_new (w.alloc (.cells #[.int .i64 m.j.key, .slice oa m.j.l.length ca, .int .i64 m.j.safe, .int .i64 m.p.key, .slice oba m.p.l.length cba, .slice oRa m.p.ring.length cRa, .slice ota m.t.length cta] 33)) (.cells #[.int .i64 q.a, .int .i64 q.b, .int .i64 q.f, .int .i64 q.s, .slice op q.l.length cp] 62)
  (try rw [World.size_alloc] at h)
  (try rw [World.size_alloc] at h)
  rw [← hw0]
  exact h
 have HRp := hide hRp
 clear hRp
 have HR := hide hR
 clear hR
 obtain ⟨bxac0, bxac1, bxac2, bxac3, bxac4, bxac5, bxac6⟩ := cellsN7 bxa
 replace bxa := hide bxa
 replace bxp := hide bxp
 have HB_ := hide B_w0
 clear B_w0
 go_enter Tryz.func6, Tryz.ntmps6
 go_wp2_with fail
 clear bxac0 bxac1 bxac2 bxac3 bxac4 bxac5 bxac6
 replace bxa := bxa.out
 replace bxp := bxp.out
 have B_w0 := HB_.out
 clear HB_
 clear hw0
 have hR := HR.out
 clear HR
 have hRp := HRp.out
 clear HRp
 refine (szBal_sh _ m w0 ((hR.kept B_w0 (Nat.le_refl _)).le B_w0.size) hl).mono ?_
 rintro e w1 ⟨⟨zz, rfl, hz⟩, hb_w1⟩
 replace bxa := (hb_w1.block _ (by omega)).trans bxa
 replace bxp := (hb_w1.block _ (by omega)).trans bxp
 have B_w1 : Below w.heap.size w w1 := B_w0.trans (hb_w1.mono B_w0.size)
 have hs_w1 : w0.heap.size ≤ w1.heap.size := hb_w1.size
 clear hb_w1 B_w0
 rcases hz with ⟨hz1, hz2⟩ | ⟨hz1, hz2, hf⟩
 ·replace bxa := hide bxa
  replace bxp := hide bxp
  have HB_ := hide B_w1
  clear B_w1
  go_wp2
  go_ret
  exact ⟨rfl, HB_.out⟩
 ·have hz3 : zz ≤ 1048576 := by omega
  obtain ⟨bxpc0, bxpc1, bxpc2, bxpc3, bxpc4⟩ := cellsN5 bxp
  replace bxa := hide bxa
  replace bxp := hide bxp
  have HB_ := hide B_w1
  clear B_w1
  go_wp2_with fail
  clear bxpc0 bxpc1 bxpc2 bxpc3 bxpc4
  replace bxa := bxa.out
  replace bxp := bxp.out
  have B_w1 := HB_.out
  clear HB_
  refine (szPacket_any q.a q.b q.f q.s op q.l.length cp zz w1 hlp (by omega) hz3).mono ?_
  rintro e w2 ⟨rfl, hb_w2⟩
  replace bxa := (hb_w2.block _ (by omega)).trans bxa
  replace bxp := (hb_w2.block _ (by omega)).trans bxp
  have B_w2 : Below w.heap.size w w2 := B_w1.trans (hb_w2.mono B_w1.size)
  have hs_w2 : w1.heap.size ≤ w2.heap.size := hb_w2.size
  clear hb_w2 B_w1
  by_cases hlen : zz - (q.l.length : Int) < 0
  ·rw [if_pos hlen]
   replace bxa := hide bxa
   replace bxp := hide bxp
   have HB_ := hide B_w2
   clear B_w2
   go_wp2
   go_ret
   exact ⟨rfl, HB_.out⟩
  ·rw [if_neg hlen]
   have hql : q.l.length ≤ 1048576 := by omega
   have hzn : ¬ (zz - (q.l.length : Int) < 0) := hlen
   have HS := hide (fun lo hi v w h hh plo phi vp hp hph => specSend_in lo hi v m now w h hh hf plo phi vp q hp hph hql)
   have HI := hide (fun lo hi v w h hh plo phi vp hp hph => implSend_in lo hi v m now w h hh hf plo phi vp q hp hph hql)
   have hmr := sendM_fit m now q hql
   generalize sendM m now q.a q.b q.f q.s q.l = mr at *
   generalize sendB m now q.a q.b q.f q.s q.l.length = t at *
   clear hlen hz1 hz2 hz3
   obtain ⟨bxac0, bxac1, bxac2, bxac3, bxac4, bxac5, bxac6⟩ := cellsN7 bxa
   obtain ⟨bxpc0, bxpc1, bxpc2, bxpc3, bxpc4⟩ := cellsN5 bxp
   replace bxa := hide bxa
   replace bxp := hide bxp
   have HB_ := hide B_w2
   clear B_w2
   go_upto_region 8 with fail
   go_cut [8, 9] from 29 to 37 (fun s8 s9 wx => ∃ B lo hi ow cw ogw cgw, s8 = .pointer (some ⟨B, 0, none⟩) ∧ s9 = .bool t ∧ Hid (wx.heap[B]? = some (.cells #[.int .i64 mr.a, .int .i64 mr.b, .int .i64 mr.f, .int .i64 mr.s, .slice ow mr.l.length cw, .slice ogw mr.g.length cgw, .int .i64 mr.pl, .int .i64 mr.st] 76 (0, 0))) ∧ Hid (Below w2.heap.size w2 wx) ∧ w2.heap.size ≤ B ∧ B < wx.heap.size ∧ Hid (InCm lo hi wx (crr mr.a mr.b mr.f mr.s (.slice ow mr.l.length cw) (.slice ogw mr.g.length cgw) mr.pl mr.st) mr) ∧ w2.heap.size ≤ lo ∧ hi ≤ wx.heap.size ∧ (B < lo ∨ hi ≤ B))
   case first =>
    have hk_bxa : w.heap.size < w2.heap.size := by omega
    have hk_bxp : w.heap.size + 1 < w2.heap.size := by omega
    go_region_held3 (fun w' => w'.cell? ⟨w.heap.size, 0, none⟩ = some (.int .i64 m.j.key) ∧ w'.cell? ⟨w.heap.size, 1, none⟩ = some (.slice oa m.j.l.length ca) ∧ w'.cell? ⟨w.heap.size, 2, none⟩ = some (.int .i64 m.j.safe) ∧ w'.cell? ⟨w.heap.size, 3, none⟩ = some (.int .i64 m.p.key) ∧ w'.cell? ⟨w.heap.size, 4, none⟩ = some (.slice oba m.p.l.length cba) ∧ w'.cell? ⟨w.heap.size, 5, none⟩ = some (.slice oRa m.p.ring.length cRa) ∧ w'.cell? ⟨w.heap.size, 6, none⟩ = some (.slice ota m.t.length cta) ∧ w'.cell? ⟨w.heap.size + 1, 0, none⟩ = some (.int .i64 q.a) ∧ w'.cell? ⟨w.heap.size + 1, 1, none⟩ = some (.int .i64 q.b) ∧ w'.cell? ⟨w.heap.size + 1, 2, none⟩ = some (.int .i64 q.f) ∧ w'.cell? ⟨w.heap.size + 1, 3, none⟩ = some (.int .i64 q.s) ∧ w'.cell? ⟨w.heap.size + 1, 4, none⟩ = some (.slice op q.l.length cp)) (first | with_reducible exact ⟨k2_0, k2_1, k2_2, k2_3, k2_4, k2_5, k2_6, k2_7, k2_8, k2_9, k2_10, k2_11⟩ | with_reducible exact ⟨k1_0, k1_1, k1_2, k1_3, k1_4, k1_5, k1_6, k1_7, k1_8, k1_9, k1_10, k1_11⟩ | with_reducible exact ⟨k0_0, k0_1, k0_2, k0_3, k0_4, k0_5, k0_6, k0_7, k0_8, k0_9, k0_10, k0_11⟩ | with_reducible exact ⟨bxac0, bxac1, bxac2, bxac3, bxac4, bxac5, bxac6, bxpc0, bxpc1, bxpc2, bxpc3, bxpc4⟩ | with_reducible exact ⟨set8_cell k2_0 (show w.heap.size < w2.heap.size by omega) _ _ _ _ _ _ _ _, set8_cell k2_1 (show w.heap.size < w2.heap.size by omega) _ _ _ _ _ _ _ _, set8_cell k2_2 (show w.heap.size < w2.heap.size by omega) _ _ _ _ _ _ _ _, set8_cell k2_3 (show w.heap.size < w2.heap.size by omega) _ _ _ _ _ _ _ _, set8_cell k2_4 (show w.heap.size < w2.heap.size by omega) _ _ _ _ _ _ _ _, set8_cell k2_5 (show w.heap.size < w2.heap.size by omega) _ _ _ _ _ _ _ _, set8_cell k2_6 (show w.heap.size < w2.heap.size by omega) _ _ _ _ _ _ _ _, set8_cell k2_7 (show w.heap.size + 1 < w2.heap.size by omega) _ _ _ _ _ _ _ _, set8_cell k2_8 (show w.heap.size + 1 < w2.heap.size by omega) _ _ _ _ _ _ _ _, set8_cell k2_9 (show w.heap.size + 1 < w2.heap.size by omega) _ _ _ _ _ _ _ _, set8_cell k2_10 (show w.heap.size + 1 < w2.heap.size by omega) _ _ _ _ _ _ _ _, set8_cell k2_11 (show w.heap.size + 1 < w2.heap.size by omega) _ _ _ _ _ _ _ _⟩ | with_reducible exact ⟨set8_cell k2_0 (show w.heap.size < x0.heap.size by omega) _ _ _ _ _ _ _ _, set8_cell k2_1 (show w.heap.size < x0.heap.size by omega) _ _ _ _ _ _ _ _, set8_cell k2_2 (show w.heap.size < x0.heap.size by omega) _ _ _ _ _ _ _ _, set8_cell k2_3 (show w.heap.size < x0.heap.size by omega) _ _ _ _ _ _ _ _, set8_cell k2_4 (show w.heap.size < x0.heap.size by omega) _ _ _ _ _ _ _ _, set8_cell k2_5 (show w.heap.size < x0.heap.size by omega) _ _ _ _ _ _ _ _, set8_cell k2_6 (show w.heap.size < x0.heap.size by omega) _ _ _ _ _ _ _ _, set8_cell k2_7 (show w.heap.size + 1 < x0.heap.size by omega) _ _ _ _ _ _ _ _, set8_cell k2_8 (show w.heap.size + 1 < x0.heap.size by omega) _ _ _ _ _ _ _ _, set8_cell k2_9 (show w.heap.size + 1 < x0.heap.size by omega) _ _ _ _ _ _ _ _, set8_cell k2_10 (show w.heap.size + 1 < x0.heap.size by omega) _ _ _ _ _ _ _ _, set8_cell k2_11 (show w.heap.size + 1 < x0.heap.size by omega) _ _ _ _ _ _ _ _⟩ | with_reducible exact ⟨set8_cell k2_0 (show w.heap.size < x1.heap.size by omega) _ _ _ _ _ _ _ _, set8_cell k2_1 (show w.heap.size < x1.heap.size by omega) _ _ _ _ _ _ _ _, set8_cell k2_2 (show w.heap.size < x1.heap.size by omega) _ _ _ _ _ _ _ _, set8_cell k2_3 (show w.heap.size < x1.heap.size by omega) _ _ _ _ _ _ _ _, set8_cell k2_4 (show w.heap.size < x1.heap.size by omega) _ _ _ _ _ _ _ _, set8_cell k2_5 (show w.heap.size < x1.heap.size by omega) _ _ _ _ _ _ _ _, set8_cell k2_6 (show w.heap.size < x1.heap.size by omega) _ _ _ _ _ _ _ _, set8_cell k2_7 (show w.heap.size + 1 < x1.heap.size by omega) _ _ _ _ _ _ _ _, set8_cell k2_8 (show w.heap.size + 1 < x1.heap.size by omega) _ _ _ _ _ _ _ _, set8_cell k2_9 (show w.heap.size + 1 < x1.heap.size by omega) _ _ _ _ _ _ _ _, set8_cell k2_10 (show w.heap.size + 1 < x1.heap.size by omega) _ _ _ _ _ _ _ _, set8_cell k2_11 (show w.heap.size + 1 < x1.heap.size by omega) _ _ _ _ _ _ _ _⟩ | go_keep) (first | (go_at_call 13; have hc_ := toBal_sh _ m w2.drew ((hR.kept (Below.drew HB_.out) (Nat.le_refl _)).le HB_.out.size) hf; with_reducible refine hc_.mono ?_; clear hc_; rintro e x0 ⟨v2, rfl, in2, hb⟩; have hp0 : Below w2.heap.size w2 x0 := Below.trans (show Below w2.heap.size w2 w2.drew from (Below.drew (Below.refl _ _))) (hb.mono (by simp)); have sp0 : w2.heap.size ≤ x0.heap.size := hp0.size; have hx0 : Below w2.heap.size w2 x0 := hp0; have k0_0 := bC hx0 bxac0 hk_bxa; have k0_1 := bC hx0 bxac1 hk_bxa; have k0_2 := bC hx0 bxac2 hk_bxa; have k0_3 := bC hx0 bxac3 hk_bxa; have k0_4 := bC hx0 bxac4 hk_bxa; have k0_5 := bC hx0 bxac5 hk_bxa; have k0_6 := bC hx0 bxac6 hk_bxa; have k0_7 := bC hx0 bxpc0 hk_bxp; have k0_8 := bC hx0 bxpc1 hk_bxp; have k0_9 := bC hx0 bxpc2 hk_bxp; have k0_10 := bC hx0 bxpc3 hk_bxp; have k0_11 := bC hx0 bxpc4 hk_bxp; (try have hzl0_0 := (Array.getElem?_eq_some_iff.1 hZ0_0).1); clear hb) | (go_at_call 13; have hc_ := toBal_sh _ m (w2.alloc (.cells #[.int .i64 0, .int .i64 0, .int .i64 0, .int .i64 0, .slice none 0 0, .slice none 0 0, .int .i64 0, .int .i64 0] 76)).drew ((hR.kept (Below.drew (HB_.out.alloc HB_.out.size _)) (Nat.le_refl _)).le (Nat.le_trans HB_.out.size (by simp))) hf; with_reducible refine hc_.mono ?_; clear hc_; rintro e x0 ⟨v2, rfl, in2, hb⟩; have hp0 : Below w2.heap.size w2 x0 := Below.trans (show Below w2.heap.size w2 (w2.alloc (.cells #[.int .i64 0, .int .i64 0, .int .i64 0, .int .i64 0, .slice none 0 0, .slice none 0 0, .int .i64 0, .int .i64 0] 76)).drew from (Below.drew ((Below.refl _ _).alloc (Nat.le_refl _) _))) (hb.mono (by simp)); have sp0 : w2.heap.size ≤ x0.heap.size := hp0.size; have hx0 : Below w2.heap.size w2 x0 := hp0; have k0_0 := bC hx0 bxac0 hk_bxa; have k0_1 := bC hx0 bxac1 hk_bxa; have k0_2 := bC hx0 bxac2 hk_bxa; have k0_3 := bC hx0 bxac3 hk_bxa; have k0_4 := bC hx0 bxac4 hk_bxa; have k0_5 := bC hx0 bxac5 hk_bxa; have k0_6 := bC hx0 bxac6 hk_bxa; have k0_7 := bC hx0 bxpc0 hk_bxp; have k0_8 := bC hx0 bxpc1 hk_bxp; have k0_9 := bC hx0 bxpc2 hk_bxp; have k0_10 := bC hx0 bxpc3 hk_bxp; have k0_11 := bC hx0 bxpc4 hk_bxp; have hZ0_0 : x0.heap[w2.heap.size]? = some (.cells #[.int .i64 0, .int .i64 0, .int .i64 0, .int .i64 0, .slice none 0 0, .slice none 0 0, .int .i64 0, .int .i64 0] 76 (0, 0)) := (box_newC0 hb); (try have hzl0_0 := (Array.getElem?_eq_some_iff.1 hZ0_0).1); clear hb) | (go_at_call 23; have hc_ := toPacket_sh _ q x0 ((hRp.kept (HB_.out.trans (hx0.mono HB_.out.size)) (Nat.le_refl _)).le (HB_.out.trans (hx0.mono HB_.out.size)).size) hB8 hql; with_reducible refine hc_.mono ?_; clear hc_; rintro e x1 ⟨v3, rfl, in3, hb⟩; have hp1 : Below x0.heap.size x0 x1 := hb; have sp1 : x0.heap.size ≤ x1.heap.size := hp1.size; have hx1 : Below w2.heap.size w2 x1 := hx0.trans (hp1.mono hx0.size); have k1_0 := bC hx1 bxac0 hk_bxa; have k1_1 := bC hx1 bxac1 hk_bxa; have k1_2 := bC hx1 bxac2 hk_bxa; have k1_3 := bC hx1 bxac3 hk_bxa; have k1_4 := bC hx1 bxac4 hk_bxa; have k1_5 := bC hx1 bxac5 hk_bxa; have k1_6 := bC hx1 bxac6 hk_bxa; have k1_7 := bC hx1 bxpc0 hk_bxp; have k1_8 := bC hx1 bxpc1 hk_bxp; have k1_9 := bC hx1 bxpc2 hk_bxp; have k1_10 := bC hx1 bxpc3 hk_bxp; have k1_11 := bC hx1 bxpc4 hk_bxp; (try have hZ1_0 := (hp1.block _ (Array.getElem?_eq_some_iff.1 hZ0_0).1).trans hZ0_0); (try have hzl1_0 := (Array.getElem?_eq_some_iff.1 hZ1_0).1); (try have hzl1_1 := (Array.getElem?_eq_some_iff.1 hZ1_1).1); have rdb := in2.step (Stp.of (lo := 0) (hi := 0) hp1) (.inl (Nat.zero_le _)); clear hb) | (go_at_call 23; have hc_ := toPacket_sh _ q (x0.alloc (.cells #[.int .i64 0, .int .i64 0, .int .i64 0, .int .i64 0, .slice none 0 0, .slice none 0 0, .int .i64 0, .int .i64 0] 76)) ((hRp.kept ((HB_.out.trans (hx0.mono HB_.out.size)).alloc (HB_.out.trans (hx0.mono HB_.out.size)).size _) (Nat.le_refl _)).le (Nat.le_trans (HB_.out.trans (hx0.mono HB_.out.size)).size (by simp))) hB8 hql; with_reducible refine hc_.mono ?_; clear hc_; rintro e x1 ⟨v3, rfl, in3, hb⟩; have hp1 : Below x0.heap.size x0 x1 := Below.trans (show Below x0.heap.size x0 (x0.alloc (.cells #[.int .i64 0, .int .i64 0, .int .i64 0, .int .i64 0, .slice none 0 0, .slice none 0 0, .int .i64 0, .int .i64 0] 76)) from ((Below.refl _ _).alloc (Nat.le_refl _) _)) (hb.mono (by simp)); have sp1 : x0.heap.size ≤ x1.heap.size := hp1.size; have hx1 : Below w2.heap.size w2 x1 := hx0.trans (hp1.mono hx0.size); have k1_0 := bC hx1 bxac0 hk_bxa; have k1_1 := bC hx1 bxac1 hk_bxa; have k1_2 := bC hx1 bxac2 hk_bxa; have k1_3 := bC hx1 bxac3 hk_bxa; have k1_4 := bC hx1 bxac4 hk_bxa; have k1_5 := bC hx1 bxac5 hk_bxa; have k1_6 := bC hx1 bxac6 hk_bxa; have k1_7 := bC hx1 bxpc0 hk_bxp; have k1_8 := bC hx1 bxpc1 hk_bxp; have k1_9 := bC hx1 bxpc2 hk_bxp; have k1_10 := bC hx1 bxpc3 hk_bxp; have k1_11 := bC hx1 bxpc4 hk_bxp; (try have hZ1_0 := (hp1.block _ (Array.getElem?_eq_some_iff.1 hZ0_0).1).trans hZ0_0); have hZ1_1 : x1.heap[x0.heap.size]? = some (.cells #[.int .i64 0, .int .i64 0, .int .i64 0, .int .i64 0, .slice none 0 0, .slice none 0 0, .int .i64 0, .int .i64 0] 76 (0, 0)) := (box_newC hb); (try have hzl1_0 := (Array.getElem?_eq_some_iff.1 hZ1_0).1); (try have hzl1_1 := (Array.getElem?_eq_some_iff.1 hZ1_1).1); have rdb := in2.step (Stp.of (lo := 0) (hi := 0) hp1) (.inl (Nat.zero_le _)); clear hb) | (go_at_call 30; have hc_ := HS.out _ _ _ x1 rdb (by omega) _ _ _ in3 (Nat.le_refl _); with_reducible refine hc_.mono ?_; clear hc_; rintro e x2 ⟨vw, rfl, inw, hb⟩; have hp2 : Below x1.heap.size x1 x2 := hb; have sp2 : x1.heap.size ≤ x2.heap.size := hp2.size; have hx2 : Below w2.heap.size w2 x2 := hx1.trans (hp2.mono hx1.size); have k2_0 := bC hx2 bxac0 hk_bxa; have k2_1 := bC hx2 bxac1 hk_bxa; have k2_2 := bC hx2 bxac2 hk_bxa; have k2_3 := bC hx2 bxac3 hk_bxa; have k2_4 := bC hx2 bxac4 hk_bxa; have k2_5 := bC hx2 bxac5 hk_bxa; have k2_6 := bC hx2 bxac6 hk_bxa; have k2_7 := bC hx2 bxpc0 hk_bxp; have k2_8 := bC hx2 bxpc1 hk_bxp; have k2_9 := bC hx2 bxpc2 hk_bxp; have k2_10 := bC hx2 bxpc3 hk_bxp; have k2_11 := bC hx2 bxpc4 hk_bxp; (try have hZ2_0 := (hp2.block _ (Array.getElem?_eq_some_iff.1 hZ1_0).1).trans hZ1_0); (try have hZ2_1 := (hp2.block _ (Array.getElem?_eq_some_iff.1 hZ1_1).1).trans hZ1_1); (try have hzl2_0 := (Array.getElem?_eq_some_iff.1 hZ2_0).1); (try have hzl2_1 := (Array.getElem?_eq_some_iff.1 hZ2_1).1); (try have hzl2_2 := (Array.getElem?_eq_some_iff.1 hZ2_2).1); obtain ⟨ow, cw, ogw, cgw, hve⟩ := inw.opn; subst hve; (try (have hq9 := cells8 hZ2_0; obtain ⟨hzc0_0, hzc0_1, hzc0_2, hzc0_3, hzc0_4, hzc0_5, hzc0_6, hzc0_7, hzf0_0, hzf0_1, hzf0_2, hzf0_3, hzf0_4, hzf0_5, hzf0_6, hzf0_7⟩ := hq9)); (try (have hq9 := cells8 hZ2_1; obtain ⟨hzc1_0, hzc1_1, hzc1_2, hzc1_3, hzc1_4, hzc1_5, hzc1_6, hzc1_7, hzf1_0, hzf1_1, hzf1_2, hzf1_3, hzf1_4, hzf1_5, hzf1_6, hzf1_7⟩ := hq9)); (try (have hq9 := cells8 hZ2_2; obtain ⟨hzc2_0, hzc2_1, hzc2_2, hzc2_3, hzc2_4, hzc2_5, hzc2_6, hzc2_7, hzf2_0, hzf2_1, hzf2_2, hzf2_3, hzf2_4, hzf2_5, hzf2_6, hzf2_7⟩ := hq9)); clear hb) | (go_at_call 30; have hc_ := HS.out _ _ _ (x1.alloc (.cells #[.int .i64 0, .int .i64 0, .int .i64 0, .int .i64 0, .slice none 0 0, .slice none 0 0, .int .i64 0, .int .i64 0] 76)) (rdb.step (Stp.of (lo := 0) (hi := 0) ((Below.refl _ _).alloc (Nat.le_refl _) _)) (.inl (Nat.zero_le _))) (by simp; omega) _ _ _ (in3.step (Stp.of (lo := 0) (hi := 0) ((Below.refl _ _).alloc (Nat.le_refl _) _)) (.inl (Nat.zero_le _))) (by simp); with_reducible refine hc_.mono ?_; clear hc_; rintro e x2 ⟨vw, rfl, inw, hb⟩; have hp2 : Below x1.heap.size x1 x2 := Below.trans (show Below x1.heap.size x1 (x1.alloc (.cells #[.int .i64 0, .int .i64 0, .int .i64 0, .int .i64 0, .slice none 0 0, .slice none 0 0, .int .i64 0, .int .i64 0] 76)) from ((Below.refl _ _).alloc (Nat.le_refl _) _)) (hb.mono (by simp)); have sp2 : x1.heap.size ≤ x2.heap.size := hp2.size; have hx2 : Below w2.heap.size w2 x2 := hx1.trans (hp2.mono hx1.size); have k2_0 := bC hx2 bxac0 hk_bxa; have k2_1 := bC hx2 bxac1 hk_bxa; have k2_2 := bC hx2 bxac2 hk_bxa; have k2_3 := bC hx2 bxac3 hk_bxa; have k2_4 := bC hx2 bxac4 hk_bxa; have k2_5 := bC hx2 bxac5 hk_bxa; have k2_6 := bC hx2 bxac6 hk_bxa; have k2_7 := bC hx2 bxpc0 hk_bxp; have k2_8 := bC hx2 bxpc1 hk_bxp; have k2_9 := bC hx2 bxpc2 hk_bxp; have k2_10 := bC hx2 bxpc3 hk_bxp; have k2_11 := bC hx2 bxpc4 hk_bxp; (try have hZ2_0 := (hp2.block _ (Array.getElem?_eq_some_iff.1 hZ1_0).1).trans hZ1_0); (try have hZ2_1 := (hp2.block _ (Array.getElem?_eq_some_iff.1 hZ1_1).1).trans hZ1_1); have hZ2_2 : x2.heap[x1.heap.size]? = some (.cells #[.int .i64 0, .int .i64 0, .int .i64 0, .int .i64 0, .slice none 0 0, .slice none 0 0, .int .i64 0, .int .i64 0] 76 (0, 0)) := (box_newC hb); (try have hzl2_0 := (Array.getElem?_eq_some_iff.1 hZ2_0).1); (try have hzl2_1 := (Array.getElem?_eq_some_iff.1 hZ2_1).1); (try have hzl2_2 := (Array.getElem?_eq_some_iff.1 hZ2_2).1); obtain ⟨ow, cw, ogw, cgw, hve⟩ := inw.opn; subst hve; (try (have hq9 := cells8 hZ2_0; obtain ⟨hzc0_0, hzc0_1, hzc0_2, hzc0_3, hzc0_4, hzc0_5, hzc0_6, hzc0_7, hzf0_0, hzf0_1, hzf0_2, hzf0_3, hzf0_4, hzf0_5, hzf0_6, hzf0_7⟩ := hq9)); (try (have hq9 := cells8 hZ2_1; obtain ⟨hzc1_0, hzc1_1, hzc1_2, hzc1_3, hzc1_4, hzc1_5, hzc1_6, hzc1_7, hzf1_0, hzf1_1, hzf1_2, hzf1_3, hzf1_4, hzf1_5, hzf1_6, hzf1_7⟩ := hq9)); (try (have hq9 := cells8 hZ2_2; obtain ⟨hzc2_0, hzc2_1, hzc2_2, hzc2_3, hzc2_4, hzc2_5, hzc2_6, hzc2_7, hzf2_0, hzf2_1, hzf2_2, hzf2_3, hzf2_4, hzf2_5, hzf2_6, hzf2_7⟩ := hq9)); clear hb))
    all_goals (go_wp2_with fail; go_meet)
    all_goals first
     | with_reducible exact finCar hZ2_0 hx2 (by omega) inw (by (try simp) <;> omega) (Nat.le_refl _) (by (try simp) <;> omega)
     | with_reducible exact finCar hZ2_1 hx2 (by omega) inw (by (try simp) <;> omega) (Nat.le_refl _) (by (try simp) <;> omega)
     | with_reducible exact finCar hZ2_2 hx2 (by omega) inw (by (try simp) <;> omega) (Nat.le_refl _) (by (try simp) <;> omega)
     | with_reducible exact finCarn hx2 inw (by (try simp) <;> omega) (Nat.le_refl _)
   case rest =>
   obtain ⟨Bw, low, hiw, ow, cw, ogw, cgw, rfl, rfl, Hbx_, Hbl_, hB1_w, hB2_w, Hin_, hl1_w, hl2_w, hl3_w⟩ := hcut
   have bxw := Hbx_.out
   have hbl_ := Hbl_.out
   clear Hbx_ Hbl_
   have inw := Hin_.out
   clear Hin_
   clear bxac0 bxac1 bxac2 bxac3 bxac4 bxac5 bxac6
   clear bxpc0 bxpc1 bxpc2 bxpc3 bxpc4
   replace bxa := bxa.out
   replace bxp := bxp.out
   have B_w2 := HB_.out
   clear HB_
   obtain ⟨w3, hwc⟩ : ∃ W, W = wc := ⟨_, rfl⟩
   subst hwc
   replace bxa := (hbl_.block _ (by omega)).trans bxa
   replace bxp := (hbl_.block _ (by omega)).trans bxp
   have B_w3 : Below w.heap.size w w3 := B_w2.trans (hbl_.mono B_w2.size)
   have hs_w3 : w2.heap.size ≤ w3.heap.size := hbl_.size
   clear hbl_ B_w2
   obtain ⟨bxac0, bxac1, bxac2, bxac3, bxac4, bxac5, bxac6⟩ := cellsN7 bxa
   replace bxa := hide bxa
   replace bxp := hide bxp
   replace bxw := hide bxw
   replace inw := hide inw
   have HB_ := hide B_w3
   clear B_w3
   go_wp2_with fail
   clear bxac0 bxac1 bxac2 bxac3 bxac4 bxac5 bxac6
   replace bxa := bxa.out
   replace bxp := bxp.out
   replace bxw := bxw.out
   replace inw := inw.out
   have B_w3 := HB_.out
   clear HB_
   refine (toBal_sh _ m w3 ((hR.kept B_w3 (Nat.le_refl _)).le B_w3.size) hf).mono ?_
   rintro e w4 ⟨vx, rfl, inx, hb_w4⟩
   replace bxa := (hb_w4.block _ (by omega)).trans bxa
   replace bxp := (hb_w4.block _ (by omega)).trans bxp
   replace bxw := (hb_w4.block _ (by omega)).trans bxw
   replace inw := inw.step (Stp.of (lo := 0) (hi := 0) hb_w4) (.inl (Nat.zero_le _))
   have B_w4 : Below w.heap.size w w4 := B_w3.trans (hb_w4.mono B_w3.size)
   have hs_w4 : w3.heap.size ≤ w4.heap.size := hb_w4.size
   clear hb_w4 B_w3
   obtain ⟨ox, cx, obx, cbx, oRx, cRx, otx, ctx, evx⟩ := inx.rd.opn
   subst evx
   obtain ⟨w5, hW_w5⟩ : ∃ W, w4.alloc (.cells #[.int .i64 m.j.key, .slice ox m.j.l.length cx, .int .i64 m.j.safe, .int .i64 m.p.key, .slice obx m.p.l.length cbx, .slice oRx m.p.ring.length cRx, .slice otx m.t.length ctx] 46) = W := ⟨_, rfl⟩
   have bxx : w5.heap[w4.heap.size]? = some (.cells #[.int .i64 m.j.key, .slice ox m.j.l.length cx, .int .i64 m.j.safe, .int .i64 m.p.key, .slice obx m.p.l.length cbx, .slice oRx m.p.ring.length cRx, .slice otx m.t.length ctx] 46 (0, 0)) := by rw [← hW_w5]; exact World.alloc_heap_new w4 _
   have hb_w5 : Below w4.heap.size w4 w5 := by rw [← hW_w5]; exact (Below.refl _ _).alloc (Nat.le_refl _) _
   have hz_w5 : w4.heap.size < w5.heap.size := by rw [← hW_w5]; simp
   replace bxa := (hb_w5.block _ (by omega)).trans bxa
   replace bxp := (hb_w5.block _ (by omega)).trans bxp
   replace bxw := (hb_w5.block _ (by omega)).trans bxw
   replace inw := inw.step (Stp.of (lo := 0) (hi := 0) hb_w5) (.inl (Nat.zero_le _))
   replace inx := inx.step (Stp.of (lo := 0) (hi := 0) hb_w5) (.inl (Nat.zero_le _))
   have B_w5 : Below w.heap.size w w5 := B_w4.trans (hb_w5.mono B_w4.size)
   have hs_w5 : w4.heap.size ≤ w5.heap.size := hb_w5.size
   clear hb_w5 B_w4
   obtain ⟨bxpc0, bxpc1, bxpc2, bxpc3, bxpc4⟩ := cellsN5 bxp
   replace bxa := hide bxa
   replace bxp := hide bxp
   replace bxw := hide bxw
   replace inw := hide inw
   replace inx := hide inx
   replace bxx := hide bxx
   have HB_ := hide B_w5
   clear B_w5
   go_wp2_with fail
   clear bxpc0 bxpc1 bxpc2 bxpc3 bxpc4
   replace bxa := bxa.out
   replace bxp := bxp.out
   replace bxw := bxw.out
   replace inw := inw.out
   replace inx := inx.out
   replace bxx := bxx.out
   have B_w5 := HB_.out
   clear HB_
   refine (toPacket_sh _ q w5 ((hRp.kept B_w5 (Nat.le_refl _)).le B_w5.size) hB8 hql).mono ?_
   rintro e w6 ⟨vy, rfl, iny, hb_w6⟩
   replace bxa := (hb_w6.block _ (by omega)).trans bxa
   replace bxp := (hb_w6.block _ (by omega)).trans bxp
   replace bxw := (hb_w6.block _ (by omega)).trans bxw
   replace inw := inw.step (Stp.of (lo := 0) (hi := 0) hb_w6) (.inl (Nat.zero_le _))
   replace inx := inx.step (Stp.of (lo := 0) (hi := 0) hb_w6) (.inl (Nat.zero_le _))
   replace bxx := (hb_w6.block _ (by omega)).trans bxx
   have B_w6 : Below w.heap.size w w6 := B_w5.trans (hb_w6.mono B_w5.size)
   have hs_w6 : w5.heap.size ≤ w6.heap.size := hb_w6.size
   clear hb_w6 B_w5
   obtain ⟨oy, cy, evy⟩ := iny.rd.opn
   subst evy
   obtain ⟨w7, hW_w7⟩ : ∃ W, w6.alloc (.cells #[.int .i64 q.a, .int .i64 q.b, .int .i64 q.f, .int .i64 q.s, .slice oy q.l.length cy] 68) = W := ⟨_, rfl⟩
   have bxy : w7.heap[w6.heap.size]? = some (.cells #[.int .i64 q.a, .int .i64 q.b, .int .i64 q.f, .int .i64 q.s, .slice oy q.l.length cy] 68 (0, 0)) := by rw [← hW_w7]; exact World.alloc_heap_new w6 _
   have hb_w7 : Below w6.heap.size w6 w7 := by rw [← hW_w7]; exact (Below.refl _ _).alloc (Nat.le_refl _) _
   have hz_w7 : w6.heap.size < w7.heap.size := by rw [← hW_w7]; simp
   replace bxa := (hb_w7.block _ (by omega)).trans bxa
   replace bxp := (hb_w7.block _ (by omega)).trans bxp
   replace bxw := (hb_w7.block _ (by omega)).trans bxw
   replace inw := inw.step (Stp.of (lo := 0) (hi := 0) hb_w7) (.inl (Nat.zero_le _))
   replace inx := inx.step (Stp.of (lo := 0) (hi := 0) hb_w7) (.inl (Nat.zero_le _))
   replace bxx := (hb_w7.block _ (by omega)).trans bxx
   replace iny := iny.step (Stp.of (lo := 0) (hi := 0) hb_w7) (.inl (Nat.zero_le _))
   have B_w7 : Below w.heap.size w w7 := B_w6.trans (hb_w7.mono B_w6.size)
   have hs_w7 : w6.heap.size ≤ w7.heap.size := hb_w7.size
   clear hb_w7 B_w6
   obtain ⟨bxxc0, bxxc1, bxxc2, bxxc3, bxxc4, bxxc5, bxxc6⟩ := cellsN7 bxx
   obtain ⟨bxyc0, bxyc1, bxyc2, bxyc3, bxyc4⟩ := cellsN5 bxy
   replace bxa := hide bxa
   replace bxp := hide bxp
   replace bxw := hide bxw
   replace inw := hide inw
   replace inx := hide inx
   replace bxx := hide bxx
   replace iny := hide iny
   replace bxy := hide bxy
   have HB_ := hide B_w7
   clear B_w7
   go_wp2_with fail
   clear bxxc0 bxxc1 bxxc2 bxxc3 bxxc4 bxxc5 bxxc6
   clear bxyc0 bxyc1 bxyc2 bxyc3 bxyc4
   replace bxa := bxa.out
   replace bxp := bxp.out
   replace bxw := bxw.out
   replace inw := inw.out
   replace inx := inx.out
   replace bxx := bxx.out
   replace iny := iny.out
   replace bxy := bxy.out
   have B_w7 := HB_.out
   clear HB_
   refine (HI.out _ _ _ w7 inx (by omega) _ _ _ iny (by omega)).mono ?_
   rintro e w8 ⟨vg, rfl, ing, hb_w8⟩
   replace bxa := (hb_w8.block _ (by omega)).trans bxa
   replace bxp := (hb_w8.block _ (by omega)).trans bxp
   replace bxw := (hb_w8.block _ (by omega)).trans bxw
   replace inw := inw.step (Stp.of (lo := 0) (hi := 0) hb_w8) (.inl (Nat.zero_le _))
   replace inx := inx.step (Stp.of (lo := 0) (hi := 0) hb_w8) (.inl (Nat.zero_le _))
   replace bxx := (hb_w8.block _ (by omega)).trans bxx
   replace iny := iny.step (Stp.of (lo := 0) (hi := 0) hb_w8) (.inl (Nat.zero_le _))
   replace bxy := (hb_w8.block _ (by omega)).trans bxy
   have B_w8 : Below w.heap.size w w8 := B_w7.trans (hb_w8.mono B_w7.size)
   have hs_w8 : w7.heap.size ≤ w8.heap.size := hb_w8.size
   clear hb_w8 B_w7
   obtain ⟨og, cg, ogg, cgg, hve⟩ := ing.opn
   subst hve
   clear hW_w5 hW_w7
   obtain ⟨w9, hW_w9⟩ : ∃ W, w8.alloc (.cells #[.int .i64 mr.a, .int .i64 mr.b, .int .i64 mr.f, .int .i64 mr.s, .slice og mr.l.length cg, .slice ogg mr.g.length cgg, .int .i64 mr.pl, .int .i64 mr.st] 76) = W := ⟨_, rfl⟩
   have bxg : w9.heap[w8.heap.size]? = some (.cells #[.int .i64 mr.a, .int .i64 mr.b, .int .i64 mr.f, .int .i64 mr.s, .slice og mr.l.length cg, .slice ogg mr.g.length cgg, .int .i64 mr.pl, .int .i64 mr.st] 76 (0, 0)) := by rw [← hW_w9]; exact World.alloc_heap_new w8 _
   have hb_w9 : Below w8.heap.size w8 w9 := by rw [← hW_w9]; exact (Below.refl _ _).alloc (Nat.le_refl _) _
   have hz_w9 : w8.heap.size < w9.heap.size := by rw [← hW_w9]; simp
   replace bxa := (hb_w9.block _ (by omega)).trans bxa
   replace bxp := (hb_w9.block _ (by omega)).trans bxp
   replace bxw := (hb_w9.block _ (by omega)).trans bxw
   replace inw := inw.step (Stp.of (lo := 0) (hi := 0) hb_w9) (.inl (Nat.zero_le _))
   replace inx := inx.step (Stp.of (lo := 0) (hi := 0) hb_w9) (.inl (Nat.zero_le _))
   replace bxx := (hb_w9.block _ (by omega)).trans bxx
   replace iny := iny.step (Stp.of (lo := 0) (hi := 0) hb_w9) (.inl (Nat.zero_le _))
   replace bxy := (hb_w9.block _ (by omega)).trans bxy
   replace ing := ing.step (Stp.of (lo := 0) (hi := 0) hb_w9) (.inl (Nat.zero_le _))
   have B_w9 : Below w.heap.size w w9 := B_w8.trans (hb_w9.mono B_w8.size)
   have hs_w9 : w8.heap.size ≤ w9.heap.size := hb_w9.size
   clear hb_w9 B_w8
   obtain ⟨bxgc0, bxgc1, bxgc2, bxgc3, bxgc4, bxgc5, bxgc6, bxgc7⟩ := cellsN8 bxg
   obtain ⟨bxwc0, bxwc1, bxwc2, bxwc3, bxwc4, bxwc5, bxwc6, bxwc7⟩ := cellsN8 bxw
   replace bxa := hide bxa
   replace bxp := hide bxp
   replace bxw := hide bxw
   replace inw := hide inw
   replace inx := hide inx
   replace bxx := hide bxx
   replace iny := hide iny
   replace bxy := hide bxy
   replace ing := hide ing
   replace bxg := hide bxg
   have HB_ := hide B_w9
   clear B_w9
   go_wp2_with fail
   clear bxgc0 bxgc1 bxgc2 bxgc3 bxgc4 bxgc5 bxgc6 bxgc7
   clear bxwc0 bxwc1 bxwc2 bxwc3 bxwc4 bxwc5 bxwc6 bxwc7
   replace bxa := bxa.out
   replace bxp := bxp.out
   replace bxw := bxw.out
   replace inw := inw.out
   replace inx := inx.out
   replace bxx := bxx.out
   replace iny := iny.out
   replace bxy := bxy.out
   replace ing := ing.out
   replace bxg := bxg.out
   have B_w9 := HB_.out
   clear HB_
   clear hW_w9
   refine (eqCarrier_sh _ _ mr w9 (ing.rd.le (by omega)) (inw.rd.le (by omega)) hmr.1 hmr.2).mono ?_
   rintro e w10 ⟨rfl, hb_w10⟩
   replace bxa := (hb_w10.block _ (by omega)).trans bxa
   replace bxp := (hb_w10.block _ (by omega)).trans bxp
   replace bxw := (hb_w10.block _ (by omega)).trans bxw
   replace inw := inw.step (Stp.of (lo := 0) (hi := 0) hb_w10) (.inl (Nat.zero_le _))
   replace inx := inx.step (Stp.of (lo := 0) (hi := 0) hb_w10) (.inl (Nat.zero_le _))
   replace bxx := (hb_w10.block _ (by omega)).trans bxx
   replace iny := iny.step (Stp.of (lo := 0) (hi := 0) hb_w10) (.inl (Nat.zero_le _))
   replace bxy := (hb_w10.block _ (by omega)).trans bxy
   replace ing := ing.step (Stp.of (lo := 0) (hi := 0) hb_w10) (.inl (Nat.zero_le _))
   replace bxg := (hb_w10.block _ (by omega)).trans bxg
   have B_w10 : Below w.heap.size w w10 := B_w9.trans (hb_w10.mono B_w9.size)
   have hs_w10 : w9.heap.size ≤ w10.heap.size := hb_w10.size
   clear hb_w10 B_w9
   obtain ⟨bxac0, bxac1, bxac2, bxac3, bxac4, bxac5, bxac6⟩ := cellsN7 bxa
   obtain ⟨bxxc0, bxxc1, bxxc2, bxxc3, bxxc4, bxxc5, bxxc6⟩ := cellsN7 bxx
   replace bxa := hide bxa
   replace bxp := hide bxp
   replace bxw := hide bxw
   replace inw := hide inw
   replace inx := hide inx
   replace bxx := hide bxx
   replace iny := hide iny
   replace bxy := hide bxy
   replace ing := hide ing
   replace bxg := hide bxg
   have HB_ := hide B_w10
   clear B_w10
   go_wp2
   have hk_bxa : w.heap.size < w10.heap.size := by omega
   have hk_bxx : w4.heap.size < w10.heap.size := by omega
   go_region_held3 (fun w' => w'.cell? ⟨w.heap.size, 0, none⟩ = some (.int .i64 m.j.key) ∧ w'.cell? ⟨w.heap.size, 1, none⟩ = some (.slice oa m.j.l.length ca) ∧ w'.cell? ⟨w.heap.size, 2, none⟩ = some (.int .i64 m.j.safe) ∧ w'.cell? ⟨w.heap.size, 3, none⟩ = some (.int .i64 m.p.key) ∧ w'.cell? ⟨w.heap.size, 4, none⟩ = some (.slice oba m.p.l.length cba) ∧ w'.cell? ⟨w.heap.size, 5, none⟩ = some (.slice oRa m.p.ring.length cRa) ∧ w'.cell? ⟨w.heap.size, 6, none⟩ = some (.slice ota m.t.length cta) ∧ w'.cell? ⟨w4.heap.size, 0, none⟩ = some (.int .i64 m.j.key) ∧ w'.cell? ⟨w4.heap.size, 1, none⟩ = some (.slice ox m.j.l.length cx) ∧ w'.cell? ⟨w4.heap.size, 2, none⟩ = some (.int .i64 m.j.safe) ∧ w'.cell? ⟨w4.heap.size, 3, none⟩ = some (.int .i64 m.p.key) ∧ w'.cell? ⟨w4.heap.size, 4, none⟩ = some (.slice obx m.p.l.length cbx) ∧ w'.cell? ⟨w4.heap.size, 5, none⟩ = some (.slice oRx m.p.ring.length cRx) ∧ w'.cell? ⟨w4.heap.size, 6, none⟩ = some (.slice otx m.t.length ctx)) (first | exact ⟨k1_0, k1_1, k1_2, k1_3, k1_4, k1_5, k1_6, k1_7, k1_8, k1_9, k1_10, k1_11, k1_12, k1_13⟩ | exact ⟨k0_0, k0_1, k0_2, k0_3, k0_4, k0_5, k0_6, k0_7, k0_8, k0_9, k0_10, k0_11, k0_12, k0_13⟩ | exact ⟨bxac0, bxac1, bxac2, bxac3, bxac4, bxac5, bxac6, bxxc0, bxxc1, bxxc2, bxxc3, bxxc4, bxxc5, bxxc6⟩) (first | (go_at_call 13; refine (toBal_sh _ m w10.drew ((hR.kept (Below.drew HB_.out) (Nat.le_refl _)).le HB_.out.size) hf).mono ?_; rintro e w11 ⟨va, rfl, ina, hb⟩; have hbx : Below w10.heap.size w10 w11 := (Below.drew (Below.refl _ _)).trans hb; have rdx := inx.out.rd.kept hbx (by omega); have szx := hbx.size; have hx0 : Below w10.heap.size w10 w11 := (Below.drew (Below.refl _ _)).trans hb; clear hb; have k0_0 := (hx0.cell (p := ⟨w.heap.size, 0, none⟩) hk_bxa).trans bxac0; have k0_1 := (hx0.cell (p := ⟨w.heap.size, 1, none⟩) hk_bxa).trans bxac1; have k0_2 := (hx0.cell (p := ⟨w.heap.size, 2, none⟩) hk_bxa).trans bxac2; have k0_3 := (hx0.cell (p := ⟨w.heap.size, 3, none⟩) hk_bxa).trans bxac3; have k0_4 := (hx0.cell (p := ⟨w.heap.size, 4, none⟩) hk_bxa).trans bxac4; have k0_5 := (hx0.cell (p := ⟨w.heap.size, 5, none⟩) hk_bxa).trans bxac5; have k0_6 := (hx0.cell (p := ⟨w.heap.size, 6, none⟩) hk_bxa).trans bxac6; have k0_7 := (hx0.cell (p := ⟨w4.heap.size, 0, none⟩) hk_bxx).trans bxxc0; have k0_8 := (hx0.cell (p := ⟨w4.heap.size, 1, none⟩) hk_bxx).trans bxxc1; have k0_9 := (hx0.cell (p := ⟨w4.heap.size, 2, none⟩) hk_bxx).trans bxxc2; have k0_10 := (hx0.cell (p := ⟨w4.heap.size, 3, none⟩) hk_bxx).trans bxxc3; have k0_11 := (hx0.cell (p := ⟨w4.heap.size, 4, none⟩) hk_bxx).trans bxxc4; have k0_12 := (hx0.cell (p := ⟨w4.heap.size, 5, none⟩) hk_bxx).trans bxxc5; have k0_13 := (hx0.cell (p := ⟨w4.heap.size, 6, none⟩) hk_bxx).trans bxxc6) | (go_at_call 15; refine (eqBal_sh _ _ m w11 (rdx.le (by omega)) (ina.rd.le (Nat.le_refl _)) hf).mono ?_; rintro e w12 ⟨rfl, hb⟩; have hx1 : Below w10.heap.size w10 w12 := hx0.trans (hb.mono hx0.size); clear hb; have k1_0 := (hx1.cell (p := ⟨w.heap.size, 0, none⟩) hk_bxa).trans bxac0; have k1_1 := (hx1.cell (p := ⟨w.heap.size, 1, none⟩) hk_bxa).trans bxac1; have k1_2 := (hx1.cell (p := ⟨w.heap.size, 2, none⟩) hk_bxa).trans bxac2; have k1_3 := (hx1.cell (p := ⟨w.heap.size, 3, none⟩) hk_bxa).trans bxac3; have k1_4 := (hx1.cell (p := ⟨w.heap.size, 4, none⟩) hk_bxa).trans bxac4; have k1_5 := (hx1.cell (p := ⟨w.heap.size, 5, none⟩) hk_bxa).trans bxac5; have k1_6 := (hx1.cell (p := ⟨w.heap.size, 6, none⟩) hk_bxa).trans bxac6; have k1_7 := (hx1.cell (p := ⟨w4.heap.size, 0, none⟩) hk_bxx).trans bxxc0; have k1_8 := (hx1.cell (p := ⟨w4.heap.size, 1, none⟩) hk_bxx).trans bxxc1; have k1_9 := (hx1.cell (p := ⟨w4.heap.size, 2, none⟩) hk_bxx).trans bxxc2; have k1_10 := (hx1.cell (p := ⟨w4.heap.size, 3, none⟩) hk_bxx).trans bxxc3; have k1_11 := (hx1.cell (p := ⟨w4.heap.size, 4, none⟩) hk_bxx).trans bxxc4; have k1_12 := (hx1.cell (p := ⟨w4.heap.size, 5, none⟩) hk_bxx).trans bxxc5; have k1_13 := (hx1.cell (p := ⟨w4.heap.size, 6, none⟩) hk_bxx).trans bxxc6))
   clear k0_0 k0_1 k0_2 k0_3 k0_4 k0_5 k0_6 k0_7 k0_8 k0_9 k0_10 k0_11 k0_12 k0_13
   clear k1_0 k1_1 k1_2 k1_3 k1_4 k1_5 k1_6 k1_7 k1_8 k1_9 k1_10 k1_11 k1_12 k1_13
   clear hk_bxa hk_bxx hx0
   clear bxac0 bxac1 bxac2 bxac3 bxac4 bxac5 bxac6
   clear bxxc0 bxxc1 bxxc2 bxxc3 bxxc4 bxxc5 bxxc6
   replace bxa := bxa.out
   replace bxp := bxp.out
   replace bxw := bxw.out
   replace inw := inw.out
   replace inx := inx.out
   replace bxx := bxx.out
   replace iny := iny.out
   replace bxy := bxy.out
   replace ing := ing.out
   replace bxg := bxg.out
   have B_w10 := HB_.out
   clear HB_
   replace bxa := (hx1.block _ (by omega)).trans bxa
   replace bxp := (hx1.block _ (by omega)).trans bxp
   replace bxw := (hx1.block _ (by omega)).trans bxw
   replace inw := inw.step (Stp.of (lo := 0) (hi := 0) hx1) (.inl (Nat.zero_le _))
   replace inx := inx.step (Stp.of (lo := 0) (hi := 0) hx1) (.inl (Nat.zero_le _))
   replace bxx := (hx1.block _ (by omega)).trans bxx
   replace iny := iny.step (Stp.of (lo := 0) (hi := 0) hx1) (.inl (Nat.zero_le _))
   replace bxy := (hx1.block _ (by omega)).trans bxy
   replace ing := ing.step (Stp.of (lo := 0) (hi := 0) hx1) (.inl (Nat.zero_le _))
   replace bxg := (hx1.block _ (by omega)).trans bxg
   have B_w12 : Below w.heap.size w w12 := B_w10.trans (hx1.mono B_w10.size)
   have hs_w12 : w10.heap.size ≤ w12.heap.size := hx1.size
   clear hx1 B_w10
   clear rdx szx ina hbx
   obtain ⟨bxpc0, bxpc1, bxpc2, bxpc3, bxpc4⟩ := cellsN5 bxp
   obtain ⟨bxyc0, bxyc1, bxyc2, bxyc3, bxyc4⟩ := cellsN5 bxy
   replace bxa := hide bxa
   replace bxp := hide bxp
   replace bxw := hide bxw
   replace inw := hide inw
   replace inx := hide inx
   replace bxx := hide bxx
   replace iny := hide iny
   replace bxy := hide bxy
   replace ing := hide ing
   replace bxg := hide bxg
   have HB_ := hide B_w12
   clear B_w12
   go_wp2
   have hk_bxp : w.heap.size + 1 < w12.heap.size := by omega
   have hk_bxy : w6.heap.size < w12.heap.size := by omega
   go_region_held3 (fun w' => w'.cell? ⟨w.heap.size + 1, 0, none⟩ = some (.int .i64 q.a) ∧ w'.cell? ⟨w.heap.size + 1, 1, none⟩ = some (.int .i64 q.b) ∧ w'.cell? ⟨w.heap.size + 1, 2, none⟩ = some (.int .i64 q.f) ∧ w'.cell? ⟨w.heap.size + 1, 3, none⟩ = some (.int .i64 q.s) ∧ w'.cell? ⟨w.heap.size + 1, 4, none⟩ = some (.slice op q.l.length cp) ∧ w'.cell? ⟨w6.heap.size, 0, none⟩ = some (.int .i64 q.a) ∧ w'.cell? ⟨w6.heap.size, 1, none⟩ = some (.int .i64 q.b) ∧ w'.cell? ⟨w6.heap.size, 2, none⟩ = some (.int .i64 q.f) ∧ w'.cell? ⟨w6.heap.size, 3, none⟩ = some (.int .i64 q.s) ∧ w'.cell? ⟨w6.heap.size, 4, none⟩ = some (.slice oy q.l.length cy)) (first | exact ⟨k1_0, k1_1, k1_2, k1_3, k1_4, k1_5, k1_6, k1_7, k1_8, k1_9⟩ | exact ⟨k0_0, k0_1, k0_2, k0_3, k0_4, k0_5, k0_6, k0_7, k0_8, k0_9⟩ | exact ⟨bxpc0, bxpc1, bxpc2, bxpc3, bxpc4, bxyc0, bxyc1, bxyc2, bxyc3, bxyc4⟩) (first | (go_at_call 23; refine (toPacket_sh _ q w12.drew ((hRp.kept (Below.drew HB_.out) (Nat.le_refl _)).le HB_.out.size) hB8 hql).mono ?_; rintro e w13 ⟨va, rfl, ina, hb⟩; have hbx : Below w12.heap.size w12 w13 := (Below.drew (Below.refl _ _)).trans hb; have rdx := iny.out.rd.kept hbx (by omega); have szx := hbx.size; have hx0 : Below w12.heap.size w12 w13 := (Below.drew (Below.refl _ _)).trans hb; clear hb; have k0_0 := (hx0.cell (p := ⟨w.heap.size + 1, 0, none⟩) hk_bxp).trans bxpc0; have k0_1 := (hx0.cell (p := ⟨w.heap.size + 1, 1, none⟩) hk_bxp).trans bxpc1; have k0_2 := (hx0.cell (p := ⟨w.heap.size + 1, 2, none⟩) hk_bxp).trans bxpc2; have k0_3 := (hx0.cell (p := ⟨w.heap.size + 1, 3, none⟩) hk_bxp).trans bxpc3; have k0_4 := (hx0.cell (p := ⟨w.heap.size + 1, 4, none⟩) hk_bxp).trans bxpc4; have k0_5 := (hx0.cell (p := ⟨w6.heap.size, 0, none⟩) hk_bxy).trans bxyc0; have k0_6 := (hx0.cell (p := ⟨w6.heap.size, 1, none⟩) hk_bxy).trans bxyc1; have k0_7 := (hx0.cell (p := ⟨w6.heap.size, 2, none⟩) hk_bxy).trans bxyc2; have k0_8 := (hx0.cell (p := ⟨w6.heap.size, 3, none⟩) hk_bxy).trans bxyc3; have k0_9 := (hx0.cell (p := ⟨w6.heap.size, 4, none⟩) hk_bxy).trans bxyc4) | (go_at_call 26; refine (eqPacket_sh _ _ q w13 (rdx.le (by omega)) (ina.rd.le (Nat.le_refl _)) hql).mono ?_; rintro e w14 ⟨rfl, hb⟩; have hx1 : Below w12.heap.size w12 w14 := hx0.trans (hb.mono hx0.size); clear hb; have k1_0 := (hx1.cell (p := ⟨w.heap.size + 1, 0, none⟩) hk_bxp).trans bxpc0; have k1_1 := (hx1.cell (p := ⟨w.heap.size + 1, 1, none⟩) hk_bxp).trans bxpc1; have k1_2 := (hx1.cell (p := ⟨w.heap.size + 1, 2, none⟩) hk_bxp).trans bxpc2; have k1_3 := (hx1.cell (p := ⟨w.heap.size + 1, 3, none⟩) hk_bxp).trans bxpc3; have k1_4 := (hx1.cell (p := ⟨w.heap.size + 1, 4, none⟩) hk_bxp).trans bxpc4; have k1_5 := (hx1.cell (p := ⟨w6.heap.size, 0, none⟩) hk_bxy).trans bxyc0; have k1_6 := (hx1.cell (p := ⟨w6.heap.size, 1, none⟩) hk_bxy).trans bxyc1; have k1_7 := (hx1.cell (p := ⟨w6.heap.size, 2, none⟩) hk_bxy).trans bxyc2; have k1_8 := (hx1.cell (p := ⟨w6.heap.size, 3, none⟩) hk_bxy).trans bxyc3; have k1_9 := (hx1.cell (p := ⟨w6.heap.size, 4, none⟩) hk_bxy).trans bxyc4))
   clear k0_0 k0_1 k0_2 k0_3 k0_4 k0_5 k0_6 k0_7 k0_8 k0_9
   clear k1_0 k1_1 k1_2 k1_3 k1_4 k1_5 k1_6 k1_7 k1_8 k1_9
   clear hk_bxp hk_bxy hx0
   clear bxpc0 bxpc1 bxpc2 bxpc3 bxpc4
   clear bxyc0 bxyc1 bxyc2 bxyc3 bxyc4
   replace bxa := bxa.out
   replace bxp := bxp.out
   replace bxw := bxw.out
   replace inw := inw.out
   replace inx := inx.out
   replace bxx := bxx.out
   replace iny := iny.out
   replace bxy := bxy.out
   replace ing := ing.out
   replace bxg := bxg.out
   have B_w12 := HB_.out
   clear HB_
   replace bxa := (hx1.block _ (by omega)).trans bxa
   replace bxp := (hx1.block _ (by omega)).trans bxp
   replace bxw := (hx1.block _ (by omega)).trans bxw
   replace inw := inw.step (Stp.of (lo := 0) (hi := 0) hx1) (.inl (Nat.zero_le _))
   replace inx := inx.step (Stp.of (lo := 0) (hi := 0) hx1) (.inl (Nat.zero_le _))
   replace bxx := (hx1.block _ (by omega)).trans bxx
   replace iny := iny.step (Stp.of (lo := 0) (hi := 0) hx1) (.inl (Nat.zero_le _))
   replace bxy := (hx1.block _ (by omega)).trans bxy
   replace ing := ing.step (Stp.of (lo := 0) (hi := 0) hx1) (.inl (Nat.zero_le _))
   replace bxg := (hx1.block _ (by omega)).trans bxg
   have B_w14 : Below w.heap.size w w14 := B_w12.trans (hx1.mono B_w12.size)
   have hs_w14 : w12.heap.size ≤ w14.heap.size := hx1.size
   clear hx1 B_w12
   clear rdx szx ina hbx
   obtain ⟨bxxc0, bxxc1, bxxc2, bxxc3, bxxc4, bxxc5, bxxc6⟩ := cellsN7 bxx
   replace bxa := hide bxa
   replace bxp := hide bxp
   replace bxw := hide bxw
   replace inw := hide inw
   replace inx := hide inx
   replace bxx := hide bxx
   replace iny := hide iny
   replace bxy := hide bxy
   replace ing := hide ing
   replace bxg := hide bxg
   have HB_ := hide B_w14
   clear B_w14
   go_wp2_with fail
   clear bxxc0 bxxc1 bxxc2 bxxc3 bxxc4 bxxc5 bxxc6
   replace bxa := bxa.out
   replace bxp := bxp.out
   replace bxw := bxw.out
   replace inw := inw.out
   replace inx := inx.out
   replace bxx := bxx.out
   replace iny := iny.out
   replace bxy := bxy.out
   replace ing := ing.out
   replace bxg := bxg.out
   have B_w14 := HB_.out
   clear HB_
   refine (markBal_sh0 (w3.heap.size) (w4.heap.size) _ m 1 w14 inx (by omega) (by omega) (by omega) hf).mono ?_
   rintro e w15 ⟨rfl, _, sp_w15⟩
   clear bxx
   replace bxa := sp_w15.box bxa (by omega)
   replace bxp := sp_w15.box bxp (by omega)
   replace bxw := sp_w15.box bxw (by omega)
   replace inw := inw.step sp_w15 (by omega)
   replace iny := iny.step sp_w15 (by omega)
   replace bxy := sp_w15.box bxy (by omega)
   replace ing := ing.step sp_w15 (by omega)
   replace bxg := sp_w15.box bxg (by omega)
   have B_w15 : Below w.heap.size w w15 := B_w14.trans (sp_w15.below (by omega) (by omega))
   have hs_w15 : w14.heap.size ≤ w15.heap.size := sp_w15.size
   clear sp_w15 B_w14
   clear inx
   have hnb := nBm_bd0 hf
   have hk1 : (0 : Int) ≤ 1 + nBm m ∧ 1 + nBm m ≤ 1073741824 := by omega
   generalize 1 + nBm m = kb at *
   clear hnb
   obtain ⟨bxyc0, bxyc1, bxyc2, bxyc3, bxyc4⟩ := cellsN5 bxy
   replace bxa := hide bxa
   replace bxp := hide bxp
   replace bxw := hide bxw
   replace inw := hide inw
   replace iny := hide iny
   replace bxy := hide bxy
   replace ing := hide ing
   replace bxg := hide bxg
   have HB_ := hide B_w15
   clear B_w15
   go_wp2_with fail
   clear bxyc0 bxyc1 bxyc2 bxyc3 bxyc4
   replace bxa := bxa.out
   replace bxp := bxp.out
   replace bxw := bxw.out
   replace inw := inw.out
   replace iny := iny.out
   replace bxy := bxy.out
   replace ing := ing.out
   replace bxg := bxg.out
   have B_w15 := HB_.out
   clear HB_
   refine (markPacket_sh (w5.heap.size) (w6.heap.size) _ q kb w15 iny hk1.1 hk1.2 hql).mono ?_
   rintro e w16 ⟨rfl, sp_w16⟩
   clear bxy
   replace bxa := sp_w16.box bxa (by omega)
   replace bxp := sp_w16.box bxp (by omega)
   replace bxw := sp_w16.box bxw (by omega)
   replace inw := inw.step sp_w16 (by omega)
   replace ing := ing.step sp_w16 (by omega)
   replace bxg := sp_w16.box bxg (by omega)
   have B_w16 : Below w.heap.size w w16 := B_w15.trans (sp_w16.below (by omega) (by omega))
   have hs_w16 : w15.heap.size ≤ w16.heap.size := sp_w16.size
   clear sp_w16 B_w15
   clear iny
   have hk2 : (0 : Int) ≤ kb + (q.l.length : Int) := by omega
   have hk3 : ¬ (kb + (q.l.length : Int) < 0) := by omega
   obtain ⟨bxgc0, bxgc1, bxgc2, bxgc3, bxgc4, bxgc5, bxgc6, bxgc7⟩ := cellsN8 bxg
   obtain ⟨bxwc0, bxwc1, bxwc2, bxwc3, bxwc4, bxwc5, bxwc6, bxwc7⟩ := cellsN8 bxw
   replace bxa := hide bxa
   replace bxp := hide bxp
   replace bxw := hide bxw
   replace inw := hide inw
   replace ing := hide ing
   replace bxg := hide bxg
   have HB_ := hide B_w16
   clear B_w16
   go_wp2_with fail
   clear bxgc0 bxgc1 bxgc2 bxgc3 bxgc4 bxgc5 bxgc6 bxgc7
   clear bxwc0 bxwc1 bxwc2 bxwc3 bxwc4 bxwc5 bxwc6 bxwc7
   replace bxa := bxa.out
   replace bxp := bxp.out
   replace bxw := bxw.out
   replace inw := inw.out
   replace ing := ing.out
   replace bxg := bxg.out
   have B_w16 := HB_.out
   clear HB_
   refine (eqCarrier_sh _ _ mr w16 (ing.rd.le (by omega)) (inw.rd.le (by omega)) hmr.1 hmr.2).mono ?_
   rintro e w17 ⟨rfl, hb_w17⟩
   replace bxa := (hb_w17.block _ (by omega)).trans bxa
   replace bxp := (hb_w17.block _ (by omega)).trans bxp
   replace bxw := (hb_w17.block _ (by omega)).trans bxw
   replace inw := inw.step (Stp.of (lo := 0) (hi := 0) hb_w17) (.inl (Nat.zero_le _))
   replace ing := ing.step (Stp.of (lo := 0) (hi := 0) hb_w17) (.inl (Nat.zero_le _))
   replace bxg := (hb_w17.block _ (by omega)).trans bxg
   have B_w17 : Below w.heap.size w w17 := B_w16.trans (hb_w17.mono B_w16.size)
   have hs_w17 : w16.heap.size ≤ w17.heap.size := hb_w17.size
   clear hb_w17 B_w16
   obtain ⟨bxgc0, bxgc1, bxgc2, bxgc3, bxgc4, bxgc5, bxgc6, bxgc7⟩ := cellsN8 bxg
   replace bxa := hide bxa
   replace bxp := hide bxp
   replace bxw := hide bxw
   replace inw := hide inw
   replace ing := hide ing
   replace bxg := hide bxg
   have HB_ := hide B_w17
   clear B_w17
   go_wp2_with fail
   clear bxgc0 bxgc1 bxgc2 bxgc3 bxgc4 bxgc5 bxgc6 bxgc7
   replace bxa := bxa.out
   replace bxp := bxp.out
   replace bxw := bxw.out
   replace inw := inw.out
   replace ing := ing.out
   replace bxg := bxg.out
   have B_w17 := HB_.out
   clear HB_
   refine (markCarrier_sh (w7.heap.size) (w8.heap.size) _ mr 1 w17 ing (by omega) (by omega) hmr.1 hmr.2).mono ?_
   rintro e w18 ⟨rfl, ing', sp_w18⟩
   replace bxa := sp_w18.box bxa (by omega)
   replace bxp := sp_w18.box bxp (by omega)
   replace bxw := sp_w18.box bxw (by omega)
   replace inw := inw.step sp_w18 (by omega)
   replace bxg := sp_w18.box bxg (by omega)
   have B_w18 : Below w.heap.size w w18 := B_w17.trans (sp_w18.below (by omega) (by omega))
   have hs_w18 : w17.heap.size ≤ w18.heap.size := sp_w18.size
   clear sp_w18 B_w17
   clear ing
   have ing := ing'
   clear ing'
   have hk4 : (0 : Int) ≤ 1 + (mr.l.length : Int) + 2 * (mr.g.length : Int) ∧ 1 + (mr.l.length : Int) + 2 * (mr.g.length : Int) ≤ 10000000 := by have := hmr.1; have := hmr.2; omega
   have hk5 : ¬ (1 + (mr.l.length : Int) + 2 * (mr.g.length : Int) < 0) := by omega
   obtain ⟨bxgc0, bxgc1, bxgc2, bxgc3, bxgc4, bxgc5, bxgc6, bxgc7⟩ := cellsN8 bxg
   replace bxa := hide bxa
   replace bxp := hide bxp
   replace bxw := hide bxw
   replace inw := hide inw
   replace ing := hide ing
   replace bxg := hide bxg
   have HB_ := hide B_w18
   clear B_w18
   go_wp2_with fail
   clear bxgc0 bxgc1 bxgc2 bxgc3 bxgc4 bxgc5 bxgc6 bxgc7
   replace bxa := bxa.out
   replace bxp := bxp.out
   replace bxw := bxw.out
   replace inw := inw.out
   replace ing := ing.out
   replace bxg := bxg.out
   have B_w18 := HB_.out
   clear HB_
   refine (heldCarrier_sh _ mr 1 w18 (ing.rd.le (by omega)) (by omega) (by omega) hmr.1 hmr.2).mono ?_
   rintro e w19 ⟨rfl, hb_w19⟩
   replace bxa := (hb_w19.block _ (by omega)).trans bxa
   replace bxp := (hb_w19.block _ (by omega)).trans bxp
   replace bxw := (hb_w19.block _ (by omega)).trans bxw
   replace inw := inw.step (Stp.of (lo := 0) (hi := 0) hb_w19) (.inl (Nat.zero_le _))
   replace ing := ing.step (Stp.of (lo := 0) (hi := 0) hb_w19) (.inl (Nat.zero_le _))
   replace bxg := (hb_w19.block _ (by omega)).trans bxg
   have B_w19 : Below w.heap.size w w19 := B_w18.trans (hb_w19.mono B_w18.size)
   have hs_w19 : w18.heap.size ≤ w19.heap.size := hb_w19.size
   clear hb_w19 B_w18
   obtain ⟨bxac0, bxac1, bxac2, bxac3, bxac4, bxac5, bxac6⟩ := cellsN7 bxa
   obtain ⟨bxpc0, bxpc1, bxpc2, bxpc3, bxpc4⟩ := cellsN5 bxp
   replace bxa := hide bxa
   replace bxp := hide bxp
   replace bxw := hide bxw
   replace inw := hide inw
   replace ing := hide ing
   replace bxg := hide bxg
   have HB_ := hide B_w19
   clear B_w19
   go_upto_region 31 with fail
   go_cut [17, 18] from 98 to 106 (fun s17 s18 wx => ∃ B lo hi oh ch ogh cgh, s17 = .pointer (some ⟨B, 0, none⟩) ∧ s18 = .bool t ∧ Hid (wx.heap[B]? = some (.cells #[.int .i64 mr.a, .int .i64 mr.b, .int .i64 mr.f, .int .i64 mr.s, .slice oh mr.l.length ch, .slice ogh mr.g.length cgh, .int .i64 mr.pl, .int .i64 mr.st] 76 (0, 0))) ∧ Hid (Below w19.heap.size w19 wx) ∧ w19.heap.size ≤ B ∧ B < wx.heap.size ∧ Hid (InCm lo hi wx (crr mr.a mr.b mr.f mr.s (.slice oh mr.l.length ch) (.slice ogh mr.g.length cgh) mr.pl mr.st) mr) ∧ w19.heap.size ≤ lo ∧ hi ≤ wx.heap.size ∧ (B < lo ∨ hi ≤ B))
   case first =>
    have hk_bxa : w.heap.size < w19.heap.size := by omega
    have hk_bxp : w.heap.size + 1 < w19.heap.size := by omega
    go_region_held3 (fun w' => w'.cell? ⟨w.heap.size, 0, none⟩ = some (.int .i64 m.j.key) ∧ w'.cell? ⟨w.heap.size, 1, none⟩ = some (.slice oa m.j.l.length ca) ∧ w'.cell? ⟨w.heap.size, 2, none⟩ = some (.int .i64 m.j.safe) ∧ w'.cell? ⟨w.heap.size, 3, none⟩ = some (.int .i64 m.p.key) ∧ w'.cell? ⟨w.heap.size, 4, none⟩ = some (.slice oba m.p.l.length cba) ∧ w'.cell? ⟨w.heap.size, 5, none⟩ = some (.slice oRa m.p.ring.length cRa) ∧ w'.cell? ⟨w.heap.size, 6, none⟩ = some (.slice ota m.t.length cta) ∧ w'.cell? ⟨w.heap.size + 1, 0, none⟩ = some (.int .i64 q.a) ∧ w'.cell? ⟨w.heap.size + 1, 1, none⟩ = some (.int .i64 q.b) ∧ w'.cell? ⟨w.heap.size + 1, 2, none⟩ = some (.int .i64 q.f) ∧ w'.cell? ⟨w.heap.size + 1, 3, none⟩ = some (.int .i64 q.s) ∧ w'.cell? ⟨w.heap.size + 1, 4, none⟩ = some (.slice op q.l.length cp)) (first | with_reducible exact ⟨k2_0, k2_1, k2_2, k2_3, k2_4, k2_5, k2_6, k2_7, k2_8, k2_9, k2_10, k2_11⟩ | with_reducible exact ⟨k1_0, k1_1, k1_2, k1_3, k1_4, k1_5, k1_6, k1_7, k1_8, k1_9, k1_10, k1_11⟩ | with_reducible exact ⟨k0_0, k0_1, k0_2, k0_3, k0_4, k0_5, k0_6, k0_7, k0_8, k0_9, k0_10, k0_11⟩ | with_reducible exact ⟨bxac0, bxac1, bxac2, bxac3, bxac4, bxac5, bxac6, bxpc0, bxpc1, bxpc2, bxpc3, bxpc4⟩ | with_reducible exact ⟨set8_cell k2_0 (show w.heap.size < w19.heap.size by omega) _ _ _ _ _ _ _ _, set8_cell k2_1 (show w.heap.size < w19.heap.size by omega) _ _ _ _ _ _ _ _, set8_cell k2_2 (show w.heap.size < w19.heap.size by omega) _ _ _ _ _ _ _ _, set8_cell k2_3 (show w.heap.size < w19.heap.size by omega) _ _ _ _ _ _ _ _, set8_cell k2_4 (show w.heap.size < w19.heap.size by omega) _ _ _ _ _ _ _ _, set8_cell k2_5 (show w.heap.size < w19.heap.size by omega) _ _ _ _ _ _ _ _, set8_cell k2_6 (show w.heap.size < w19.heap.size by omega) _ _ _ _ _ _ _ _, set8_cell k2_7 (show w.heap.size + 1 < w19.heap.size by omega) _ _ _ _ _ _ _ _, set8_cell k2_8 (show w.heap.size + 1 < w19.heap.size by omega) _ _ _ _ _ _ _ _, set8_cell k2_9 (show w.heap.size + 1 < w19.heap.size by omega) _ _ _ _ _ _ _ _, set8_cell k2_10 (show w.heap.size + 1 < w19.heap.size by omega) _ _ _ _ _ _ _ _, set8_cell k2_11 (show w.heap.size + 1 < w19.heap.size by omega) _ _ _ _ _ _ _ _⟩ | with_reducible exact ⟨set8_cell k2_0 (show w.heap.size < x0.heap.size by omega) _ _ _ _ _ _ _ _, set8_cell k2_1 (show w.heap.size < x0.heap.size by omega) _ _ _ _ _ _ _ _, set8_cell k2_2 (show w.heap.size < x0.heap.size by omega) _ _ _ _ _ _ _ _, set8_cell k2_3 (show w.heap.size < x0.heap.size by omega) _ _ _ _ _ _ _ _, set8_cell k2_4 (show w.heap.size < x0.heap.size by omega) _ _ _ _ _ _ _ _, set8_cell k2_5 (show w.heap.size < x0.heap.size by omega) _ _ _ _ _ _ _ _, set8_cell k2_6 (show w.heap.size < x0.heap.size by omega) _ _ _ _ _ _ _ _, set8_cell k2_7 (show w.heap.size + 1 < x0.heap.size by omega) _ _ _ _ _ _ _ _, set8_cell k2_8 (show w.heap.size + 1 < x0.heap.size by omega) _ _ _ _ _ _ _ _, set8_cell k2_9 (show w.heap.size + 1 < x0.heap.size by omega) _ _ _ _ _ _ _ _, set8_cell k2_10 (show w.heap.size + 1 < x0.heap.size by omega) _ _ _ _ _ _ _ _, set8_cell k2_11 (show w.heap.size + 1 < x0.heap.size by omega) _ _ _ _ _ _ _ _⟩ | with_reducible exact ⟨set8_cell k2_0 (show w.heap.size < x1.heap.size by omega) _ _ _ _ _ _ _ _, set8_cell k2_1 (show w.heap.size < x1.heap.size by omega) _ _ _ _ _ _ _ _, set8_cell k2_2 (show w.heap.size < x1.heap.size by omega) _ _ _ _ _ _ _ _, set8_cell k2_3 (show w.heap.size < x1.heap.size by omega) _ _ _ _ _ _ _ _, set8_cell k2_4 (show w.heap.size < x1.heap.size by omega) _ _ _ _ _ _ _ _, set8_cell k2_5 (show w.heap.size < x1.heap.size by omega) _ _ _ _ _ _ _ _, set8_cell k2_6 (show w.heap.size < x1.heap.size by omega) _ _ _ _ _ _ _ _, set8_cell k2_7 (show w.heap.size + 1 < x1.heap.size by omega) _ _ _ _ _ _ _ _, set8_cell k2_8 (show w.heap.size + 1 < x1.heap.size by omega) _ _ _ _ _ _ _ _, set8_cell k2_9 (show w.heap.size + 1 < x1.heap.size by omega) _ _ _ _ _ _ _ _, set8_cell k2_10 (show w.heap.size + 1 < x1.heap.size by omega) _ _ _ _ _ _ _ _, set8_cell k2_11 (show w.heap.size + 1 < x1.heap.size by omega) _ _ _ _ _ _ _ _⟩ | go_keep) (first | (go_at_call 13; have hc_ := toBal_sh _ m w19.drew ((hR.kept (Below.drew HB_.out) (Nat.le_refl _)).le HB_.out.size) hf; with_reducible refine hc_.mono ?_; clear hc_; rintro e x0 ⟨v2, rfl, in2, hb⟩; have hp0 : Below w19.heap.size w19 x0 := Below.trans (show Below w19.heap.size w19 w19.drew from (Below.drew (Below.refl _ _))) (hb.mono (by simp)); have sp0 : w19.heap.size ≤ x0.heap.size := hp0.size; have hx0 : Below w19.heap.size w19 x0 := hp0; have k0_0 := bC hx0 bxac0 hk_bxa; have k0_1 := bC hx0 bxac1 hk_bxa; have k0_2 := bC hx0 bxac2 hk_bxa; have k0_3 := bC hx0 bxac3 hk_bxa; have k0_4 := bC hx0 bxac4 hk_bxa; have k0_5 := bC hx0 bxac5 hk_bxa; have k0_6 := bC hx0 bxac6 hk_bxa; have k0_7 := bC hx0 bxpc0 hk_bxp; have k0_8 := bC hx0 bxpc1 hk_bxp; have k0_9 := bC hx0 bxpc2 hk_bxp; have k0_10 := bC hx0 bxpc3 hk_bxp; have k0_11 := bC hx0 bxpc4 hk_bxp; (try have hzl0_0 := (Array.getElem?_eq_some_iff.1 hZ0_0).1); clear hb) | (go_at_call 13; have hc_ := toBal_sh _ m (w19.alloc (.cells #[.int .i64 0, .int .i64 0, .int .i64 0, .int .i64 0, .slice none 0 0, .slice none 0 0, .int .i64 0, .int .i64 0] 76)).drew ((hR.kept (Below.drew (HB_.out.alloc HB_.out.size _)) (Nat.le_refl _)).le (Nat.le_trans HB_.out.size (by simp))) hf; with_reducible refine hc_.mono ?_; clear hc_; rintro e x0 ⟨v2, rfl, in2, hb⟩; have hp0 : Below w19.heap.size w19 x0 := Below.trans (show Below w19.heap.size w19 (w19.alloc (.cells #[.int .i64 0, .int .i64 0, .int .i64 0, .int .i64 0, .slice none 0 0, .slice none 0 0, .int .i64 0, .int .i64 0] 76)).drew from (Below.drew ((Below.refl _ _).alloc (Nat.le_refl _) _))) (hb.mono (by simp)); have sp0 : w19.heap.size ≤ x0.heap.size := hp0.size; have hx0 : Below w19.heap.size w19 x0 := hp0; have k0_0 := bC hx0 bxac0 hk_bxa; have k0_1 := bC hx0 bxac1 hk_bxa; have k0_2 := bC hx0 bxac2 hk_bxa; have k0_3 := bC hx0 bxac3 hk_bxa; have k0_4 := bC hx0 bxac4 hk_bxa; have k0_5 := bC hx0 bxac5 hk_bxa; have k0_6 := bC hx0 bxac6 hk_bxa; have k0_7 := bC hx0 bxpc0 hk_bxp; have k0_8 := bC hx0 bxpc1 hk_bxp; have k0_9 := bC hx0 bxpc2 hk_bxp; have k0_10 := bC hx0 bxpc3 hk_bxp; have k0_11 := bC hx0 bxpc4 hk_bxp; have hZ0_0 : x0.heap[w19.heap.size]? = some (.cells #[.int .i64 0, .int .i64 0, .int .i64 0, .int .i64 0, .slice none 0 0, .slice none 0 0, .int .i64 0, .int .i64 0] 76 (0, 0)) := (box_newC0 hb); (try have hzl0_0 := (Array.getElem?_eq_some_iff.1 hZ0_0).1); clear hb) | (go_at_call 23; have hc_ := toPacket_sh _ q x0 ((hRp.kept (HB_.out.trans (hx0.mono HB_.out.size)) (Nat.le_refl _)).le (HB_.out.trans (hx0.mono HB_.out.size)).size) hB8 hql; with_reducible refine hc_.mono ?_; clear hc_; rintro e x1 ⟨v3, rfl, in3, hb⟩; have hp1 : Below x0.heap.size x0 x1 := hb; have sp1 : x0.heap.size ≤ x1.heap.size := hp1.size; have hx1 : Below w19.heap.size w19 x1 := hx0.trans (hp1.mono hx0.size); have k1_0 := bC hx1 bxac0 hk_bxa; have k1_1 := bC hx1 bxac1 hk_bxa; have k1_2 := bC hx1 bxac2 hk_bxa; have k1_3 := bC hx1 bxac3 hk_bxa; have k1_4 := bC hx1 bxac4 hk_bxa; have k1_5 := bC hx1 bxac5 hk_bxa; have k1_6 := bC hx1 bxac6 hk_bxa; have k1_7 := bC hx1 bxpc0 hk_bxp; have k1_8 := bC hx1 bxpc1 hk_bxp; have k1_9 := bC hx1 bxpc2 hk_bxp; have k1_10 := bC hx1 bxpc3 hk_bxp; have k1_11 := bC hx1 bxpc4 hk_bxp; (try have hZ1_0 := (hp1.block _ (Array.getElem?_eq_some_iff.1 hZ0_0).1).trans hZ0_0); (try have hzl1_0 := (Array.getElem?_eq_some_iff.1 hZ1_0).1); (try have hzl1_1 := (Array.getElem?_eq_some_iff.1 hZ1_1).1); have rdb := in2.step (Stp.of (lo := 0) (hi := 0) hp1) (.inl (Nat.zero_le _)); clear hb) | (go_at_call 23; have hc_ := toPacket_sh _ q (x0.alloc (.cells #[.int .i64 0, .int .i64 0, .int .i64 0, .int .i64 0, .slice none 0 0, .slice none 0 0, .int .i64 0, .int .i64 0] 76)) ((hRp.kept ((HB_.out.trans (hx0.mono HB_.out.size)).alloc (HB_.out.trans (hx0.mono HB_.out.size)).size _) (Nat.le_refl _)).le (Nat.le_trans (HB_.out.trans (hx0.mono HB_.out.size)).size (by simp))) hB8 hql; with_reducible refine hc_.mono ?_; clear hc_; rintro e x1 ⟨v3, rfl, in3, hb⟩; have hp1 : Below x0.heap.size x0 x1 := Below.trans (show Below x0.heap.size x0 (x0.alloc (.cells #[.int .i64 0, .int .i64 0, .int .i64 0, .int .i64 0, .slice none 0 0, .slice none 0 0, .int .i64 0, .int .i64 0] 76)) from ((Below.refl _ _).alloc (Nat.le_refl _) _)) (hb.mono (by simp)); have sp1 : x0.heap.size ≤ x1.heap.size := hp1.size; have hx1 : Below w19.heap.size w19 x1 := hx0.trans (hp1.mono hx0.size); have k1_0 := bC hx1 bxac0 hk_bxa; have k1_1 := bC hx1 bxac1 hk_bxa; have k1_2 := bC hx1 bxac2 hk_bxa; have k1_3 := bC hx1 bxac3 hk_bxa; have k1_4 := bC hx1 bxac4 hk_bxa; have k1_5 := bC hx1 bxac5 hk_bxa; have k1_6 := bC hx1 bxac6 hk_bxa; have k1_7 := bC hx1 bxpc0 hk_bxp; have k1_8 := bC hx1 bxpc1 hk_bxp; have k1_9 := bC hx1 bxpc2 hk_bxp; have k1_10 := bC hx1 bxpc3 hk_bxp; have k1_11 := bC hx1 bxpc4 hk_bxp; (try have hZ1_0 := (hp1.block _ (Array.getElem?_eq_some_iff.1 hZ0_0).1).trans hZ0_0); have hZ1_1 : x1.heap[x0.heap.size]? = some (.cells #[.int .i64 0, .int .i64 0, .int .i64 0, .int .i64 0, .slice none 0 0, .slice none 0 0, .int .i64 0, .int .i64 0] 76 (0, 0)) := (box_newC hb); (try have hzl1_0 := (Array.getElem?_eq_some_iff.1 hZ1_0).1); (try have hzl1_1 := (Array.getElem?_eq_some_iff.1 hZ1_1).1); have rdb := in2.step (Stp.of (lo := 0) (hi := 0) hp1) (.inl (Nat.zero_le _)); clear hb) | (go_at_call 31; have hc_ := HI.out _ _ _ x1 rdb (by omega) _ _ _ in3 (Nat.le_refl _); with_reducible refine hc_.mono ?_; clear hc_; rintro e x2 ⟨vh, rfl, inh, hb⟩; have hp2 : Below x1.heap.size x1 x2 := hb; have sp2 : x1.heap.size ≤ x2.heap.size := hp2.size; have hx2 : Below w19.heap.size w19 x2 := hx1.trans (hp2.mono hx1.size); have k2_0 := bC hx2 bxac0 hk_bxa; have k2_1 := bC hx2 bxac1 hk_bxa; have k2_2 := bC hx2 bxac2 hk_bxa; have k2_3 := bC hx2 bxac3 hk_bxa; have k2_4 := bC hx2 bxac4 hk_bxa; have k2_5 := bC hx2 bxac5 hk_bxa; have k2_6 := bC hx2 bxac6 hk_bxa; have k2_7 := bC hx2 bxpc0 hk_bxp; have k2_8 := bC hx2 bxpc1 hk_bxp; have k2_9 := bC hx2 bxpc2 hk_bxp; have k2_10 := bC hx2 bxpc3 hk_bxp; have k2_11 := bC hx2 bxpc4 hk_bxp; (try have hZ2_0 := (hp2.block _ (Array.getElem?_eq_some_iff.1 hZ1_0).1).trans hZ1_0); (try have hZ2_1 := (hp2.block _ (Array.getElem?_eq_some_iff.1 hZ1_1).1).trans hZ1_1); (try have hzl2_0 := (Array.getElem?_eq_some_iff.1 hZ2_0).1); (try have hzl2_1 := (Array.getElem?_eq_some_iff.1 hZ2_1).1); (try have hzl2_2 := (Array.getElem?_eq_some_iff.1 hZ2_2).1); obtain ⟨oh, ch, ogh, cgh, hve⟩ := inh.opn; subst hve; (try (have hq9 := cells8 hZ2_0; obtain ⟨hzc0_0, hzc0_1, hzc0_2, hzc0_3, hzc0_4, hzc0_5, hzc0_6, hzc0_7, hzf0_0, hzf0_1, hzf0_2, hzf0_3, hzf0_4, hzf0_5, hzf0_6, hzf0_7⟩ := hq9)); (try (have hq9 := cells8 hZ2_1; obtain ⟨hzc1_0, hzc1_1, hzc1_2, hzc1_3, hzc1_4, hzc1_5, hzc1_6, hzc1_7, hzf1_0, hzf1_1, hzf1_2, hzf1_3, hzf1_4, hzf1_5, hzf1_6, hzf1_7⟩ := hq9)); (try (have hq9 := cells8 hZ2_2; obtain ⟨hzc2_0, hzc2_1, hzc2_2, hzc2_3, hzc2_4, hzc2_5, hzc2_6, hzc2_7, hzf2_0, hzf2_1, hzf2_2, hzf2_3, hzf2_4, hzf2_5, hzf2_6, hzf2_7⟩ := hq9)); clear hb) | (go_at_call 31; have hc_ := HI.out _ _ _ (x1.alloc (.cells #[.int .i64 0, .int .i64 0, .int .i64 0, .int .i64 0, .slice none 0 0, .slice none 0 0, .int .i64 0, .int .i64 0] 76)) (rdb.step (Stp.of (lo := 0) (hi := 0) ((Below.refl _ _).alloc (Nat.le_refl _) _)) (.inl (Nat.zero_le _))) (by simp; omega) _ _ _ (in3.step (Stp.of (lo := 0) (hi := 0) ((Below.refl _ _).alloc (Nat.le_refl _) _)) (.inl (Nat.zero_le _))) (by simp); with_reducible refine hc_.mono ?_; clear hc_; rintro e x2 ⟨vh, rfl, inh, hb⟩; have hp2 : Below x1.heap.size x1 x2 := Below.trans (show Below x1.heap.size x1 (x1.alloc (.cells #[.int .i64 0, .int .i64 0, .int .i64 0, .int .i64 0, .slice none 0 0, .slice none 0 0, .int .i64 0, .int .i64 0] 76)) from ((Below.refl _ _).alloc (Nat.le_refl _) _)) (hb.mono (by simp)); have sp2 : x1.heap.size ≤ x2.heap.size := hp2.size; have hx2 : Below w19.heap.size w19 x2 := hx1.trans (hp2.mono hx1.size); have k2_0 := bC hx2 bxac0 hk_bxa; have k2_1 := bC hx2 bxac1 hk_bxa; have k2_2 := bC hx2 bxac2 hk_bxa; have k2_3 := bC hx2 bxac3 hk_bxa; have k2_4 := bC hx2 bxac4 hk_bxa; have k2_5 := bC hx2 bxac5 hk_bxa; have k2_6 := bC hx2 bxac6 hk_bxa; have k2_7 := bC hx2 bxpc0 hk_bxp; have k2_8 := bC hx2 bxpc1 hk_bxp; have k2_9 := bC hx2 bxpc2 hk_bxp; have k2_10 := bC hx2 bxpc3 hk_bxp; have k2_11 := bC hx2 bxpc4 hk_bxp; (try have hZ2_0 := (hp2.block _ (Array.getElem?_eq_some_iff.1 hZ1_0).1).trans hZ1_0); (try have hZ2_1 := (hp2.block _ (Array.getElem?_eq_some_iff.1 hZ1_1).1).trans hZ1_1); have hZ2_2 : x2.heap[x1.heap.size]? = some (.cells #[.int .i64 0, .int .i64 0, .int .i64 0, .int .i64 0, .slice none 0 0, .slice none 0 0, .int .i64 0, .int .i64 0] 76 (0, 0)) := (box_newC hb); (try have hzl2_0 := (Array.getElem?_eq_some_iff.1 hZ2_0).1); (try have hzl2_1 := (Array.getElem?_eq_some_iff.1 hZ2_1).1); (try have hzl2_2 := (Array.getElem?_eq_some_iff.1 hZ2_2).1); obtain ⟨oh, ch, ogh, cgh, hve⟩ := inh.opn; subst hve; (try (have hq9 := cells8 hZ2_0; obtain ⟨hzc0_0, hzc0_1, hzc0_2, hzc0_3, hzc0_4, hzc0_5, hzc0_6, hzc0_7, hzf0_0, hzf0_1, hzf0_2, hzf0_3, hzf0_4, hzf0_5, hzf0_6, hzf0_7⟩ := hq9)); (try (have hq9 := cells8 hZ2_1; obtain ⟨hzc1_0, hzc1_1, hzc1_2, hzc1_3, hzc1_4, hzc1_5, hzc1_6, hzc1_7, hzf1_0, hzf1_1, hzf1_2, hzf1_3, hzf1_4, hzf1_5, hzf1_6, hzf1_7⟩ := hq9)); (try (have hq9 := cells8 hZ2_2; obtain ⟨hzc2_0, hzc2_1, hzc2_2, hzc2_3, hzc2_4, hzc2_5, hzc2_6, hzc2_7, hzf2_0, hzf2_1, hzf2_2, hzf2_3, hzf2_4, hzf2_5, hzf2_6, hzf2_7⟩ := hq9)); clear hb))
    all_goals (go_wp2_with fail; go_meet)
    all_goals first
     | with_reducible exact finCar hZ2_0 hx2 (by omega) inh (by (try simp) <;> omega) (Nat.le_refl _) (by (try simp) <;> omega)
     | with_reducible exact finCar hZ2_1 hx2 (by omega) inh (by (try simp) <;> omega) (Nat.le_refl _) (by (try simp) <;> omega)
     | with_reducible exact finCar hZ2_2 hx2 (by omega) inh (by (try simp) <;> omega) (Nat.le_refl _) (by (try simp) <;> omega)
     | with_reducible exact finCarn hx2 inh (by (try simp) <;> omega) (Nat.le_refl _)
   case rest =>
   obtain ⟨Bh, loh, hih, oh, ch, ogh, cgh, rfl, rfl, Hbx_, Hbl_, hB1_h, hB2_h, Hin_, hl1_h, hl2_h, hl3_h⟩ := hcut
   have bxh := Hbx_.out
   have hbl_ := Hbl_.out
   clear Hbx_ Hbl_
   have inh := Hin_.out
   clear Hin_
   clear bxac0 bxac1 bxac2 bxac3 bxac4 bxac5 bxac6
   clear bxpc0 bxpc1 bxpc2 bxpc3 bxpc4
   replace bxa := bxa.out
   replace bxp := bxp.out
   replace bxw := bxw.out
   replace inw := inw.out
   replace ing := ing.out
   replace bxg := bxg.out
   have B_w19 := HB_.out
   clear HB_
   obtain ⟨w20, hwc⟩ : ∃ W, W = wc := ⟨_, rfl⟩
   subst hwc
   replace bxa := (hbl_.block _ (by omega)).trans bxa
   replace bxp := (hbl_.block _ (by omega)).trans bxp
   replace bxw := (hbl_.block _ (by omega)).trans bxw
   replace inw := inw.step (Stp.of (lo := 0) (hi := 0) hbl_) (.inl (Nat.zero_le _))
   replace ing := ing.step (Stp.of (lo := 0) (hi := 0) hbl_) (.inl (Nat.zero_le _))
   replace bxg := (hbl_.block _ (by omega)).trans bxg
   have B_w20 : Below w.heap.size w w20 := B_w19.trans (hbl_.mono B_w19.size)
   have hs_w20 : w19.heap.size ≤ w20.heap.size := hbl_.size
   clear hbl_ B_w19
   obtain ⟨bxhc0, bxhc1, bxhc2, bxhc3, bxhc4, bxhc5, bxhc6, bxhc7⟩ := cellsN8 bxh
   obtain ⟨bxwc0, bxwc1, bxwc2, bxwc3, bxwc4, bxwc5, bxwc6, bxwc7⟩ := cellsN8 bxw
   replace bxa := hide bxa
   replace bxp := hide bxp
   replace bxw := hide bxw
   replace inw := hide inw
   replace ing := hide ing
   replace bxg := hide bxg
   replace bxh := hide bxh
   replace inh := hide inh
   have HB_ := hide B_w20
   clear B_w20
   go_wp2_with fail
   clear bxhc0 bxhc1 bxhc2 bxhc3 bxhc4 bxhc5 bxhc6 bxhc7
   clear bxwc0 bxwc1 bxwc2 bxwc3 bxwc4 bxwc5 bxwc6 bxwc7
   replace bxa := bxa.out
   replace bxp := bxp.out
   replace bxw := bxw.out
   replace inw := inw.out
   replace ing := ing.out
   replace bxg := bxg.out
   replace bxh := bxh.out
   replace inh := inh.out
   have B_w20 := HB_.out
   clear HB_
   refine (eqCarrier_sh _ _ mr w20 (inh.rd.le (by omega)) (inw.rd.le (by omega)) hmr.1 hmr.2).mono ?_
   rintro e w21 ⟨rfl, hb_w21⟩
   replace bxa := (hb_w21.block _ (by omega)).trans bxa
   replace bxp := (hb_w21.block _ (by omega)).trans bxp
   replace bxw := (hb_w21.block _ (by omega)).trans bxw
   replace inw := inw.step (Stp.of (lo := 0) (hi := 0) hb_w21) (.inl (Nat.zero_le _))
   replace ing := ing.step (Stp.of (lo := 0) (hi := 0) hb_w21) (.inl (Nat.zero_le _))
   replace bxg := (hb_w21.block _ (by omega)).trans bxg
   replace bxh := (hb_w21.block _ (by omega)).trans bxh
   replace inh := inh.step (Stp.of (lo := 0) (hi := 0) hb_w21) (.inl (Nat.zero_le _))
   have B_w21 : Below w.heap.size w w21 := B_w20.trans (hb_w21.mono B_w20.size)
   have hs_w21 : w20.heap.size ≤ w21.heap.size := hb_w21.size
   clear hb_w21 B_w20
   clear inh
   clear bxh
   obtain ⟨bxgc0, bxgc1, bxgc2, bxgc3, bxgc4, bxgc5, bxgc6, bxgc7⟩ := cellsN8 bxg
   replace bxa := hide bxa
   replace bxp := hide bxp
   replace bxw := hide bxw
   replace inw := hide inw
   replace ing := hide ing
   replace bxg := hide bxg
   have HB_ := hide B_w21
   clear B_w21
   go_wp2_with fail
   clear bxgc0 bxgc1 bxgc2 bxgc3 bxgc4 bxgc5 bxgc6 bxgc7
   replace bxa := bxa.out
   replace bxp := bxp.out
   replace bxw := bxw.out
   replace inw := inw.out
   replace ing := ing.out
   replace bxg := bxg.out
   have B_w21 := HB_.out
   clear HB_
   refine (heldCarrier_sh _ mr 1 w21 (ing.rd.le (by omega)) (by omega) (by omega) hmr.1 hmr.2).mono ?_
   rintro e w22 ⟨rfl, hb_w22⟩
   replace bxa := (hb_w22.block _ (by omega)).trans bxa
   replace bxp := (hb_w22.block _ (by omega)).trans bxp
   replace bxw := (hb_w22.block _ (by omega)).trans bxw
   replace inw := inw.step (Stp.of (lo := 0) (hi := 0) hb_w22) (.inl (Nat.zero_le _))
   replace ing := ing.step (Stp.of (lo := 0) (hi := 0) hb_w22) (.inl (Nat.zero_le _))
   replace bxg := (hb_w22.block _ (by omega)).trans bxg
   have B_w22 : Below w.heap.size w w22 := B_w21.trans (hb_w22.mono B_w21.size)
   have hs_w22 : w21.heap.size ≤ w22.heap.size := hb_w22.size
   clear hb_w22 B_w21
   replace bxa := hide bxa
   replace bxp := hide bxp
   replace bxw := hide bxw
   replace inw := hide inw
   replace ing := hide ing
   replace bxg := hide bxg
   have HB_ := hide B_w22
   clear B_w22
   go_wp2
   go_ret
   exact ⟨rfl, HB_.out⟩

theorem walkFnExactSend (v : Value) (m : Bm) (now a b f s : Int) (o : Option Addr) (cap : Nat) (l : List Int) (w : World) (hR : RdBm w.heap.size w v m) (hl : lenBm m) (hm : l.length ≤ maxLen) (hRp : Rd w o l) (hB8 : isB l) :
  Calls Tryz.prog 6 #[v, .int .i64 now, pkt a b f s (.slice o l.length cap)] w fun e w' => e = .returned (.bool true) ∧ Below w.heap.size w w' := lawFnExactSend v m now _ ⟨a, b, f, s, l⟩ w hR hl (RdPk.mk hRp) hm hB8

set_option maxRecDepth 100000 in
theorem fnExactSend_lifted (os : Os) (started : os.Started) (H : Type) (enc : TypeId × Value → H) :
  ReturnsInHanded {} Tryz.checked os 6 .any (Rows.fnExactSendSpec.pre6 enc Tryz.prog Tryz.f6 Rows.fnExactSendRow.domain false) (Rows.fnExactSendSpec.post enc Tryz.prog Tryz.f6 false true false false) := by
 refine returnsInHanded_of_change (C := Tryz.checked) own started (by kernel_rfl) Tryz.func6
  (ChangeSpec.witness6 (enc := enc) (C := Tryz.checked) false ⟨#[], #[.agg #[.int .i64 0, .slice none 0 0, .int .i64 0, .int .i64 0, .slice none 0 0, .slice none 0 0, .slice none 0 0], .int .i64 0, .agg #[.int .i64 0, .int .i64 0, .int .i64 0, .int .i64 0, .slice none 0 0]], []⟩ 8 (by kernel_rfl) (by kernel_rfl) (by kernel_rfl) (by kernel_rfl)) ?_
 intro W base args ds gs before hval0 hW hcnd _
 have hval : ∀ (j : Nat) t v, Tryz.f6.params[j]? = some t → args[j]? = some v → Value.okWide Tryz.prog W .any base t v := hval0
 have hW' := hW
 obtain ⟨p, q, hA0, hV, rfl, hfz, hnd⟩ := hW
 have hA : DataW.TrodAll enc Tryz.prog W 0 (fun _ => true) true Tryz.f6.params.toList args.toList ds p := hA0
 rw [Tryz.params6] at hA hval
 obtain ⟨v0, vs0, d0, ds0, p0, q0, hargs, rfl, rfl, h0, r0⟩ := trodAll_cons hA
 obtain ⟨v1, vs1, d1, ds1, p1, q1, rfl, rfl, rfl, h1, r1⟩ := trodAll_cons r0
 obtain ⟨v2, vs2, d2, ds2, p2, q2, rfl, rfl, rfl, h2, r2⟩ := trodAll_cons r1
 obtain ⟨rfl, rfl, rfl⟩ := trodAll_nil r2
 obtain rfl : args = #[v0, v1, v2] := by cases args; simp_all
 obtain ⟨rfl, rfl⟩ := trodVars_none hV
 have k0 := h0
 have lt0 : ∀ x ∈ p0, x.block < W.heap.size := by obtain ⟨m, hm⟩ := k0; exact DataW.trod_lt m _ _ _ hm
 have k1 := h1
 have lt1 : ∀ x ∈ p1, x.block < W.heap.size := by obtain ⟨m, hm⟩ := k1; exact DataW.trod_lt m _ _ _ hm
 have k2 := h2
 have lt2 : ∀ x ∈ p2, x.block < W.heap.size := by obtain ⟨m, hm⟩ := k2; exact DataW.trod_lt m _ _ _ hm
 obtain ⟨m0, hR0, hl0⟩ := open_bal (hval 0 33 v0 rfl rfl) h0
 obtain ⟨a1, rfl, _, _, w1⟩ := open_int Tryz.underlying3 (hval 1 3 v1 rfl rfl) h1
 obtain ⟨a2, b2, f2, s2, o2, cap2, l2, rfl, hm2, hR2, hB82⟩ := open_packet (hval 2 62 v2 rfl rfl) h2
 clear hA0 hval0
 refine (walkFnExactSend v0 m0 a1 a2 b2 f2 s2 o2 cap2 l2 W hR0 hl0  hm2 hR2 hB82 ).mono fun e W' ⟨he, bel⟩ => ?_
 subst he
 exact ⟨_, rfl, _, _, _, [], _, [], hW', trodAll_mk1 (shut_bool Tryz.underlying4 _), (trodAll_cons_mk (Below.trod laidOut (by kernel_rfl) (of_decide_eq_true (by kernel_rfl)) k0 bel lt0) (trodAll_cons_mk (Below.trod laidOut (by kernel_rfl) (of_decide_eq_true (by kernel_rfl)) k1 bel lt1) (trodAll_cons_mk (Below.trod laidOut (by kernel_rfl) (of_decide_eq_true (by kernel_rfl)) k2 bel lt2) trodAll_mk0))), rfl, bel.frame _, fun h => by cases h⟩

theorem fnExactSend_over : Rows.fnExactSendRow.holds Tryz.pinned (OpenSpec.ofChange Rows.fnExactSendSpec) :=
 OpenClaim.holds_of_wide 6 Tryz.f6 rfl rfl rfl rfl rfl rfl rfl ⟨rfl, rfl, rfl, rfl, rfl⟩ rfl rfl rfl rfl rfl (by kernel_rfl) Tryz.func6 (by kernel_rfl)
  (of_decide_eq_true (by kernel_rfl)) (by unfold Func.isWrapper; first | (rw [if_pos (by decide +kernel)]; kernel_rfl) | (rw [if_neg (by decide +kernel)]; exact ⟨rfl, rfl⟩))
  (fun os started H enc _ => fnExactSend_lifted os started H enc)

theorem fnExactSend_holds : Rows.FnExactSendSaid := fnExactSend_over

end Go.Proofs.YtajfkcpifnpkeaaGreat

