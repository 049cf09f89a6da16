/- PacketBytes on both sides: a plain function, and the contracts. -/
import Derived.Deep.RegionHeld3
import Derived.Test.YtoeoiljddcjphaaDoorQCarriers09
import Derived.Test.YtoeoiljddcjphaaDoorQCarriers04
import Derived.Test.YtoeoiljddcjphaaDoorQCarriers02
import Derived.Test.YtoeoiljddcjphaaDoorQCarriers05
namespace Go.Proofs.YtoeoiljddcjphaaDoor
open Go.ChangeShapes Go.WideShapes Go.ChangeAt Go.RowKit Go.Joins
set_option linter.unusedVariables false
set_option linter.unusedSimpArgs false

def preL (a b f s : Int) (l : List Int) : List Int := wordL a ++ wordL b ++ wordL s ++ [f, (l.length : Int), 0, 0] ++ l
def packetL (a b f s : Int) (l : List Int) : List Int := ((preL a b f s l).set 8 (checkL (preL a b f s l) / 256)).set 9 (checkL (preL a b f s l) % 256)
theorem preL_length (a b f s : Int) (l : List Int) : (preL a b f s l).length = 10 + l.length := by simp [preL, wordL]; omega

theorem preL_isB {a b f s : Int} {l : List Int} (h : isB l) (hl : l.length ≤ 16) (ha : 0 ≤ a ∧ a < 65536) (hb : 0 ≤ b ∧ b < 65536) (hf : 0 ≤ f ∧ f < 16) (hs : 0 ≤ s ∧ s < 65536) : isB (preL a b f s l) := by
 intro n hn
 simp only [preL, wordL, List.mem_append, List.mem_cons, List.not_mem_nil, or_false] at hn
 rcases hn with ((((h1 | h1) | (h1 | h1)) | (h1 | h1)) | (h1 | h1 | h1 | h1)) | h1
 all_goals first | exact h n h1 | omega
/-- Two stores into a row of the call's own. -/
theorem ownB.two {w : World} {base g c : Nat} {L : List Int} (h : ownB w base (.slice (some ⟨g, 0, none⟩) L.length c) L) (i j : Nat) (x y : Int) :
  ownB ((w.setCell ⟨g, i, none⟩ (.int .u8 x)).setCell ⟨g, j, none⟩ (.int .u8 y)) base (.slice (some ⟨g, 0, none⟩) L.length c) ((L.set i x).set j y) := by
 have h1 := (h.stored i (.int .u8 x)).1
 have h2 := (h1.stored j (.int .u8 y)).1
 unfold ownB
 rw [List.map_set, List.map_set]
 simpa using h2
theorem ownB.cell {w : World} {base g c : Nat} {L : List Int} (h : ownB w base (.slice (some ⟨g, 0, none⟩) L.length c) L) (i : Nat) (hi : i < L.length) : w.cell? ⟨g, i, none⟩ = some (.int .u8 (L.getD i 0)) := by
 rw [h.cellAt i (by omega)]; simp [hi]

set_option maxHeartbeats 2000000 in
theorem l1bytes_any (a b f s : Int) (o : Option Addr) (cap : Nat) (l : List Int) (w : World) (hR : Rd w o l) (hn : o = none → cap = 0) (hB8 : isB l) (hl : l.length ≤ 16) (ha : 0 ≤ a ∧ a < 65536) (hb : 0 ≤ b ∧ b < 65536) (hf : 0 ≤ f ∧ f < 16) (hs : 0 ≤ s ∧ s < 65536) :
  Calls Tryd.prog 72 #[pkt a b f s (.slice o l.length cap)] w fun e w' => ∃ v, e = .returned v ∧ ownB w' w.heap.size v (packetL a b f s l) ∧ Below w.heap.size w w' := by
 obtain ⟨i0, hi, hz0, hz1, hz2⟩ := info_parts infoU8
 have hbx := boxed_new w a b f s (.slice o l.length cap) 26
 go_enter Tryd.func72, Tryd.ntmps72
 go_wp2
 generalize hw0 : w.alloc (.cells #[.int .i64 a, .int .i64 b, .int .i64 f, .int .i64 s, .slice o l.length cap] 26) = w0 at *
 have hsz : w0.heap.size = w.heap.size + 1 := by rw [← hw0]; simp
 have hB : Below w.heap.size w w0 := by rw [← hw0]; exact (Below.refl _ _).alloc (Nat.le_refl _) _
 have H0 := hide hw0
 clear hw0
 obtain ⟨x0, x1, x2, x3, x4⟩ := hbx
 go_region_held3 (fun w' => w'.cell? ⟨w.heap.size, 0, none⟩ = some (.int .i64 a) ∧ w'.cell? ⟨w.heap.size, 1, none⟩ = some (.int .i64 b) ∧ w'.cell? ⟨w.heap.size, 3, none⟩ = some (.int .i64 s)) (first | (simp [*]; done) | go_keep)
  (first | (go_at_call_of 88 (Value.slice none 0 0); refine (l1two_any (w.heap.size + 1) (.slice none 0 0) [] a _ (World.ownsRow_nil _ _ _ _) (by simp [hsz]) ha.1 ha.2 (by simp [wordL])).mono ?_; rintro e wp ⟨vp, rfl, hvp, hbp⟩; have p0 := (hbp.cell (p := ⟨w.heap.size, 0, none⟩) (Nat.lt_succ_self _)).trans x0; have p1 := (hbp.cell (p := ⟨w.heap.size, 1, none⟩) (Nat.lt_succ_self _)).trans x1; have p2 := (hbp.cell (p := ⟨w.heap.size, 2, none⟩) (Nat.lt_succ_self _)).trans x2; have p3 := (hbp.cell (p := ⟨w.heap.size, 3, none⟩) (Nat.lt_succ_self _)).trans x3; have p4 := (hbp.cell (p := ⟨w.heap.size, 4, none⟩) (Nat.lt_succ_self _)).trans x4) | (go_at_call_of 88 (vp); refine (l1two_any (w.heap.size + 1) vp _ b _ hvp (by have := hbp.size; (try simp [hsz] at this); (try simp [hsz]); omega) hb.1 hb.2 (by simp [wordL])).mono ?_; rintro e wq ⟨vq, rfl, hvq, hbq⟩; have q0 := (hbq.cell (p := ⟨w.heap.size, 0, none⟩) (Nat.lt_succ_self _)).trans p0; have q1 := (hbq.cell (p := ⟨w.heap.size, 1, none⟩) (Nat.lt_succ_self _)).trans p1; have q2 := (hbq.cell (p := ⟨w.heap.size, 2, none⟩) (Nat.lt_succ_self _)).trans p2; have q3 := (hbq.cell (p := ⟨w.heap.size, 3, none⟩) (Nat.lt_succ_self _)).trans p3; have q4 := (hbq.cell (p := ⟨w.heap.size, 4, none⟩) (Nat.lt_succ_self _)).trans p4) | (go_at_call_of 88 (vq); refine (l1two_any (w.heap.size + 1) vq _ s _ hvq (by have := hbp.size; have := hbq.size; (try simp [hsz] at *); omega) hs.1 hs.2 (by simp [wordL])).mono ?_; rintro e wr ⟨vr, rfl, hvr, hbr⟩; have r0 := (hbr.cell (p := ⟨w.heap.size, 0, none⟩) (Nat.lt_succ_self _)).trans q0; have r1 := (hbr.cell (p := ⟨w.heap.size, 1, none⟩) (Nat.lt_succ_self _)).trans q1; have r2 := (hbr.cell (p := ⟨w.heap.size, 2, none⟩) (Nat.lt_succ_self _)).trans q2; have r3 := (hbr.cell (p := ⟨w.heap.size, 3, none⟩) (Nat.lt_succ_self _)).trans q3; have r4 := (hbr.cell (p := ⟨w.heap.size, 4, none⟩) (Nat.lt_succ_self _)).trans q4))
 have hBr : Below (w.heap.size + 1) w0 wr := by
  refine Below.trans (Below.trans (Below.trans ?_ hbp) hbq) hbr
  exact Below.drew (Below.refl _ _)
 have hszr : w.heap.size + 1 ≤ wr.heap.size := by have := hBr.size; omega
 have hvr' : ownB wr (w.heap.size + 1) vr (wordL a ++ wordL b ++ wordL s) := by simpa using hvr
 clear hbp hbq hbr hvp hvq hvr p0 p1 p2 p3 p4 q0 q1 q2 q3 q4 x0 x1 x2 x3 x4
 have hll : (0 : Int) ≤ (l.length : Int) ∧ (l.length : Int) ≤ 16 := by omega
 go_wp2_with (at_builtin; refine wpList_append_own _ rfl (.tmp 16) (.tmp 24) 22 rfl (w.heap.size + 1) 5 i0 (.int .u8 0) 1 1 Tryd.underlying22 hi hz0 hz1 hz2 rfl (by decide) vr _ _ rfl (hvr'.alloc _) ⟨wr.heap.size, 0, none⟩ 4 4 [.int .u8 f, .int .u8 (l.length : Int), .int .u8 0, .int .u8 0] rfl rfl ?c1 ?c2 ?c3 ?c4 ?c5 ?_)
 case c1 => exact cells_new wr #[.int .u8 f, .int .u8 (l.length : Int), .int .u8 0, .int .u8 0] 5
 case c2 => exact ints_oneCell .u8 [f, (l.length : Int), 0, 0]
 case c3 => unfold maxLen; simp [wordL]
 case c4 => simp [wordL]
 case c5 => simp; omega
 intro v4 w4 hown4 hgrow4 _
 have hv4 : ownB w4 (w.heap.size + 1) v4 (wordL a ++ wordL b ++ wordL s ++ [f, (l.length : Int), 0, 0]) := by unfold ownB; simpa [wordL] using hown4
 have hB4 : Below (w.heap.size + 1) wr w4 := (Below.refl _ _).grown ((World.grownBy_alloc wr _ _).trans hgrow4) hszr (fun k h => (hvr'.lt k h).1)
 have b4 := (hB4.cell (p := ⟨w.heap.size, 4, none⟩) (Nat.lt_succ_self _)).trans r4
 have hB0 : Below (w.heap.size + 1) w0 w4 := hBr.trans hB4
 have hsz4 : w.heap.size + 1 ≤ w4.heap.size := by have := hB0.size; omega
 have hR4 : Rd w4 o l := hR.kept (hB.trans (hB0.mono (Nat.le_succ _)))
 clear hown4 hgrow4 hvr' r0 r1 r2 r3 r4 hB4 hBr hszr
 go_wp2_with (at_builtin; refine wpList_append_bytes rfl (.tmp 26) (.tmp 28) rfl (w.heap.size + 1) v4 _ rfl hv4 o cap l rfl hn hR4 ?d1 hsz4 ?_)
 case d1 => simp [wordL]; omega
 intro v5 w5 hown5 hgrow5 hB5
 have hv5 : ownB w5 (w.heap.size + 1) v5 (preL a b f s l) := hown5
 have hBB : Below (w.heap.size + 1) w0 w5 := hB0.trans hB5
 obtain ⟨g, c5, hv5e, hg5⟩ := ownB.pos hv5 (by rw [preL_length]; omega)
 have hlen5 := preL_length a b f s l
 have HPK := hide (show packetL a b f s l = ((preL a b f s l).set 8 (checkL (preL a b f s l) / 256)).set 9 (checkL (preL a b f s l) % 256) from rfl)
 have hL8 := preL_isB hB8 hl ha hb hf hs
 clear hown5 hgrow5 hB5 hB0 hv4 hR4 b4
 rw [hv5e] at hv5 ⊢
 generalize preL a b f s l = L at *
 have c8 := hv5.cell 8 (by omega)
 have c9 := hv5.cell 9 (by omega)
 have f8 := hv5.frozenAt 8
 have f9 := hv5.frozenAt 9
 have hcl : 0 ≤ checkL L ∧ checkL L ≤ 65535 := by have := sumTo_bd hL8 ((L.length + 1) / 2); unfold checkL; omega
 have h2 := hide (hv5.two 8 9 (checkL L / 256) (checkL L % 256))
 have hr := hide hv5.rd
 have hi8 : (8 : Int) < (L.length : Int) := by omega
 have hi9 : (9 : Int) < (L.length : Int) := by omega
 have hLn : L.length ≤ 1048576 := by omega
 clear hv5 hlen5
 generalize hg1 : L.getD 8 0 = u8 at *
 generalize hg2 : L.getD 9 0 = u9 at *
 clear hg1 hg2
 go_wp2_with (go_at_call 89; refine (l1sum_any _ _ L _ hr.out hL8 hLn).mono ?_; rintro e w6 ⟨rfl, rfl⟩)
 go_ret
 refine ⟨_, rfl, ?_, ?_⟩
 ·rw [HPK.out]
  exact own_mono h2.out (Nat.le_succ _)
 ·exact ((hB.trans (hBB.mono (Nat.le_succ _))).setCell (Nat.le_trans (Nat.le_succ _) hg5) _).setCell (Nat.le_trans (Nat.le_succ _) hg5) _

set_option maxHeartbeats 2000000 in
theorem implPacketBytes_yes (a b f s : Int) (o : Option Addr) (cap : Nat) (l : List Int) (w : World) (hR : Rd w o l) (hn : o = none → cap = 0) (hB8 : isB l) (hl : l.length ≤ 16) (ha : 0 ≤ a ∧ a < 65536) (hb : 0 ≤ b ∧ b < 65536) (hf : 0 ≤ f ∧ f < 16) (hs : 0 ≤ s ∧ s < 65536)
  (hok : packetOkB a b f s l.length = true) :
  Calls Tryd.prog 25 #[pkt a b f s (.slice o l.length cap)] w fun e w' => ∃ v, e = .returned (.tuple #[v, .bool true]) ∧ ownB w' w.heap.size v (packetL a b f s l) ∧ Below w.heap.size w w' := by
 obtain ⟨i0, hi, hz0, hz1, hz2⟩ := info_parts infoU8
 have hB : Below w.heap.size w w := Below.refl _ _
 have hml : l.length ≤ maxLen := by unfold maxLen; omega
 have hck := fun w => hok ▸ implPacketOk_any a b f s o l.length cap w hml
 have hbx := hide (boxed_new w a b f s (.slice o l.length cap) 26)
 go_enter Tryd.func25, Tryd.ntmps25
 go_wp2_with fail; go_at_call 31; refine (hck _).mono ?_; rintro e w1a ⟨rfl, hba⟩; obtain ⟨hca, hfa⟩ := bcell hba; have hz0a : w.heap.size < w1a.heap.size := (by have hz := hba.size; (try simp at hz); omega); have hB : Below w.heap.size w w1a := (by refine Below.trans ?_ (hba.mono (by have hs := hB.size; (try simp) <;> omega)); (repeat (first | with_reducible exact hB | with_reducible exact Below.refl _ _ | with_reducible refine Below.drew ?_ | with_reducible refine below_drewN ?_ _ | with_reducible refine Below.alloc ?_ ?_ _ | with_reducible refine Below.setCell ?_ ?_ _ | (focus (simp; done)) | (focus (simp; omega)) | omega)))
 have hba : boxed w.heap.size a b f s (.slice o l.length cap) w1a := hbx.out.kept hba (by simp)
 obtain ⟨x0, x1, x2, x3, x4⟩ := hba
 clear hca hfa hbx
 go_wp2_with (at_make; refine wpList_make_own _ rfl _ _ 22 rfl w1a.heap.size 5 i0 (.int .u8 0) 1 Tryd.underlying22 hi hz0 hz1 _ _ _ 26 rfl rfl (by omega) ?b2 ?b3 (Nat.le_refl _) ?_)
 case b2 => rw [hz2]; omega
 case b3 => unfold maxLen; omega
 intro wm hvm hgm
 have hbm : Below w1a.heap.size w1a wm := (Below.refl _ _).grown hgm (Nat.le_refl _) (fun k h => by cases h)
 have hvm' : ownB wm w1a.heap.size (.slice (some ⟨w1a.heap.size, 0, none⟩) 0 26) [] := hvm
 have m0 := (hbm.cell (p := ⟨w.heap.size, 0, none⟩) hz0a).trans x0
 have m1 := (hbm.cell (p := ⟨w.heap.size, 1, none⟩) hz0a).trans x1
 have m2 := (hbm.cell (p := ⟨w.heap.size, 2, none⟩) hz0a).trans x2
 have m3 := (hbm.cell (p := ⟨w.heap.size, 3, none⟩) hz0a).trans x3
 have m4 := (hbm.cell (p := ⟨w.heap.size, 4, none⟩) hz0a).trans x4
 clear hvm hgm x0 x1 x2 x3 x4
 have hsm : w1a.heap.size ≤ wm.heap.size := hbm.size
 go_wp2_with fail
 refine (appendWord_any w1a.heap.size _ [] a _ hvm' hsm ha.1 ha.2 (by simp)).mono ?_
 rintro e wn ⟨vn, rfl, hvn, hbn⟩
 have n0 := (hbn.cell (p := ⟨w.heap.size, 0, none⟩) hz0a).trans m0
 have n1 := (hbn.cell (p := ⟨w.heap.size, 1, none⟩) hz0a).trans m1
 have n2 := (hbn.cell (p := ⟨w.heap.size, 2, none⟩) hz0a).trans m2
 have n3 := (hbn.cell (p := ⟨w.heap.size, 3, none⟩) hz0a).trans m3
 have n4 := (hbn.cell (p := ⟨w.heap.size, 4, none⟩) hz0a).trans m4
 have hsn : w1a.heap.size ≤ wn.heap.size := Nat.le_trans hsm hbn.size
 clear m0 m1 m2 m3 m4 hvm'
 go_wp2_with fail
 refine (appendWord_any w1a.heap.size vn _ b _ hvn hsn hb.1 hb.2 (by simp [wordL])).mono ?_
 rintro e wp ⟨vp, rfl, hvp, hbp⟩
 have p0 := (hbp.cell (p := ⟨w.heap.size, 0, none⟩) hz0a).trans n0
 have p1 := (hbp.cell (p := ⟨w.heap.size, 1, none⟩) hz0a).trans n1
 have p2 := (hbp.cell (p := ⟨w.heap.size, 2, none⟩) hz0a).trans n2
 have p3 := (hbp.cell (p := ⟨w.heap.size, 3, none⟩) hz0a).trans n3
 have p4 := (hbp.cell (p := ⟨w.heap.size, 4, none⟩) hz0a).trans n4
 have hsp : w1a.heap.size ≤ wp.heap.size := Nat.le_trans hsn hbp.size
 clear n0 n1 n2 n3 n4 hvn
 go_wp2_with fail
 refine (appendWord_any w1a.heap.size vp _ s _ hvp hsp hs.1 hs.2 (by simp [wordL])).mono ?_
 rintro e wq ⟨vq, rfl, hvq, hbq⟩
 have q0 := (hbq.cell (p := ⟨w.heap.size, 0, none⟩) hz0a).trans p0
 have q1 := (hbq.cell (p := ⟨w.heap.size, 1, none⟩) hz0a).trans p1
 have q2 := (hbq.cell (p := ⟨w.heap.size, 2, none⟩) hz0a).trans p2
 have q3 := (hbq.cell (p := ⟨w.heap.size, 3, none⟩) hz0a).trans p3
 have q4 := (hbq.cell (p := ⟨w.heap.size, 4, none⟩) hz0a).trans p4
 have hsq : w1a.heap.size ≤ wq.heap.size := Nat.le_trans hsp hbq.size
 clear p0 p1 p2 p3 p4 hvp
 have hll : (0 : Int) ≤ (l.length : Int) ∧ (l.length : Int) ≤ 16 := by omega
 go_wp2_with (at_builtin; refine wpList_append_own _ rfl (.tmp 24) (.tmp 32) 22 rfl w1a.heap.size 5 i0 (.int .u8 0) 1 1 Tryd.underlying22 hi hz0 hz1 hz2 rfl (by decide) vq _ _ rfl (hvq.alloc _) ⟨wq.heap.size, 0, none⟩ 2 2 [.int .u8 f, .int .u8 (l.length : Int)] rfl rfl ?c1 ?c2 ?c3 ?c4 ?c5 ?_)
 case c1 => exact cells_new wq #[.int .u8 f, .int .u8 (l.length : Int)] 5
 case c2 => exact ints_oneCell .u8 [f, (l.length : Int)]
 case c3 => unfold maxLen; simp [wordL]
 case c4 => simp [wordL]
 case c5 => simp; omega
 intro vr wr hownr hgrowr _
 have hvr : ownB wr w1a.heap.size vr (wordL a ++ wordL b ++ wordL s ++ [f, (l.length : Int)]) := by unfold ownB; simpa [wordL] using hownr
 have hbr : Below w1a.heap.size wq wr := (Below.refl _ _).grown ((World.grownBy_alloc wq _ _).trans hgrowr) hsq (fun k h => (hvq.lt k h).1)
 have r0 := (hbr.cell (p := ⟨w.heap.size, 0, none⟩) hz0a).trans q0
 have r1 := (hbr.cell (p := ⟨w.heap.size, 1, none⟩) hz0a).trans q1
 have r2 := (hbr.cell (p := ⟨w.heap.size, 2, none⟩) hz0a).trans q2
 have r3 := (hbr.cell (p := ⟨w.heap.size, 3, none⟩) hz0a).trans q3
 have r4 := (hbr.cell (p := ⟨w.heap.size, 4, none⟩) hz0a).trans q4
 have hsr : w1a.heap.size ≤ wr.heap.size := Nat.le_trans hsq hbr.size
 clear q0 q1 q2 q3 q4 hvq hownr hgrowr
 go_wp2_with fail
 refine (appendWord_any w1a.heap.size vr _ 0 _ hvr hsr (by omega) (by omega) (by simp [wordL])).mono ?_
 rintro e wt ⟨vt, rfl, hvt, hbt⟩
 have t0 := (hbt.cell (p := ⟨w.heap.size, 0, none⟩) hz0a).trans r0
 have t1 := (hbt.cell (p := ⟨w.heap.size, 1, none⟩) hz0a).trans r1
 have t2 := (hbt.cell (p := ⟨w.heap.size, 2, none⟩) hz0a).trans r2
 have t3 := (hbt.cell (p := ⟨w.heap.size, 3, none⟩) hz0a).trans r3
 have t4 := (hbt.cell (p := ⟨w.heap.size, 4, none⟩) hz0a).trans r4
 have hst : w1a.heap.size ≤ wt.heap.size := Nat.le_trans hsr hbt.size
 have hBt : Below w1a.heap.size w1a wt := ((((hbm.trans hbn).trans hbp).trans hbq).trans hbr).trans hbt
 have hRt : Rd wt o l := hR.kept (hB.trans (hBt.mono (Nat.le_of_lt hz0a)))
 have hvt' : ownB wt w1a.heap.size vt (wordL a ++ wordL b ++ wordL s ++ [f, (l.length : Int), 0, 0]) := by simpa [wordL] using hvt
 clear r0 r1 r2 r3 r4 hvr hvt hbm hbn hbp hbq hbr hbt
 go_wp2_with (at_builtin; refine wpList_append_bytes rfl (.tmp 36) (.tmp 38) rfl w1a.heap.size vt _ rfl hvt' o cap l rfl hn hRt ?d1 hst ?_)
 case d1 => simp [wordL]; omega
 intro v5 w5 hown5 hgrow5 hB5
 have hv5 : ownB w5 w1a.heap.size v5 (preL a b f s l) := hown5
 have hBB : Below w1a.heap.size w1a w5 := hBt.trans hB5
 obtain ⟨g, c5, hv5e, hg5⟩ := ownB.pos hv5 (by rw [preL_length]; omega)
 have hlen5 := preL_length a b f s l
 have HPK := hide (show packetL a b f s l = ((preL a b f s l).set 8 (checkL (preL a b f s l) / 256)).set 9 (checkL (preL a b f s l) % 256) from rfl)
 have hL8 := preL_isB hB8 hl ha hb hf hs
 clear hown5 hgrow5 hB5 hBt hvt' hRt t0 t1 t2 t3 t4
 rw [hv5e] at hv5 ⊢
 generalize preL a b f s l = L at *
 have c8 := hv5.cell 8 (by omega)
 have c9 := hv5.cell 9 (by omega)
 have f8 := hv5.frozenAt 8
 have f9 := hv5.frozenAt 9
 have hcl : 0 ≤ checkL L ∧ checkL L ≤ 65535 := by have := sumTo_bd hL8 ((L.length + 1) / 2); unfold checkL; omega
 have h2 := hide (hv5.two 8 9 (checkL L / 256) (checkL L % 256))
 have hr := hide hv5.rd
 have hi8 : (8 : Int) < (L.length : Int) := by omega
 have hi9 : (9 : Int) < (L.length : Int) := by omega
 have hLn : L.length ≤ 1048576 := by omega
 have hsu : sumL L = checkL L := by rw [sumL, if_neg (by omega)]
 have hcs := fun w h => hsu ▸ implCheckSum_any (some ⟨g, 0, none⟩) c5 L w h hL8 hLn
 clear hv5 hlen5 hsu
 generalize hg1 : L.getD 8 0 = u8 at *
 generalize hg2 : L.getD 9 0 = u9 at *
 clear hg1 hg2
 go_wp2_with (go_at_call 43; refine (hcs _ hr.out).mono ?_; rintro e w6 ⟨rfl, rfl⟩)
 go_ret2
 refine ⟨_, rfl, ?_, ?_⟩
 ·rw [HPK.out]
  exact own_mono h2.out (Nat.le_of_lt hz0a)
 ·exact ((hB.trans (hBB.mono (Nat.le_of_lt hz0a))).setCell (Nat.le_trans (Nat.le_of_lt hz0a) hg5) _).setCell (Nat.le_trans (Nat.le_of_lt hz0a) hg5) _

def bytesL (a b f s : Int) (l : List Int) : List Int := if packetOkB a b f s l.length = true then packetL a b f s l else []
theorem packetOk_bd {a b f s : Int} {l : List Int} (h : packetOkB a b f s l.length = true) : l.length ≤ 16 ∧ (0 ≤ a ∧ a < 65536) ∧ (0 ≤ b ∧ b < 65536) ∧ (0 ≤ f ∧ f < 16) ∧ (0 ≤ s ∧ s < 65536) := by
 have q := packetOkB_iff.1 h
 have r := flowOkB_iff.1 q.1
 omega

set_option maxHeartbeats 1000000 in
theorem implPacketBytes_any (a b f s : Int) (o : Option Addr) (cap : Nat) (l : List Int) (w : World) (hR : Rd w o l) (hn : o = none → cap = 0) (hB8 : isB l) (hm : l.length ≤ maxLen) :
  Calls Tryd.prog 25 #[pkt a b f s (.slice o l.length cap)] w fun e w' => ∃ v, e = .returned (.tuple #[v, .bool (packetOkB a b f s l.length)]) ∧ ownB w' w.heap.size v (bytesL a b f s l) ∧ Below w.heap.size w w' := by
 by_cases hok : packetOkB a b f s l.length = true
 ·obtain ⟨hl, ha, hb, hf, hs⟩ := packetOk_bd hok
  rw [bytesL, if_pos hok, hok]
  exact implPacketBytes_yes a b f s o cap l w hR hn hB8 hl ha hb hf hs hok
 ·have hB : Below w.heap.size w w := Below.refl _ _
  rw [bytesL, if_neg hok]
  have hok' := Bool.eq_false_iff.2 hok
  rw [hok']
  have hck := fun w => hok' ▸ implPacketOk_any a b f s o l.length cap w hm
  go_enter Tryd.func25, Tryd.ntmps25
  go_wp2_with fail; go_at_call 31; refine (hck _).mono ?_; rintro e w1a ⟨rfl, hba⟩; obtain ⟨hca, hfa⟩ := bcell hba; have hz0a : w.heap.size < w1a.heap.size := (by have hz := hba.size; (try simp at hz); omega); have hB : Below w.heap.size w w1a := (by refine Below.trans ?_ (hba.mono (by have hs := hB.size; (try simp) <;> omega)); (repeat (first | with_reducible exact hB | with_reducible exact Below.refl _ _ | with_reducible refine Below.drew ?_ | with_reducible refine below_drewN ?_ _ | with_reducible refine Below.alloc ?_ ?_ _ | with_reducible refine Below.setCell ?_ ?_ _ | (focus (simp; done)) | (focus (simp; omega)) | omega)))
  go_wp2
  go_ret2
  exact ⟨_, rfl, World.ownsRow_nil _ _ _ _, by (repeat (first | with_reducible exact hB | with_reducible exact Below.refl _ _ | with_reducible refine Below.drew ?_ | with_reducible refine below_drewN ?_ _ | with_reducible refine Below.alloc ?_ ?_ _ | with_reducible refine Below.setCell ?_ ?_ _ | (focus (simp; done)) | (focus (simp; omega)) | omega))⟩

end Go.Proofs.YtoeoiljddcjphaaDoor

