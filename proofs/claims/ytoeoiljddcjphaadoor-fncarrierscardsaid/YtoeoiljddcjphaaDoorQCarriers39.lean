/- For every input the law FnCarriers answers true: something drawn that is carried comes back from its bytes; whatever bytes are read as one are just its. The library's table of powers of ten reads as its text lays it, which the card ties. -/
import Derived.Test.YtoeoiljddcjphaaDoorQCarriers26
import Derived.Test.YtoeoiljddcjphaaDoorQCarriers24
import Derived.Test.YtoeoiljddcjphaaDoorQCarriers28
import Derived.Test.YtoeoiljddcjphaaDoorQCarriers32
import Derived.Test.YtoeoiljddcjphaaDoorQCarriers37
import Derived.Test.YtoeoiljddcjphaaDoorQCarriers12
import Derived.Test.YtoeoiljddcjphaaDoorQCarriers38
namespace Go.Proofs.YtoeoiljddcjphaaDoor
open Go.ChangeShapes Go.WideShapes Go.ChangeAt Go.RowKit Go.Joins
set_option linter.unusedVariables false
set_option linter.unusedSimpArgs false

theorem lt_of_box {w : World} {k : Nat} {X : Obj} (h : w.heap[k]? = some X) : k < w.heap.size := (Array.getElem?_eq_some_iff.1 h).1
theorem RdCm.on {w w' : World} {v : Value} {m : Cm} (h : RdCm w.heap.size w v m) (hb : Below w.heap.size w w') : RdCm w'.heap.size w' v m := (h.kept hb (Nat.le_refl _)).le hb.size
set_option maxHeartbeats 400000 in
theorem sameR_any (o1 o2 : Option Addr) (c1 c2 : Nat) (l1 l2 : List Int) (w : World) (h1 : Rd w o1 l1) (h2 : Rd w o2 l2) (b1 : isB l1) (b2 : isB l2) :
  Calls Tryd.prog 14 #[.slice o1 l1.length c1, .slice o2 l2.length c2] w fun e w' => e = .returned (.bool (decide (l1 = l2))) ∧ w = w' := by
 have k1 := run_conv c1 h1
 have k2 := run_conv c2 h2
 have HE := hide (str_inj b1 b2)
 go_enter Tryd.func14, Tryd.ntmps14
 go_wp2
 go_ret
 exact ⟨ret_bool HE.out, rfl⟩
theorem carrT_pos {m : Cm} (h : m.ok = true) : 0 < (carrT m).length := by
 unfold carrT carrTL
 rw [if_pos h, List.length_append]
 have hok : carrierOkB m.a m.b m.f m.s m.l.length m.g m.pl m.st = true := h
 obtain ⟨_, h1, _⟩ := carrierOkB_head hok
 have hg : 0 < m.g.length := by omega
 have : 0 < (stT m.g m.pl (upto (fun i => i) m.g.length)).length := by
  obtain ⟨k, hk⟩ : ∃ k, m.g.length = k + 1 := ⟨m.g.length - 1, by omega⟩
  rw [hk]
  unfold upto
  rw [List.range_succ, List.map_append, List.map_cons, List.map_nil, stT_snoc, List.length_append]
  have : 0 < (segT (stopAt m.g m.pl k)).length := by unfold segT; simp
  omega
 omega
theorem carrT_none {m : Cm} (h : m.ok = false) : (carrT m).length = 0 := by unfold carrT; rw [h]; rfl
theorem carrL_yes {m : Cm} (h : m.ok = true) : carrL m = headL m.g.length m.pl m.st ++ segTo m.g m.g.length ++ packetL m.a m.b m.f m.s m.l := by unfold carrL; rw [if_pos h]
theorem carrL_back {m : Cm} (h : m.ok = true) : crOk (carrL m) = true ∧ crR (carrL m) = m := by
 have hok : carrierOkB m.a m.b m.f m.s m.l.length m.g m.pl m.st = true := h
 obtain ⟨_, _, _, _, _, h5, _⟩ := carrierOkB_head hok
 obtain ⟨q1, q2⟩ := car_back h h5
 rw [carrL_yes h]
 refine ⟨q1, ?_⟩
 unfold crR
 rw [if_pos q1, q2]
theorem carrL_num {m : Cm} (h : m.ok = true) : (carrL m).length = 15 + m.g.length + m.l.length := by rw [carrL_yes h]; exact carB_len
theorem carrL_isB {m : Cm} (h : m.ok = true) (hb : isB m.l) : isB (carrL m) := by rw [carrL_yes h]; exact carB_isB h hb
theorem crR_bytes {L : List Int} (hB : isB L) (h : crOk L = true) : (crR L).ok = true ∧ carrL (crR L) = L := by
 obtain ⟨q1, q2⟩ := car_bytes hB h
 have e : crR L = crM L := by unfold crR; rw [if_pos h]
 rw [e, carrL_yes q1]
 exact ⟨q1, q2⟩
theorem in_full {lo hi n c g : Nat} {w : World} {l : List Int} (h : InB lo hi w (.slice (some ⟨g, 0, none⟩) n c) l) : n ≤ c ∧ c ≤ maxLen := own_cap (ownB_lay.2 h.1)
theorem in_some {lo hi n c : Nat} {o : Option Addr} {w : World} {l : List Int} (h : InB lo hi w (.slice o n c) l) (hp : 0 < l.length) : ∃ g, o = some ⟨g, 0, none⟩ := by
 rcases h.1.2 with ⟨h1, h2⟩ | ⟨g, cap, cur, hv, _⟩
 ·have : l.length = 0 := h2
  omega
 ·injection hv with hv _ _; exact ⟨g, hv⟩

theorem specOk_rd {a b f s : Int} {ov og : Option Addr} {nl cv ng cg : Nat} {pl st : Int} (m : Cm) (w : World) (h : RdCm w.heap.size w (crr a b f s (.slice ov nl cv) (.slice og ng cg) pl st) m) (hf : fitCm m) {ok : Bool} (hok : m.ok = ok) :
  Calls Tryd.prog 7 #[crr a b f s (.slice ov nl cv) (.slice og ng cg) pl st] w fun e w' => e = .returned (.bool ok) ∧ Below w.heap.size w w' := by
 obtain ⟨vl, vg, e, ⟨o, c, rfl, r⟩, ⟨og, cg, rfl, rg⟩⟩ := h
 rw [e, ← hok]
 have h1 := hf.1
 exact specCarrierOk_any m.a m.b m.f m.s o og m.l.length c cg m.g m.pl m.st w (by unfold maxLen; omega) (by unfold maxLen; omega) (RdG_rd.1 rg)
theorem implOk_rd {a b f s : Int} {ov og : Option Addr} {nl cv ng cg : Nat} {pl st : Int} (m : Cm) (w : World) (h : RdCm w.heap.size w (crr a b f s (.slice ov nl cv) (.slice og ng cg) pl st) m) (hf : fitCm m) {ok : Bool} (hok : m.ok = ok) :
  Calls Tryd.prog 8 #[crr a b f s (.slice ov nl cv) (.slice og ng cg) pl st] w fun e w' => e = .returned (.bool ok) ∧ Below w.heap.size w w' := by
 obtain ⟨vl, vg, e, ⟨o, c, rfl, r⟩, ⟨og, cg, rfl, rg⟩⟩ := h
 rw [e, ← hok]
 have h1 := hf.1
 exact implCarrierOk_any m.a m.b m.f m.s o og m.l.length c cg m.g m.pl m.st w (by unfold maxLen; omega) (by unfold maxLen; omega) (RdG_rd.1 rg)

set_option maxRecDepth 100000 in
set_option maxHeartbeats 8000000 in
theorem lawCarriers (o : Option Addr) (cap : Nat) (l : List Int) (w : World) (hm : l.length ≤ maxLen) (hR : Rd w o l) (hB8 : isB l) (hT : PTab w.heap.size w) :
  Calls Tryd.prog 3 #[.slice o l.length cap] w fun e w' => e = .returned (.bool true) ∧ Below w.heap.size w w' := by
 have HB := hide (Below.refl w.heap.size w)
 have HM := hide hm
 have HB8 := hide hB8
 clear hm hB8
 go_enter Tryd.func3, Tryd.ntmps3
 have HhR := hide hR
 clear hR
 have HhT := hide hT
 clear hT
 go_wp2_with fail
 have hR := HhR.out
 clear HhR
 have hT := HhT.out
 clear HhT
 refine (drawCarrierBytes_any o cap l w hR HB8.out HM.out).mono ?_
 rintro e w1 ⟨v, m, rfl, hown, hLb, hLn, hgn, hb⟩
 replace hR := hR.kept hb
 replace hT := hT.on hb HB.out.size
 replace HB := hide (HB.out.trans (hb.mono HB.out.size))
 clear hb
 have hown' := hown
 obtain ⟨vl, vg, rfl, hrw, hsg⟩ := hown
 obtain ⟨ov, cv, ev, _⟩ := hrw.open
 obtain ⟨og, cg, eg, _⟩ := hsg.open
 subst ev eg
 obtain ⟨a, ea⟩ : ∃ q, m.a = q := ⟨_, rfl⟩
 obtain ⟨b, eb⟩ : ∃ q, m.b = q := ⟨_, rfl⟩
 obtain ⟨f, ef⟩ : ∃ q, m.f = q := ⟨_, rfl⟩
 obtain ⟨s, es⟩ : ∃ q, m.s = q := ⟨_, rfl⟩
 obtain ⟨pl, ep⟩ : ∃ q, m.pl = q := ⟨_, rfl⟩
 obtain ⟨st, et⟩ : ∃ q, m.st = q := ⟨_, rfl⟩
 obtain ⟨nl, en⟩ : ∃ q, m.l.length = q := ⟨_, rfl⟩
 obtain ⟨ng, em⟩ : ∃ q, m.g.length = q := ⟨_, rfl⟩
 have rc := (InCm.of hown').rd
 have kc := (InCm.of hown').cap
 rw [ea, eb, ef, es, ep, et, en, em] at rc kc
 rw [ea, eb, ef, es, ep, et, en, em]
 have HKC := hide kc
 clear kc ea eb ef es ep et en em hrw hsg
 have HF : Hid (fitCm m) := ⟨by omega, hLb⟩
 have HLB := hide hLb
 have HLN := hide (show m.l.length ≤ 2000 ∧ m.g.length ≤ 8 from ⟨hLn, hgn⟩)
 obtain ⟨ok, hok⟩ : ∃ q, m.ok = q := ⟨_, rfl⟩
 have HOK := hide hok
 have HSO := hide (fun W (h : RdCm W.heap.size W (crr a b f s (.slice ov nl cv) (.slice og ng cg) pl st) m) => specOk_rd m W h HF.out hok)
 have HIO := hide (fun W (h : RdCm W.heap.size W (crr a b f s (.slice ov nl cv) (.slice og ng cg) pl st) m) => implOk_rd m W h HF.out hok)
 have HCB := hide (fun W (h : RdCm W.heap.size W (crr a b f s (.slice ov nl cv) (.slice og ng cg) pl st) m) => implCBytes_sh _ m W h HKC.out HF.out)
 have HCT := hide (fun W (h : RdCm W.heap.size W (crr a b f s (.slice ov nl cv) (.slice og ng cg) pl st) m) (k : PTab W.heap.size W) => implCarrT_sh _ m W h HF.out k)
 rw [hok] at HCB
 clear hok hLb hLn hgn hown'
 have bx : (w1.alloc (.cells #[.int .i64 a, .int .i64 b, .int .i64 f, .int .i64 s, .slice ov nl cv, .slice og ng cg, .int .i64 pl, .int .i64 st] 29)).heap[w1.heap.size]? = some (.cells #[.int .i64 a, .int .i64 b, .int .i64 f, .int .i64 s, .slice ov nl cv, .slice og ng cg, .int .i64 pl, .int .i64 st] 29 (0, 0)) := heap_alloc_new w1 _
 have hba : Below w1.heap.size w1 (w1.alloc (.cells #[.int .i64 a, .int .i64 b, .int .i64 f, .int .i64 s, .slice ov nl cv, .slice og ng cg, .int .i64 pl, .int .i64 st] 29)) := (Below.refl _ _).alloc (Nat.le_refl _) _
 have bxc0 : (w1.alloc (.cells #[.int .i64 a, .int .i64 b, .int .i64 f, .int .i64 s, .slice ov nl cv, .slice og ng cg, .int .i64 pl, .int .i64 st] 29)).cell? ⟨w1.heap.size, 0, none⟩ = some (.int .i64 a) := cellT bx 0 _ rfl
 have bxc1 : (w1.alloc (.cells #[.int .i64 a, .int .i64 b, .int .i64 f, .int .i64 s, .slice ov nl cv, .slice og ng cg, .int .i64 pl, .int .i64 st] 29)).cell? ⟨w1.heap.size, 1, none⟩ = some (.int .i64 b) := cellT bx 1 _ rfl
 have bxc2 : (w1.alloc (.cells #[.int .i64 a, .int .i64 b, .int .i64 f, .int .i64 s, .slice ov nl cv, .slice og ng cg, .int .i64 pl, .int .i64 st] 29)).cell? ⟨w1.heap.size, 2, none⟩ = some (.int .i64 f) := cellT bx 2 _ rfl
 have bxc3 : (w1.alloc (.cells #[.int .i64 a, .int .i64 b, .int .i64 f, .int .i64 s, .slice ov nl cv, .slice og ng cg, .int .i64 pl, .int .i64 st] 29)).cell? ⟨w1.heap.size, 3, none⟩ = some (.int .i64 s) := cellT bx 3 _ rfl
 have bxc4 : (w1.alloc (.cells #[.int .i64 a, .int .i64 b, .int .i64 f, .int .i64 s, .slice ov nl cv, .slice og ng cg, .int .i64 pl, .int .i64 st] 29)).cell? ⟨w1.heap.size, 4, none⟩ = some (.slice ov nl cv) := cellT bx 4 _ rfl
 have bxc5 : (w1.alloc (.cells #[.int .i64 a, .int .i64 b, .int .i64 f, .int .i64 s, .slice ov nl cv, .slice og ng cg, .int .i64 pl, .int .i64 st] 29)).cell? ⟨w1.heap.size, 5, none⟩ = some (.slice og ng cg) := cellT bx 5 _ rfl
 have bxc6 : (w1.alloc (.cells #[.int .i64 a, .int .i64 b, .int .i64 f, .int .i64 s, .slice ov nl cv, .slice og ng cg, .int .i64 pl, .int .i64 st] 29)).cell? ⟨w1.heap.size, 6, none⟩ = some (.int .i64 pl) := cellT bx 6 _ rfl
 have bxc7 : (w1.alloc (.cells #[.int .i64 a, .int .i64 b, .int .i64 f, .int .i64 s, .slice ov nl cv, .slice og ng cg, .int .i64 pl, .int .i64 st] 29)).cell? ⟨w1.heap.size, 7, none⟩ = some (.int .i64 st) := cellT bx 7 _ rfl
 have Hbx := hide bx
 have Hba := hide hba
 clear bx hba
 have HhR := hide hR
 clear hR
 have Hrc := hide rc
 clear rc
 have HhT := hide hT
 clear hT
 go_wp2_with fail
 have hR := HhR.out
 clear HhR
 have rc := Hrc.out
 clear Hrc
 have hT := HhT.out
 clear HhT
 clear bxc0 bxc1 bxc2 bxc3 bxc4 bxc5 bxc6 bxc7
 have bx := Hbx.out
 have hba := Hba.out
 clear Hbx Hba
 generalize w1.alloc (.cells #[.int .i64 a, .int .i64 b, .int .i64 f, .int .i64 s, .slice ov nl cv, .slice og ng cg, .int .i64 pl, .int .i64 st] 29) = w2 at *
 replace hR := hR.kept hba
 replace rc := rc.on hba
 replace hT := hT.on hba HB.out.size
 replace HB := hide (HB.out.trans (hba.mono HB.out.size))
 clear hba
 refine (HCB.out w2 rc).mono ?_
 rintro e w3 ⟨vb, rfl, inb, hb⟩
 replace bx := (hb.block _ (lt_of_box bx)).trans bx
 replace hR := hR.kept hb
 replace rc := rc.on hb
 replace hT := hT.on hb HB.out.size
 replace HB := hide (HB.out.trans (hb.mono HB.out.size))
 clear hb HCB
 obtain ⟨ob, cb, eb, rb⟩ := InL.rd (L := layB) inb
 subst eb
 have Rb := RdB_rd.1 (rb.le (Nat.le_refl _))
 have HIN := hide inb
 clear inb rb
 cases ok with
 | false =>
  obtain ⟨PL, hPL⟩ : ∃ q, carrL m = q := ⟨_, rfl⟩
  have EPL := hide hPL
  rw [hPL] at Rb HIN ⊢
  obtain ⟨nP, hnP⟩ : ∃ n, PL.length = n := ⟨_, rfl⟩
  have ENP := hide hnP
  rw [hnP] at HIN ⊢
  clear hPL hnP
  have bxc0 : w3.cell? ⟨w1.heap.size, 0, none⟩ = some (.int .i64 a) := cellT bx 0 _ rfl
  have bxc1 : w3.cell? ⟨w1.heap.size, 1, none⟩ = some (.int .i64 b) := cellT bx 1 _ rfl
  have bxc2 : w3.cell? ⟨w1.heap.size, 2, none⟩ = some (.int .i64 f) := cellT bx 2 _ rfl
  have bxc3 : w3.cell? ⟨w1.heap.size, 3, none⟩ = some (.int .i64 s) := cellT bx 3 _ rfl
  have bxc4 : w3.cell? ⟨w1.heap.size, 4, none⟩ = some (.slice ov nl cv) := cellT bx 4 _ rfl
  have bxc5 : w3.cell? ⟨w1.heap.size, 5, none⟩ = some (.slice og ng cg) := cellT bx 5 _ rfl
  have bxc6 : w3.cell? ⟨w1.heap.size, 6, none⟩ = some (.int .i64 pl) := cellT bx 6 _ rfl
  have bxc7 : w3.cell? ⟨w1.heap.size, 7, none⟩ = some (.int .i64 st) := cellT bx 7 _ rfl
  have Hbx := hide bx
  clear bx
  have HhR := hide hR
  clear hR
  have Hrc := hide rc
  clear rc
  have HRb := hide Rb
  clear Rb
  have HhT := hide hT
  clear hT
  go_wp2_with fail
  have bx := Hbx.out
  clear Hbx
  have hR := HhR.out
  clear HhR
  have rc := Hrc.out
  clear Hrc
  have Rb := HRb.out
  clear HRb
  have hT := HhT.out
  clear HhT
  refine (HSO.out _ rc).mono ?_
  rintro e w4 ⟨rfl, hb⟩
  clear bxc0 bxc1 bxc2 bxc3 bxc4 bxc5 bxc6 bxc7
  replace bx := (hb.block _ (lt_of_box bx)).trans bx
  replace hR := hR.kept hb
  replace rc := rc.on hb
  replace Rb := Rb.kept hb
  replace hT := hT.on hb HB.out.size
  replace HB := hide (HB.out.trans (hb.mono HB.out.size))
  clear hb
  have bxc0 : w4.cell? ⟨w1.heap.size, 0, none⟩ = some (.int .i64 a) := cellT bx 0 _ rfl
  have bxc1 : w4.cell? ⟨w1.heap.size, 1, none⟩ = some (.int .i64 b) := cellT bx 1 _ rfl
  have bxc2 : w4.cell? ⟨w1.heap.size, 2, none⟩ = some (.int .i64 f) := cellT bx 2 _ rfl
  have bxc3 : w4.cell? ⟨w1.heap.size, 3, none⟩ = some (.int .i64 s) := cellT bx 3 _ rfl
  have bxc4 : w4.cell? ⟨w1.heap.size, 4, none⟩ = some (.slice ov nl cv) := cellT bx 4 _ rfl
  have bxc5 : w4.cell? ⟨w1.heap.size, 5, none⟩ = some (.slice og ng cg) := cellT bx 5 _ rfl
  have bxc6 : w4.cell? ⟨w1.heap.size, 6, none⟩ = some (.int .i64 pl) := cellT bx 6 _ rfl
  have bxc7 : w4.cell? ⟨w1.heap.size, 7, none⟩ = some (.int .i64 st) := cellT bx 7 _ rfl
  have Hbx := hide bx
  clear bx
  have HhR := hide hR
  clear hR
  have Hrc := hide rc
  clear rc
  have HRb := hide Rb
  clear Rb
  have HhT := hide hT
  clear hT
  go_wp2_with fail
  have bx := Hbx.out
  clear Hbx
  have hR := HhR.out
  clear HhR
  have rc := Hrc.out
  clear Hrc
  have Rb := HRb.out
  clear HRb
  have hT := HhT.out
  clear HhT
  refine (HIO.out _ rc).mono ?_
  rintro e w5 ⟨rfl, hb⟩
  clear bxc0 bxc1 bxc2 bxc3 bxc4 bxc5 bxc6 bxc7
  replace bx := (hb.block _ (lt_of_box bx)).trans bx
  replace hR := hR.kept hb
  replace rc := rc.on hb
  replace Rb := Rb.kept hb
  replace hT := hT.on hb HB.out.size
  replace HB := hide (HB.out.trans (hb.mono HB.out.size))
  clear hb
  have bxc0 : w5.cell? ⟨w1.heap.size, 0, none⟩ = some (.int .i64 a) := cellT bx 0 _ rfl
  have bxc1 : w5.cell? ⟨w1.heap.size, 1, none⟩ = some (.int .i64 b) := cellT bx 1 _ rfl
  have bxc2 : w5.cell? ⟨w1.heap.size, 2, none⟩ = some (.int .i64 f) := cellT bx 2 _ rfl
  have bxc3 : w5.cell? ⟨w1.heap.size, 3, none⟩ = some (.int .i64 s) := cellT bx 3 _ rfl
  have bxc4 : w5.cell? ⟨w1.heap.size, 4, none⟩ = some (.slice ov nl cv) := cellT bx 4 _ rfl
  have bxc5 : w5.cell? ⟨w1.heap.size, 5, none⟩ = some (.slice og ng cg) := cellT bx 5 _ rfl
  have bxc6 : w5.cell? ⟨w1.heap.size, 6, none⟩ = some (.int .i64 pl) := cellT bx 6 _ rfl
  have bxc7 : w5.cell? ⟨w1.heap.size, 7, none⟩ = some (.int .i64 st) := cellT bx 7 _ rfl
  have Hbx := hide bx
  clear bx
  have HhR := hide hR
  clear hR
  have Hrc := hide rc
  clear rc
  have HRb := hide Rb
  clear Rb
  have HhT := hide hT
  clear hT
  go_wp2_with fail
  have bx := Hbx.out
  clear Hbx
  have hR := HhR.out
  clear HhR
  have rc := Hrc.out
  clear Hrc
  have Rb := HRb.out
  clear HRb
  have hT := HhT.out
  clear HhT
  refine (HCT.out w5 rc (hT.le HB.out.size)).mono ?_
  rintro e w6 ⟨vt, rfl, int, hb⟩
  obtain ⟨ot, ct, et, _⟩ := InL.rd (L := layB) int
  subst et
  clear bxc0 bxc1 bxc2 bxc3 bxc4 bxc5 bxc6 bxc7
  replace bx := (hb.block _ (lt_of_box bx)).trans bx
  replace hR := hR.kept hb
  replace rc := rc.on hb
  replace Rb := Rb.kept hb
  replace hT := hT.on hb HB.out.size
  replace HB := hide (HB.out.trans (hb.mono HB.out.size))
  clear hb int
  rw [carrT_none HOK.out]
  have Hbx := hide bx
  clear bx
  have HhR := hide hR
  clear hR
  have Hrc := hide rc
  clear rc
  have HRb := hide Rb
  clear Rb
  have HhT := hide hT
  clear hT
  go_wp2_with fail
  have bx := Hbx.out
  clear Hbx
  have hR := HhR.out
  clear HhR
  have rc := Hrc.out
  clear Hrc
  have Rb := HRb.out
  clear HRb
  have hT := HhT.out
  clear HhT
  refine (drawCarrierRead_any o cap l _ hR HB8.out HM.out).mono ?_
  rintro e u1 ⟨o', c', L', rfl, R', B8', hl', hc1', hc2', hb⟩
  replace bx := (hb.block _ (lt_of_box bx)).trans bx
  replace hR := hR.kept hb
  replace rc := rc.on hb
  replace Rb := Rb.kept hb
  replace hT := hT.on hb HB.out.size
  replace HB := hide (HB.out.trans (hb.mono HB.out.size))
  clear hb
  obtain ⟨n', hn'⟩ : ∃ n, L'.length = n := ⟨_, rfl⟩
  have EN' := hide hn'
  have HRD := hide (fun W (h : Rd W o' L') => implCRead_any o' c' L' W h B8' (by omega) hc1' hc2')
  have HB8' := hide B8'
  have HY := hide (show fitCm (crR L') from crR_fit L' B8')
  rw [hn'] at HRD ⊢
  clear hn' hl' hc1' hc2' B8'
  have Hbx := hide bx
  clear bx
  have HhR := hide hR
  clear hR
  have Hrc := hide rc
  clear rc
  have HRb := hide Rb
  clear Rb
  have HR' := hide R'
  clear R'
  have HhT := hide hT
  clear hT
  go_wp2_with fail
  have bx := Hbx.out
  clear Hbx
  have hR := HhR.out
  clear HhR
  have rc := Hrc.out
  clear Hrc
  have Rb := HRb.out
  clear HRb
  have R' := HR'.out
  clear HR'
  have hT := HhT.out
  clear HhT
  refine (HRD.out _ R').mono ?_
  rintro e u2 ⟨vy, rfl, hown2, hb⟩
  replace bx := (hb.block _ (lt_of_box bx)).trans bx
  replace hR := hR.kept hb
  replace rc := rc.on hb
  replace Rb := Rb.kept hb
  replace R' := R'.kept hb
  replace hT := hT.on hb HB.out.size
  replace HB := hide (HB.out.trans (hb.mono HB.out.size))
  clear hb HRD
  have hown2' := hown2
  obtain ⟨m2, hm2⟩ : ∃ q, crR L' = q := ⟨_, rfl⟩
  obtain ⟨F, hF⟩ : ∃ q, crOk L' = q := ⟨_, rfl⟩
  have EM2 := hide hm2
  have EF := hide hF
  rw [hm2] at hown2 hown2' HY
  rw [hF]
  clear hm2 hF
  obtain ⟨vl2, vg2, rfl, hrw2, hsg2⟩ := hown2
  obtain ⟨ov2, cv2, ev2, _⟩ := hrw2.open
  obtain ⟨og2, cg2, eg2, _⟩ := hsg2.open
  subst ev2 eg2
  obtain ⟨a2, ea2⟩ : ∃ q, m2.a = q := ⟨_, rfl⟩
  obtain ⟨b2, eb2⟩ : ∃ q, m2.b = q := ⟨_, rfl⟩
  obtain ⟨f2, ef2⟩ : ∃ q, m2.f = q := ⟨_, rfl⟩
  obtain ⟨s2, es2⟩ : ∃ q, m2.s = q := ⟨_, rfl⟩
  obtain ⟨pl2, ep2⟩ : ∃ q, m2.pl = q := ⟨_, rfl⟩
  obtain ⟨st2, et2⟩ : ∃ q, m2.st = q := ⟨_, rfl⟩
  obtain ⟨nl2, en2⟩ : ∃ q, m2.l.length = q := ⟨_, rfl⟩
  obtain ⟨ng2, em2⟩ : ∃ q, m2.g.length = q := ⟨_, rfl⟩
  have rc2 := (InCm.of hown2').rd
  have kc2 := (InCm.of hown2').cap
  rw [ea2, eb2, ef2, es2, ep2, et2, en2, em2] at rc2 kc2
  rw [ea2, eb2, ef2, es2, ep2, et2, en2, em2]
  have HKC2 := hide kc2
  clear kc2 ea2 eb2 ef2 es2 ep2 et2 en2 em2 hrw2 hsg2
  have HCB2 := hide (fun W (h : RdCm W.heap.size W (crr a2 b2 f2 s2 (.slice ov2 nl2 cv2) (.slice og2 ng2 cg2) pl2 st2) m2) => implCBytes_sh _ m2 W h HKC2.out HY.out)
  clear hown2'
  have by2 : (u2.alloc (.cells #[.int .i64 a2, .int .i64 b2, .int .i64 f2, .int .i64 s2, .slice ov2 nl2 cv2, .slice og2 ng2 cg2, .int .i64 pl2, .int .i64 st2] 29)).heap[u2.heap.size]? = some (.cells #[.int .i64 a2, .int .i64 b2, .int .i64 f2, .int .i64 s2, .slice ov2 nl2 cv2, .slice og2 ng2 cg2, .int .i64 pl2, .int .i64 st2] 29 (0, 0)) := heap_alloc_new u2 _
  have hba : Below u2.heap.size u2 (u2.alloc (.cells #[.int .i64 a2, .int .i64 b2, .int .i64 f2, .int .i64 s2, .slice ov2 nl2 cv2, .slice og2 ng2 cg2, .int .i64 pl2, .int .i64 st2] 29)) := (Below.refl _ _).alloc (Nat.le_refl _) _
  have by2c0 : (u2.alloc (.cells #[.int .i64 a2, .int .i64 b2, .int .i64 f2, .int .i64 s2, .slice ov2 nl2 cv2, .slice og2 ng2 cg2, .int .i64 pl2, .int .i64 st2] 29)).cell? ⟨u2.heap.size, 0, none⟩ = some (.int .i64 a2) := cellT by2 0 _ rfl
  have by2c1 : (u2.alloc (.cells #[.int .i64 a2, .int .i64 b2, .int .i64 f2, .int .i64 s2, .slice ov2 nl2 cv2, .slice og2 ng2 cg2, .int .i64 pl2, .int .i64 st2] 29)).cell? ⟨u2.heap.size, 1, none⟩ = some (.int .i64 b2) := cellT by2 1 _ rfl
  have by2c2 : (u2.alloc (.cells #[.int .i64 a2, .int .i64 b2, .int .i64 f2, .int .i64 s2, .slice ov2 nl2 cv2, .slice og2 ng2 cg2, .int .i64 pl2, .int .i64 st2] 29)).cell? ⟨u2.heap.size, 2, none⟩ = some (.int .i64 f2) := cellT by2 2 _ rfl
  have by2c3 : (u2.alloc (.cells #[.int .i64 a2, .int .i64 b2, .int .i64 f2, .int .i64 s2, .slice ov2 nl2 cv2, .slice og2 ng2 cg2, .int .i64 pl2, .int .i64 st2] 29)).cell? ⟨u2.heap.size, 3, none⟩ = some (.int .i64 s2) := cellT by2 3 _ rfl
  have by2c4 : (u2.alloc (.cells #[.int .i64 a2, .int .i64 b2, .int .i64 f2, .int .i64 s2, .slice ov2 nl2 cv2, .slice og2 ng2 cg2, .int .i64 pl2, .int .i64 st2] 29)).cell? ⟨u2.heap.size, 4, none⟩ = some (.slice ov2 nl2 cv2) := cellT by2 4 _ rfl
  have by2c5 : (u2.alloc (.cells #[.int .i64 a2, .int .i64 b2, .int .i64 f2, .int .i64 s2, .slice ov2 nl2 cv2, .slice og2 ng2 cg2, .int .i64 pl2, .int .i64 st2] 29)).cell? ⟨u2.heap.size, 5, none⟩ = some (.slice og2 ng2 cg2) := cellT by2 5 _ rfl
  have by2c6 : (u2.alloc (.cells #[.int .i64 a2, .int .i64 b2, .int .i64 f2, .int .i64 s2, .slice ov2 nl2 cv2, .slice og2 ng2 cg2, .int .i64 pl2, .int .i64 st2] 29)).cell? ⟨u2.heap.size, 6, none⟩ = some (.int .i64 pl2) := cellT by2 6 _ rfl
  have by2c7 : (u2.alloc (.cells #[.int .i64 a2, .int .i64 b2, .int .i64 f2, .int .i64 s2, .slice ov2 nl2 cv2, .slice og2 ng2 cg2, .int .i64 pl2, .int .i64 st2] 29)).cell? ⟨u2.heap.size, 7, none⟩ = some (.int .i64 st2) := cellT by2 7 _ rfl
  have Hbx := hide by2
  have Hba := hide hba
  clear by2 hba
  have Hbx := hide bx
  clear bx
  have HhR := hide hR
  clear hR
  have Hrc := hide rc
  clear rc
  have HRb := hide Rb
  clear Rb
  have HR' := hide R'
  clear R'
  have Hrc2 := hide rc2
  clear rc2
  have HhT := hide hT
  clear hT
  go_wp2_with fail
  have bx := Hbx.out
  clear Hbx
  have hR := HhR.out
  clear HhR
  have rc := Hrc.out
  clear Hrc
  have Rb := HRb.out
  clear HRb
  have R' := HR'.out
  clear HR'
  have rc2 := Hrc2.out
  clear Hrc2
  have hT := HhT.out
  clear HhT
  clear by2c0 by2c1 by2c2 by2c3 by2c4 by2c5 by2c6 by2c7
  have by2 := Hbx.out
  have hba := Hba.out
  clear Hbx Hba
  generalize u2.alloc (.cells #[.int .i64 a2, .int .i64 b2, .int .i64 f2, .int .i64 s2, .slice ov2 nl2 cv2, .slice og2 ng2 cg2, .int .i64 pl2, .int .i64 st2] 29) = u3 at *
  replace bx := (hba.block _ (lt_of_box bx)).trans bx
  replace hR := hR.kept hba
  replace rc := rc.on hba
  replace Rb := Rb.kept hba
  replace R' := R'.kept hba
  replace rc2 := rc2.on hba
  replace hT := hT.on hba HB.out.size
  replace HB := hide (HB.out.trans (hba.mono HB.out.size))
  clear hba
  refine (HCB2.out u3 rc2).mono ?_
  rintro e u4 ⟨vd, rfl, ind, hb⟩
  replace bx := (hb.block _ (lt_of_box bx)).trans bx
  replace by2 := (hb.block _ (lt_of_box by2)).trans by2
  replace hR := hR.kept hb
  replace rc := rc.on hb
  replace Rb := Rb.kept hb
  replace R' := R'.kept hb
  replace rc2 := rc2.on hb
  replace hT := hT.on hb HB.out.size
  replace HB := hide (HB.out.trans (hb.mono HB.out.size))
  clear hb HCB2
  obtain ⟨od, cd, ed, rd⟩ := InL.rd (L := layB) ind
  subst ed
  have Rdd := RdB_rd.1 (rd.le (Nat.le_refl _))
  clear ind rd
  obtain ⟨D, hD⟩ : ∃ D, carrL m2 = D := ⟨_, rfl⟩
  have ED := hide hD
  rw [hD] at Rdd ⊢
  obtain ⟨nD, hnD⟩ : ∃ n, D.length = n := ⟨_, rfl⟩
  obtain ⟨G, hG⟩ : ∃ q, m2.ok = q := ⟨_, rfl⟩
  have EG := hide hG
  have HSM := hide (fun W (h1 : Rd W od D) (h2 : Rd W o' L') (k : isB D) => sameR_any od o' cd c' D L' W h1 h2 k HB8'.out)
  rw [hnD, EN'.out] at HSM
  rw [hnD, hG]
  clear hD hnD hG
  have Hbx := hide bx
  clear bx
  have Hby2 := hide by2
  clear by2
  have HhR := hide hR
  clear hR
  have Hrc := hide rc
  clear rc
  have HRb := hide Rb
  clear Rb
  have HR' := hide R'
  clear R'
  have Hrc2 := hide rc2
  clear rc2
  have HRdd := hide Rdd
  clear Rdd
  have HhT := hide hT
  clear hT
  go_wp2_with fail
  have bx := Hbx.out
  clear Hbx
  have by2 := Hby2.out
  clear Hby2
  have hR := HhR.out
  clear HhR
  have rc := Hrc.out
  clear Hrc
  have Rb := HRb.out
  clear HRb
  have R' := HR'.out
  clear HR'
  have rc2 := Hrc2.out
  clear Hrc2
  have Rdd := HRdd.out
  clear HRdd
  have hT := HhT.out
  clear HhT
  refine (wires_any _).mono ?_
  rintro e u5 ⟨rfl, hb⟩
  replace bx := (hb.block _ (lt_of_box bx)).trans bx
  replace by2 := (hb.block _ (lt_of_box by2)).trans by2
  replace hR := hR.kept hb
  replace rc := rc.on hb
  replace Rb := Rb.kept hb
  replace R' := R'.kept hb
  replace rc2 := rc2.on hb
  replace Rdd := Rdd.kept hb
  replace hT := hT.on hb HB.out.size
  replace HB := hide (HB.out.trans (hb.mono HB.out.size))
  clear hb
  have Hbx := hide bx
  clear bx
  have Hby2 := hide by2
  clear by2
  have HhR := hide hR
  clear hR
  have Hrc := hide rc
  clear rc
  have HRb := hide Rb
  clear Rb
  have HR' := hide R'
  clear R'
  have Hrc2 := hide rc2
  clear rc2
  have HRdd := hide Rdd
  clear Rdd
  have HhT := hide hT
  clear hT
  cases F with
  | false =>
   go_wp2
   go_ret
   exact ⟨rfl, HB.out⟩
  | true =>
   have hgt : G = true := by rw [← EG.out, ← EM2.out]; exact (crR_bytes HB8'.out EF.out).1
   have hdl : D = L' := by rw [← ED.out, ← EM2.out]; exact (crR_bytes HB8'.out EF.out).2
   subst hgt
   have HDL : Hid (decide (D = L') = true) := decide_eq_true hdl
   have HDB : Hid (isB D) := by unfold Hid; rw [hdl]; exact HB8'.out
   clear hdl
   go_wp2_with fail
   refine (HSM.out u5 HRdd.out HR'.out HDB.out).mono ?_
   rintro e _ ⟨rfl, rfl⟩
   rw [HDL.out]
   go_wp2
   go_ret
   exact ⟨rfl, HB.out⟩
 | true =>
  obtain ⟨PL, hPL⟩ : ∃ q, carrL m = q := ⟨_, rfl⟩
  have EPL := hide hPL
  rw [hPL] at Rb HIN ⊢
  obtain ⟨nP, hnP⟩ : ∃ n, PL.length = n := ⟨_, rfl⟩
  have ENP := hide hnP
  rw [hnP] at HIN ⊢
  clear hPL hnP
  have bxc0 : w3.cell? ⟨w1.heap.size, 0, none⟩ = some (.int .i64 a) := cellT bx 0 _ rfl
  have bxc1 : w3.cell? ⟨w1.heap.size, 1, none⟩ = some (.int .i64 b) := cellT bx 1 _ rfl
  have bxc2 : w3.cell? ⟨w1.heap.size, 2, none⟩ = some (.int .i64 f) := cellT bx 2 _ rfl
  have bxc3 : w3.cell? ⟨w1.heap.size, 3, none⟩ = some (.int .i64 s) := cellT bx 3 _ rfl
  have bxc4 : w3.cell? ⟨w1.heap.size, 4, none⟩ = some (.slice ov nl cv) := cellT bx 4 _ rfl
  have bxc5 : w3.cell? ⟨w1.heap.size, 5, none⟩ = some (.slice og ng cg) := cellT bx 5 _ rfl
  have bxc6 : w3.cell? ⟨w1.heap.size, 6, none⟩ = some (.int .i64 pl) := cellT bx 6 _ rfl
  have bxc7 : w3.cell? ⟨w1.heap.size, 7, none⟩ = some (.int .i64 st) := cellT bx 7 _ rfl
  have Hbx := hide bx
  clear bx
  have HhR := hide hR
  clear hR
  have Hrc := hide rc
  clear rc
  have HRb := hide Rb
  clear Rb
  have HhT := hide hT
  clear hT
  go_wp2_with fail
  have bx := Hbx.out
  clear Hbx
  have hR := HhR.out
  clear HhR
  have rc := Hrc.out
  clear Hrc
  have Rb := HRb.out
  clear HRb
  have hT := HhT.out
  clear HhT
  refine (HSO.out _ rc).mono ?_
  rintro e w4 ⟨rfl, hb⟩
  clear bxc0 bxc1 bxc2 bxc3 bxc4 bxc5 bxc6 bxc7
  replace bx := (hb.block _ (lt_of_box bx)).trans bx
  replace hR := hR.kept hb
  replace rc := rc.on hb
  replace Rb := Rb.kept hb
  replace hT := hT.on hb HB.out.size
  replace HB := hide (HB.out.trans (hb.mono HB.out.size))
  clear hb
  have bxc0 : w4.cell? ⟨w1.heap.size, 0, none⟩ = some (.int .i64 a) := cellT bx 0 _ rfl
  have bxc1 : w4.cell? ⟨w1.heap.size, 1, none⟩ = some (.int .i64 b) := cellT bx 1 _ rfl
  have bxc2 : w4.cell? ⟨w1.heap.size, 2, none⟩ = some (.int .i64 f) := cellT bx 2 _ rfl
  have bxc3 : w4.cell? ⟨w1.heap.size, 3, none⟩ = some (.int .i64 s) := cellT bx 3 _ rfl
  have bxc4 : w4.cell? ⟨w1.heap.size, 4, none⟩ = some (.slice ov nl cv) := cellT bx 4 _ rfl
  have bxc5 : w4.cell? ⟨w1.heap.size, 5, none⟩ = some (.slice og ng cg) := cellT bx 5 _ rfl
  have bxc6 : w4.cell? ⟨w1.heap.size, 6, none⟩ = some (.int .i64 pl) := cellT bx 6 _ rfl
  have bxc7 : w4.cell? ⟨w1.heap.size, 7, none⟩ = some (.int .i64 st) := cellT bx 7 _ rfl
  have Hbx := hide bx
  clear bx
  have HhR := hide hR
  clear hR
  have Hrc := hide rc
  clear rc
  have HRb := hide Rb
  clear Rb
  have HhT := hide hT
  clear hT
  go_wp2_with fail
  have bx := Hbx.out
  clear Hbx
  have hR := HhR.out
  clear HhR
  have rc := Hrc.out
  clear Hrc
  have Rb := HRb.out
  clear HRb
  have hT := HhT.out
  clear HhT
  refine (HIO.out _ rc).mono ?_
  rintro e w5 ⟨rfl, hb⟩
  clear bxc0 bxc1 bxc2 bxc3 bxc4 bxc5 bxc6 bxc7
  replace bx := (hb.block _ (lt_of_box bx)).trans bx
  replace hR := hR.kept hb
  replace rc := rc.on hb
  replace Rb := Rb.kept hb
  replace hT := hT.on hb HB.out.size
  replace HB := hide (HB.out.trans (hb.mono HB.out.size))
  clear hb
  have bxc0 : w5.cell? ⟨w1.heap.size, 0, none⟩ = some (.int .i64 a) := cellT bx 0 _ rfl
  have bxc1 : w5.cell? ⟨w1.heap.size, 1, none⟩ = some (.int .i64 b) := cellT bx 1 _ rfl
  have bxc2 : w5.cell? ⟨w1.heap.size, 2, none⟩ = some (.int .i64 f) := cellT bx 2 _ rfl
  have bxc3 : w5.cell? ⟨w1.heap.size, 3, none⟩ = some (.int .i64 s) := cellT bx 3 _ rfl
  have bxc4 : w5.cell? ⟨w1.heap.size, 4, none⟩ = some (.slice ov nl cv) := cellT bx 4 _ rfl
  have bxc5 : w5.cell? ⟨w1.heap.size, 5, none⟩ = some (.slice og ng cg) := cellT bx 5 _ rfl
  have bxc6 : w5.cell? ⟨w1.heap.size, 6, none⟩ = some (.int .i64 pl) := cellT bx 6 _ rfl
  have bxc7 : w5.cell? ⟨w1.heap.size, 7, none⟩ = some (.int .i64 st) := cellT bx 7 _ rfl
  have Hbx := hide bx
  clear bx
  have HhR := hide hR
  clear hR
  have Hrc := hide rc
  clear rc
  have HRb := hide Rb
  clear Rb
  have HhT := hide hT
  clear hT
  go_wp2_with fail
  have bx := Hbx.out
  clear Hbx
  have hR := HhR.out
  clear HhR
  have rc := Hrc.out
  clear Hrc
  have Rb := HRb.out
  clear HRb
  have hT := HhT.out
  clear HhT
  refine (HCT.out w5 rc (hT.le HB.out.size)).mono ?_
  rintro e w6 ⟨vt, rfl, int, hb⟩
  obtain ⟨ot, ct, et, _⟩ := InL.rd (L := layB) int
  subst et
  clear bxc0 bxc1 bxc2 bxc3 bxc4 bxc5 bxc6 bxc7
  replace bx := (hb.block _ (lt_of_box bx)).trans bx
  replace hR := hR.kept hb
  replace rc := rc.on hb
  replace Rb := Rb.kept hb
  replace hT := hT.on hb HB.out.size
  replace HB := hide (HB.out.trans (hb.mono HB.out.size))
  clear hb int
  obtain ⟨nT, hnT⟩ : ∃ n, (carrT m).length = n := ⟨_, rfl⟩
  have hT0 : (0 : Int) < (nT : Int) := by have := carrT_pos HOK.out; omega
  have hT1 : 0 < nT := by omega
  rw [hnT]
  clear hnT
  obtain ⟨gb, hgb⟩ := in_some HIN.out (by have := carrL_num HOK.out; rw [EPL.out, ENP.out] at this; rw [ENP.out]; omega)
  subst hgb
  have hcap := in_full HIN.out
  have HPB : Hid (isB PL) := by unfold Hid; rw [← EPL.out]; exact carrL_isB HOK.out HLB.out
  have HBK : Hid (crOk PL = true ∧ crR PL = m) := by unfold Hid; rw [← EPL.out]; exact carrL_back HOK.out
  have hnP2 : nP ≤ 1048576 := by have h1 := carrL_num HOK.out; rw [EPL.out, ENP.out] at h1; have h2 := HLN.out; omega
  have HRB := hide (fun W (h : Rd W (some ⟨gb, 0, none⟩) PL) => implCRead_any (some ⟨gb, 0, none⟩) cb PL W h HPB.out (by rw [ENP.out]; exact hnP2) (by rw [ENP.out]; exact hcap.1) hcap.2)
  rw [ENP.out] at HRB
  clear hcap hnP2
  have Hbx := hide bx
  clear bx
  have HhR := hide hR
  clear hR
  have Hrc := hide rc
  clear rc
  have HRb := hide Rb
  clear Rb
  have HhT := hide hT
  clear hT
  go_wp2_with fail
  have bx := Hbx.out
  clear Hbx
  have hR := HhR.out
  clear HhR
  have rc := Hrc.out
  clear Hrc
  have Rb := HRb.out
  clear HRb
  have hT := HhT.out
  clear HhT
  refine (HRB.out w6 Rb).mono ?_
  rintro e w7 ⟨vy, rfl, hown3, hb⟩
  replace bx := (hb.block _ (lt_of_box bx)).trans bx
  replace hR := hR.kept hb
  replace rc := rc.on hb
  replace Rb := Rb.kept hb
  replace hT := hT.on hb HB.out.size
  replace HB := hide (HB.out.trans (hb.mono HB.out.size))
  clear hb HRB
  rw [HBK.out.2] at hown3
  rw [HBK.out.1]
  have hown3' := hown3
  obtain ⟨vl3, vg3, rfl, hrw3, hsg3⟩ := hown3
  obtain ⟨ov3, cv3, ev3, _⟩ := hrw3.open
  obtain ⟨og3, cg3, eg3, _⟩ := hsg3.open
  subst ev3 eg3
  obtain ⟨a3, ea3⟩ : ∃ q, m.a = q := ⟨_, rfl⟩
  obtain ⟨b3, eb3⟩ : ∃ q, m.b = q := ⟨_, rfl⟩
  obtain ⟨f3, ef3⟩ : ∃ q, m.f = q := ⟨_, rfl⟩
  obtain ⟨s3, es3⟩ : ∃ q, m.s = q := ⟨_, rfl⟩
  obtain ⟨pl3, ep3⟩ : ∃ q, m.pl = q := ⟨_, rfl⟩
  obtain ⟨st3, et3⟩ : ∃ q, m.st = q := ⟨_, rfl⟩
  obtain ⟨nl3, en3⟩ : ∃ q, m.l.length = q := ⟨_, rfl⟩
  obtain ⟨ng3, em3⟩ : ∃ q, m.g.length = q := ⟨_, rfl⟩
  have rc3 := (InCm.of hown3').rd
  have kc3 := (InCm.of hown3').cap
  rw [ea3, eb3, ef3, es3, ep3, et3, en3, em3] at rc3 kc3
  rw [ea3, eb3, ef3, es3, ep3, et3, en3, em3]
  have HKC3 := hide kc3
  clear kc3 ea3 eb3 ef3 es3 ep3 et3 en3 em3 hrw3 hsg3
  have HSC := hide (fun W (h1 : RdCm W.heap.size W (crr a b f s (.slice ov nl cv) (.slice og ng cg) pl st) m) (h2 : RdCm W.heap.size W (crr a3 b3 f3 s3 (.slice ov3 nl3 cv3) (.slice og3 ng3 cg3) pl3 st3) m) => sameCarrier_eq _ _ m W h1 h2 HKC.out HKC3.out HF.out)
  clear hown3'
  have bx3 : (w7.alloc (.cells #[.int .i64 a3, .int .i64 b3, .int .i64 f3, .int .i64 s3, .slice ov3 nl3 cv3, .slice og3 ng3 cg3, .int .i64 pl3, .int .i64 st3] 29)).heap[w7.heap.size]? = some (.cells #[.int .i64 a3, .int .i64 b3, .int .i64 f3, .int .i64 s3, .slice ov3 nl3 cv3, .slice og3 ng3 cg3, .int .i64 pl3, .int .i64 st3] 29 (0, 0)) := heap_alloc_new w7 _
  have hba : Below w7.heap.size w7 (w7.alloc (.cells #[.int .i64 a3, .int .i64 b3, .int .i64 f3, .int .i64 s3, .slice ov3 nl3 cv3, .slice og3 ng3 cg3, .int .i64 pl3, .int .i64 st3] 29)) := (Below.refl _ _).alloc (Nat.le_refl _) _
  have bxc0 : (w7.alloc (.cells #[.int .i64 a3, .int .i64 b3, .int .i64 f3, .int .i64 s3, .slice ov3 nl3 cv3, .slice og3 ng3 cg3, .int .i64 pl3, .int .i64 st3] 29)).cell? ⟨w1.heap.size, 0, none⟩ = some (.int .i64 a) := cellT ((hba.block _ (lt_of_box bx)).trans bx) 0 _ rfl
  have bxc1 : (w7.alloc (.cells #[.int .i64 a3, .int .i64 b3, .int .i64 f3, .int .i64 s3, .slice ov3 nl3 cv3, .slice og3 ng3 cg3, .int .i64 pl3, .int .i64 st3] 29)).cell? ⟨w1.heap.size, 1, none⟩ = some (.int .i64 b) := cellT ((hba.block _ (lt_of_box bx)).trans bx) 1 _ rfl
  have bxc2 : (w7.alloc (.cells #[.int .i64 a3, .int .i64 b3, .int .i64 f3, .int .i64 s3, .slice ov3 nl3 cv3, .slice og3 ng3 cg3, .int .i64 pl3, .int .i64 st3] 29)).cell? ⟨w1.heap.size, 2, none⟩ = some (.int .i64 f) := cellT ((hba.block _ (lt_of_box bx)).trans bx) 2 _ rfl
  have bxc3 : (w7.alloc (.cells #[.int .i64 a3, .int .i64 b3, .int .i64 f3, .int .i64 s3, .slice ov3 nl3 cv3, .slice og3 ng3 cg3, .int .i64 pl3, .int .i64 st3] 29)).cell? ⟨w1.heap.size, 3, none⟩ = some (.int .i64 s) := cellT ((hba.block _ (lt_of_box bx)).trans bx) 3 _ rfl
  have bxc4 : (w7.alloc (.cells #[.int .i64 a3, .int .i64 b3, .int .i64 f3, .int .i64 s3, .slice ov3 nl3 cv3, .slice og3 ng3 cg3, .int .i64 pl3, .int .i64 st3] 29)).cell? ⟨w1.heap.size, 4, none⟩ = some (.slice ov nl cv) := cellT ((hba.block _ (lt_of_box bx)).trans bx) 4 _ rfl
  have bxc5 : (w7.alloc (.cells #[.int .i64 a3, .int .i64 b3, .int .i64 f3, .int .i64 s3, .slice ov3 nl3 cv3, .slice og3 ng3 cg3, .int .i64 pl3, .int .i64 st3] 29)).cell? ⟨w1.heap.size, 5, none⟩ = some (.slice og ng cg) := cellT ((hba.block _ (lt_of_box bx)).trans bx) 5 _ rfl
  have bxc6 : (w7.alloc (.cells #[.int .i64 a3, .int .i64 b3, .int .i64 f3, .int .i64 s3, .slice ov3 nl3 cv3, .slice og3 ng3 cg3, .int .i64 pl3, .int .i64 st3] 29)).cell? ⟨w1.heap.size, 6, none⟩ = some (.int .i64 pl) := cellT ((hba.block _ (lt_of_box bx)).trans bx) 6 _ rfl
  have bxc7 : (w7.alloc (.cells #[.int .i64 a3, .int .i64 b3, .int .i64 f3, .int .i64 s3, .slice ov3 nl3 cv3, .slice og3 ng3 cg3, .int .i64 pl3, .int .i64 st3] 29)).cell? ⟨w1.heap.size, 7, none⟩ = some (.int .i64 st) := cellT ((hba.block _ (lt_of_box bx)).trans bx) 7 _ rfl
  have bx3c0 : (w7.alloc (.cells #[.int .i64 a3, .int .i64 b3, .int .i64 f3, .int .i64 s3, .slice ov3 nl3 cv3, .slice og3 ng3 cg3, .int .i64 pl3, .int .i64 st3] 29)).cell? ⟨w7.heap.size, 0, none⟩ = some (.int .i64 a3) := cellT bx3 0 _ rfl
  have bx3c1 : (w7.alloc (.cells #[.int .i64 a3, .int .i64 b3, .int .i64 f3, .int .i64 s3, .slice ov3 nl3 cv3, .slice og3 ng3 cg3, .int .i64 pl3, .int .i64 st3] 29)).cell? ⟨w7.heap.size, 1, none⟩ = some (.int .i64 b3) := cellT bx3 1 _ rfl
  have bx3c2 : (w7.alloc (.cells #[.int .i64 a3, .int .i64 b3, .int .i64 f3, .int .i64 s3, .slice ov3 nl3 cv3, .slice og3 ng3 cg3, .int .i64 pl3, .int .i64 st3] 29)).cell? ⟨w7.heap.size, 2, none⟩ = some (.int .i64 f3) := cellT bx3 2 _ rfl
  have bx3c3 : (w7.alloc (.cells #[.int .i64 a3, .int .i64 b3, .int .i64 f3, .int .i64 s3, .slice ov3 nl3 cv3, .slice og3 ng3 cg3, .int .i64 pl3, .int .i64 st3] 29)).cell? ⟨w7.heap.size, 3, none⟩ = some (.int .i64 s3) := cellT bx3 3 _ rfl
  have bx3c4 : (w7.alloc (.cells #[.int .i64 a3, .int .i64 b3, .int .i64 f3, .int .i64 s3, .slice ov3 nl3 cv3, .slice og3 ng3 cg3, .int .i64 pl3, .int .i64 st3] 29)).cell? ⟨w7.heap.size, 4, none⟩ = some (.slice ov3 nl3 cv3) := cellT bx3 4 _ rfl
  have bx3c5 : (w7.alloc (.cells #[.int .i64 a3, .int .i64 b3, .int .i64 f3, .int .i64 s3, .slice ov3 nl3 cv3, .slice og3 ng3 cg3, .int .i64 pl3, .int .i64 st3] 29)).cell? ⟨w7.heap.size, 5, none⟩ = some (.slice og3 ng3 cg3) := cellT bx3 5 _ rfl
  have bx3c6 : (w7.alloc (.cells #[.int .i64 a3, .int .i64 b3, .int .i64 f3, .int .i64 s3, .slice ov3 nl3 cv3, .slice og3 ng3 cg3, .int .i64 pl3, .int .i64 st3] 29)).cell? ⟨w7.heap.size, 6, none⟩ = some (.int .i64 pl3) := cellT bx3 6 _ rfl
  have bx3c7 : (w7.alloc (.cells #[.int .i64 a3, .int .i64 b3, .int .i64 f3, .int .i64 s3, .slice ov3 nl3 cv3, .slice og3 ng3 cg3, .int .i64 pl3, .int .i64 st3] 29)).cell? ⟨w7.heap.size, 7, none⟩ = some (.int .i64 st3) := cellT bx3 7 _ rfl
  have Hbx := hide bx3
  have Hba := hide hba
  clear bx3 hba
  have Hbx := hide bx
  clear bx
  have HhR := hide hR
  clear hR
  have Hrc := hide rc
  clear rc
  have HRb := hide Rb
  clear Rb
  have Hrc3 := hide rc3
  clear rc3
  have HhT := hide hT
  clear hT
  go_wp2_with fail
  have bx := Hbx.out
  clear Hbx
  have hR := HhR.out
  clear HhR
  have rc := Hrc.out
  clear Hrc
  have Rb := HRb.out
  clear HRb
  have rc3 := Hrc3.out
  clear Hrc3
  have hT := HhT.out
  clear HhT
  clear bxc0 bxc1 bxc2 bxc3 bxc4 bxc5 bxc6 bxc7 bx3c0 bx3c1 bx3c2 bx3c3 bx3c4 bx3c5 bx3c6 bx3c7
  have bx3 := Hbx.out
  have hba := Hba.out
  clear Hbx Hba
  generalize w7.alloc (.cells #[.int .i64 a3, .int .i64 b3, .int .i64 f3, .int .i64 s3, .slice ov3 nl3 cv3, .slice og3 ng3 cg3, .int .i64 pl3, .int .i64 st3] 29) = w8 at *
  replace bx := (hba.block _ (lt_of_box bx)).trans bx
  replace hR := hR.kept hba
  replace rc := rc.on hba
  replace Rb := Rb.kept hba
  replace rc3 := rc3.on hba
  replace hT := hT.on hba HB.out.size
  replace HB := hide (HB.out.trans (hba.mono HB.out.size))
  clear hba
  refine (HSC.out w8 rc rc3).mono ?_
  rintro e w9 ⟨rfl, hb⟩
  replace bx := (hb.block _ (lt_of_box bx)).trans bx
  replace bx3 := (hb.block _ (lt_of_box bx3)).trans bx3
  replace hR := hR.kept hb
  replace rc := rc.on hb
  replace Rb := Rb.kept hb
  replace rc3 := rc3.on hb
  replace hT := hT.on hb HB.out.size
  replace HB := hide (HB.out.trans (hb.mono HB.out.size))
  clear hb HSC
  have Hbx := hide bx
  clear bx
  have Hbx3 := hide bx3
  clear bx3
  have HhR := hide hR
  clear hR
  have Hrc := hide rc
  clear rc
  have HRb := hide Rb
  clear Rb
  have Hrc3 := hide rc3
  clear rc3
  have HhT := hide hT
  clear hT
  go_wp2_with fail
  have bx := Hbx.out
  clear Hbx
  have bx3 := Hbx3.out
  clear Hbx3
  have hR := HhR.out
  clear HhR
  have rc := Hrc.out
  clear Hrc
  have Rb := HRb.out
  clear HRb
  have rc3 := Hrc3.out
  clear Hrc3
  have hT := HhT.out
  clear HhT
  refine (drawCarrierRead_any o cap l _ hR HB8.out HM.out).mono ?_
  rintro e u1 ⟨o', c', L', rfl, R', B8', hl', hc1', hc2', hb⟩
  replace bx := (hb.block _ (lt_of_box bx)).trans bx
  replace bx3 := (hb.block _ (lt_of_box bx3)).trans bx3
  replace hR := hR.kept hb
  replace rc := rc.on hb
  replace Rb := Rb.kept hb
  replace rc3 := rc3.on hb
  replace hT := hT.on hb HB.out.size
  replace HB := hide (HB.out.trans (hb.mono HB.out.size))
  clear hb
  obtain ⟨n', hn'⟩ : ∃ n, L'.length = n := ⟨_, rfl⟩
  have EN' := hide hn'
  have HRD := hide (fun W (h : Rd W o' L') => implCRead_any o' c' L' W h B8' (by omega) hc1' hc2')
  have HB8' := hide B8'
  have HY := hide (show fitCm (crR L') from crR_fit L' B8')
  rw [hn'] at HRD ⊢
  clear hn' hl' hc1' hc2' B8'
  have Hbx := hide bx
  clear bx
  have Hbx3 := hide bx3
  clear bx3
  have HhR := hide hR
  clear hR
  have Hrc := hide rc
  clear rc
  have HRb := hide Rb
  clear Rb
  have Hrc3 := hide rc3
  clear rc3
  have HR' := hide R'
  clear R'
  have HhT := hide hT
  clear hT
  go_wp2_with fail
  have bx := Hbx.out
  clear Hbx
  have bx3 := Hbx3.out
  clear Hbx3
  have hR := HhR.out
  clear HhR
  have rc := Hrc.out
  clear Hrc
  have Rb := HRb.out
  clear HRb
  have rc3 := Hrc3.out
  clear Hrc3
  have R' := HR'.out
  clear HR'
  have hT := HhT.out
  clear HhT
  refine (HRD.out _ R').mono ?_
  rintro e u2 ⟨vy, rfl, hown2, hb⟩
  replace bx := (hb.block _ (lt_of_box bx)).trans bx
  replace bx3 := (hb.block _ (lt_of_box bx3)).trans bx3
  replace hR := hR.kept hb
  replace rc := rc.on hb
  replace Rb := Rb.kept hb
  replace rc3 := rc3.on hb
  replace R' := R'.kept hb
  replace hT := hT.on hb HB.out.size
  replace HB := hide (HB.out.trans (hb.mono HB.out.size))
  clear hb HRD
  have hown2' := hown2
  obtain ⟨m2, hm2⟩ : ∃ q, crR L' = q := ⟨_, rfl⟩
  obtain ⟨F, hF⟩ : ∃ q, crOk L' = q := ⟨_, rfl⟩
  have EM2 := hide hm2
  have EF := hide hF
  rw [hm2] at hown2 hown2' HY
  rw [hF]
  clear hm2 hF
  obtain ⟨vl2, vg2, rfl, hrw2, hsg2⟩ := hown2
  obtain ⟨ov2, cv2, ev2, _⟩ := hrw2.open
  obtain ⟨og2, cg2, eg2, _⟩ := hsg2.open
  subst ev2 eg2
  obtain ⟨a2, ea2⟩ : ∃ q, m2.a = q := ⟨_, rfl⟩
  obtain ⟨b2, eb2⟩ : ∃ q, m2.b = q := ⟨_, rfl⟩
  obtain ⟨f2, ef2⟩ : ∃ q, m2.f = q := ⟨_, rfl⟩
  obtain ⟨s2, es2⟩ : ∃ q, m2.s = q := ⟨_, rfl⟩
  obtain ⟨pl2, ep2⟩ : ∃ q, m2.pl = q := ⟨_, rfl⟩
  obtain ⟨st2, et2⟩ : ∃ q, m2.st = q := ⟨_, rfl⟩
  obtain ⟨nl2, en2⟩ : ∃ q, m2.l.length = q := ⟨_, rfl⟩
  obtain ⟨ng2, em2⟩ : ∃ q, m2.g.length = q := ⟨_, rfl⟩
  have rc2 := (InCm.of hown2').rd
  have kc2 := (InCm.of hown2').cap
  rw [ea2, eb2, ef2, es2, ep2, et2, en2, em2] at rc2 kc2
  rw [ea2, eb2, ef2, es2, ep2, et2, en2, em2]
  have HKC2 := hide kc2
  clear kc2 ea2 eb2 ef2 es2 ep2 et2 en2 em2 hrw2 hsg2
  have HCB2 := hide (fun W (h : RdCm W.heap.size W (crr a2 b2 f2 s2 (.slice ov2 nl2 cv2) (.slice og2 ng2 cg2) pl2 st2) m2) => implCBytes_sh _ m2 W h HKC2.out HY.out)
  clear hown2'
  have by2 : (u2.alloc (.cells #[.int .i64 a2, .int .i64 b2, .int .i64 f2, .int .i64 s2, .slice ov2 nl2 cv2, .slice og2 ng2 cg2, .int .i64 pl2, .int .i64 st2] 29)).heap[u2.heap.size]? = some (.cells #[.int .i64 a2, .int .i64 b2, .int .i64 f2, .int .i64 s2, .slice ov2 nl2 cv2, .slice og2 ng2 cg2, .int .i64 pl2, .int .i64 st2] 29 (0, 0)) := heap_alloc_new u2 _
  have hba : Below u2.heap.size u2 (u2.alloc (.cells #[.int .i64 a2, .int .i64 b2, .int .i64 f2, .int .i64 s2, .slice ov2 nl2 cv2, .slice og2 ng2 cg2, .int .i64 pl2, .int .i64 st2] 29)) := (Below.refl _ _).alloc (Nat.le_refl _) _
  have by2c0 : (u2.alloc (.cells #[.int .i64 a2, .int .i64 b2, .int .i64 f2, .int .i64 s2, .slice ov2 nl2 cv2, .slice og2 ng2 cg2, .int .i64 pl2, .int .i64 st2] 29)).cell? ⟨u2.heap.size, 0, none⟩ = some (.int .i64 a2) := cellT by2 0 _ rfl
  have by2c1 : (u2.alloc (.cells #[.int .i64 a2, .int .i64 b2, .int .i64 f2, .int .i64 s2, .slice ov2 nl2 cv2, .slice og2 ng2 cg2, .int .i64 pl2, .int .i64 st2] 29)).cell? ⟨u2.heap.size, 1, none⟩ = some (.int .i64 b2) := cellT by2 1 _ rfl
  have by2c2 : (u2.alloc (.cells #[.int .i64 a2, .int .i64 b2, .int .i64 f2, .int .i64 s2, .slice ov2 nl2 cv2, .slice og2 ng2 cg2, .int .i64 pl2, .int .i64 st2] 29)).cell? ⟨u2.heap.size, 2, none⟩ = some (.int .i64 f2) := cellT by2 2 _ rfl
  have by2c3 : (u2.alloc (.cells #[.int .i64 a2, .int .i64 b2, .int .i64 f2, .int .i64 s2, .slice ov2 nl2 cv2, .slice og2 ng2 cg2, .int .i64 pl2, .int .i64 st2] 29)).cell? ⟨u2.heap.size, 3, none⟩ = some (.int .i64 s2) := cellT by2 3 _ rfl
  have by2c4 : (u2.alloc (.cells #[.int .i64 a2, .int .i64 b2, .int .i64 f2, .int .i64 s2, .slice ov2 nl2 cv2, .slice og2 ng2 cg2, .int .i64 pl2, .int .i64 st2] 29)).cell? ⟨u2.heap.size, 4, none⟩ = some (.slice ov2 nl2 cv2) := cellT by2 4 _ rfl
  have by2c5 : (u2.alloc (.cells #[.int .i64 a2, .int .i64 b2, .int .i64 f2, .int .i64 s2, .slice ov2 nl2 cv2, .slice og2 ng2 cg2, .int .i64 pl2, .int .i64 st2] 29)).cell? ⟨u2.heap.size, 5, none⟩ = some (.slice og2 ng2 cg2) := cellT by2 5 _ rfl
  have by2c6 : (u2.alloc (.cells #[.int .i64 a2, .int .i64 b2, .int .i64 f2, .int .i64 s2, .slice ov2 nl2 cv2, .slice og2 ng2 cg2, .int .i64 pl2, .int .i64 st2] 29)).cell? ⟨u2.heap.size, 6, none⟩ = some (.int .i64 pl2) := cellT by2 6 _ rfl
  have by2c7 : (u2.alloc (.cells #[.int .i64 a2, .int .i64 b2, .int .i64 f2, .int .i64 s2, .slice ov2 nl2 cv2, .slice og2 ng2 cg2, .int .i64 pl2, .int .i64 st2] 29)).cell? ⟨u2.heap.size, 7, none⟩ = some (.int .i64 st2) := cellT by2 7 _ rfl
  have Hbx := hide by2
  have Hba := hide hba
  clear by2 hba
  have Hbx := hide bx
  clear bx
  have Hbx3 := hide bx3
  clear bx3
  have HhR := hide hR
  clear hR
  have Hrc := hide rc
  clear rc
  have HRb := hide Rb
  clear Rb
  have Hrc3 := hide rc3
  clear rc3
  have HR' := hide R'
  clear R'
  have Hrc2 := hide rc2
  clear rc2
  have HhT := hide hT
  clear hT
  go_wp2_with fail
  have bx := Hbx.out
  clear Hbx
  have bx3 := Hbx3.out
  clear Hbx3
  have hR := HhR.out
  clear HhR
  have rc := Hrc.out
  clear Hrc
  have Rb := HRb.out
  clear HRb
  have rc3 := Hrc3.out
  clear Hrc3
  have R' := HR'.out
  clear HR'
  have rc2 := Hrc2.out
  clear Hrc2
  have hT := HhT.out
  clear HhT
  clear by2c0 by2c1 by2c2 by2c3 by2c4 by2c5 by2c6 by2c7
  have by2 := Hbx.out
  have hba := Hba.out
  clear Hbx Hba
  generalize u2.alloc (.cells #[.int .i64 a2, .int .i64 b2, .int .i64 f2, .int .i64 s2, .slice ov2 nl2 cv2, .slice og2 ng2 cg2, .int .i64 pl2, .int .i64 st2] 29) = u3 at *
  replace bx := (hba.block _ (lt_of_box bx)).trans bx
  replace bx3 := (hba.block _ (lt_of_box bx3)).trans bx3
  replace hR := hR.kept hba
  replace rc := rc.on hba
  replace Rb := Rb.kept hba
  replace rc3 := rc3.on hba
  replace R' := R'.kept hba
  replace rc2 := rc2.on hba
  replace hT := hT.on hba HB.out.size
  replace HB := hide (HB.out.trans (hba.mono HB.out.size))
  clear hba
  refine (HCB2.out u3 rc2).mono ?_
  rintro e u4 ⟨vd, rfl, ind, hb⟩
  replace bx := (hb.block _ (lt_of_box bx)).trans bx
  replace bx3 := (hb.block _ (lt_of_box bx3)).trans bx3
  replace by2 := (hb.block _ (lt_of_box by2)).trans by2
  replace hR := hR.kept hb
  replace rc := rc.on hb
  replace Rb := Rb.kept hb
  replace rc3 := rc3.on hb
  replace R' := R'.kept hb
  replace rc2 := rc2.on hb
  replace hT := hT.on hb HB.out.size
  replace HB := hide (HB.out.trans (hb.mono HB.out.size))
  clear hb HCB2
  obtain ⟨od, cd, ed, rd⟩ := InL.rd (L := layB) ind
  subst ed
  have Rdd := RdB_rd.1 (rd.le (Nat.le_refl _))
  clear ind rd
  obtain ⟨D, hD⟩ : ∃ D, carrL m2 = D := ⟨_, rfl⟩
  have ED := hide hD
  rw [hD] at Rdd ⊢
  obtain ⟨nD, hnD⟩ : ∃ n, D.length = n := ⟨_, rfl⟩
  obtain ⟨G, hG⟩ : ∃ q, m2.ok = q := ⟨_, rfl⟩
  have EG := hide hG
  have HSM := hide (fun W (h1 : Rd W od D) (h2 : Rd W o' L') (k : isB D) => sameR_any od o' cd c' D L' W h1 h2 k HB8'.out)
  rw [hnD, EN'.out] at HSM
  rw [hnD, hG]
  clear hD hnD hG
  have Hbx := hide bx
  clear bx
  have Hbx3 := hide bx3
  clear bx3
  have Hby2 := hide by2
  clear by2
  have HhR := hide hR
  clear hR
  have Hrc := hide rc
  clear rc
  have HRb := hide Rb
  clear Rb
  have Hrc3 := hide rc3
  clear rc3
  have HR' := hide R'
  clear R'
  have Hrc2 := hide rc2
  clear rc2
  have HRdd := hide Rdd
  clear Rdd
  have HhT := hide hT
  clear hT
  go_wp2_with fail
  have bx := Hbx.out
  clear Hbx
  have bx3 := Hbx3.out
  clear Hbx3
  have by2 := Hby2.out
  clear Hby2
  have hR := HhR.out
  clear HhR
  have rc := Hrc.out
  clear Hrc
  have Rb := HRb.out
  clear HRb
  have rc3 := Hrc3.out
  clear Hrc3
  have R' := HR'.out
  clear HR'
  have rc2 := Hrc2.out
  clear Hrc2
  have Rdd := HRdd.out
  clear HRdd
  have hT := HhT.out
  clear HhT
  refine (wires_any _).mono ?_
  rintro e u5 ⟨rfl, hb⟩
  replace bx := (hb.block _ (lt_of_box bx)).trans bx
  replace bx3 := (hb.block _ (lt_of_box bx3)).trans bx3
  replace by2 := (hb.block _ (lt_of_box by2)).trans by2
  replace hR := hR.kept hb
  replace rc := rc.on hb
  replace Rb := Rb.kept hb
  replace rc3 := rc3.on hb
  replace R' := R'.kept hb
  replace rc2 := rc2.on hb
  replace Rdd := Rdd.kept hb
  replace hT := hT.on hb HB.out.size
  replace HB := hide (HB.out.trans (hb.mono HB.out.size))
  clear hb
  have Hbx := hide bx
  clear bx
  have Hbx3 := hide bx3
  clear bx3
  have Hby2 := hide by2
  clear by2
  have HhR := hide hR
  clear hR
  have Hrc := hide rc
  clear rc
  have HRb := hide Rb
  clear Rb
  have Hrc3 := hide rc3
  clear rc3
  have HR' := hide R'
  clear R'
  have Hrc2 := hide rc2
  clear rc2
  have HRdd := hide Rdd
  clear Rdd
  have HhT := hide hT
  clear hT
  cases F with
  | false =>
   go_wp2
   go_ret
   exact ⟨rfl, HB.out⟩
  | true =>
   have hgt : G = true := by rw [← EG.out, ← EM2.out]; exact (crR_bytes HB8'.out EF.out).1
   have hdl : D = L' := by rw [← ED.out, ← EM2.out]; exact (crR_bytes HB8'.out EF.out).2
   subst hgt
   have HDL : Hid (decide (D = L') = true) := decide_eq_true hdl
   have HDB : Hid (isB D) := by unfold Hid; rw [hdl]; exact HB8'.out
   clear hdl
   go_wp2_with fail
   refine (HSM.out u5 HRdd.out HR'.out HDB.out).mono ?_
   rintro e _ ⟨rfl, rfl⟩
   rw [HDL.out]
   go_wp2
   go_ret
   exact ⟨rfl, HB.out⟩

set_option maxRecDepth 100000 in
theorem fnCarriers_lifted (os : Os) (started : os.Started) (H : Type) (enc : TypeId × Value → H) :
  ReturnsInHanded {} Tryd.checked os 3 .any (fun w args => (Rows.fnCarriersSpec.pre enc Tryd.prog Tryd.f3 [] false w args ∧ laidMetH Tryd.prog laidPow w) ∧ sizedMet enc Tryd.prog Tryd.f3 (OpenSpec.ofChange Rows.fnCarriersSpec) false w args) (Rows.fnCarriersSpec.post enc Tryd.prog Tryd.f3 false true false false) := by
 refine returnsInHanded_of_change_and (C := Tryd.checked) (X := fun w _ => laidMetH Tryd.prog laidPow w) (fun _ _ _ hh h => h.of_heap hh) own started (by kernel_rfl) Tryd.func3
  (ChangeSpec.witness_shaped (enc := enc) (C := Tryd.checked) (os := os) (X := fun w _ => laidMetH Tryd.prog laidPow w) false (World.doorLaid Tryd.prog 400 os) #[.slice none 0 0] 8 rfl (World.shaped_of_RefB (by kernel_rfl) (by kernel_rfl)) (by kernel_rfl) (by kernel_rfl) (by kernel_rfl) (door_met os _)) ?_
 intro W base args ds gs before hval0 hW _ _ hL _
 have hval : ∀ (j : Nat) t v, Tryd.f3.params[j]? = some t → args[j]? = some v → Value.okWide Tryd.prog W .any base t v := hval0
 have hW' := hW
 obtain ⟨p, q, hA0, hV, rfl, hfz, hnd⟩ := hW
 have hA : DataW.TrodAll enc Tryd.prog W 0 (fun _ => true) true Tryd.f3.params.toList args.toList ds p := hA0
 rw [Tryd.params3] at hA hval
 obtain ⟨v0, vs0, d0, ds0, p0, q0, hargs, rfl, rfl, h0, r0⟩ := trodAll_cons hA
 obtain ⟨rfl, rfl, rfl⟩ := trodAll_nil r0
 obtain rfl : args = #[v0] := by cases args; simp_all
 obtain ⟨rfl, rfl⟩ := trodVars_none hV
 have k0 := h0
 have lt0 : ∀ x ∈ p0, x.block < W.heap.size := by obtain ⟨m, hm⟩ := k0; exact DataW.trod_lt m _ _ _ hm
 obtain ⟨o0, cap0, l0, rfl, hm0, hR0, hB80⟩ := open_bytes (hval 0 22 v0 rfl rfl) h0
 have hT := tab_of_laid hL
 clear hA0 hval0
 refine (lawCarriers o0 cap0 l0 W hm0 hR0 hB80 hT).mono fun e W' ⟨he, bel⟩ => ?_
 subst he
 exact ⟨_, rfl, _, _, _, [], _, [], hW', trodAll_mk1 (shut_bool Tryd.underlying4 _), (trodAll_cons_mk (Below.trod laidOut (by kernel_rfl) (of_decide_eq_true (by kernel_rfl)) k0 bel lt0) trodAll_mk0), rfl, bel.frame _, fun h => by cases h⟩

theorem fnCarriers_over : Rows.fnCarriersRow.holds Tryd.pinned (OpenSpec.ofChange Rows.fnCarriersSpec) :=
 OpenClaim.holds_of_wide 3 Tryd.f3 rfl rfl rfl rfl rfl rfl rfl ⟨rfl, rfl, rfl, rfl, rfl⟩ rfl rfl rfl rfl rfl (by kernel_rfl) Tryd.func3 (by kernel_rfl)
  (of_decide_eq_true (by kernel_rfl)) (by unfold Func.isWrapper; first | (rw [if_pos (by decide +kernel)]; kernel_rfl) | (rw [if_neg (by decide +kernel)]; exact ⟨rfl, rfl⟩))
  (fun os started H enc _ => fnCarriers_lifted os started H enc)

theorem fnCarriers_card : Rows.FnCarriersCardSaid :=
 Claim7.holds_tied_plain_at .later [] [.data, .data, .data] true (true, "83e354edf494c385adfbb89ff276fdc0b3ce3a9d238ea3352355d7d762bbaef2") false
  fnCarriers_over (fun _ h => by cases h) (by kernel_rfl) (fun _ h => by cases h) fnCarriers_row_tie rfl ⟨rfl, rfl⟩ (by kernel_rfl) rfl
  (fun f fn hf hfn => by
   obtain rfl : f = 3 := Option.some.inj ((show Tryd.prog.funcNamed Tryd.f3.name = some 3 by kernel_rfl).symm.trans hf) |>.symm
   obtain rfl : fn = Tryd.f3 := (Option.some.inj (Tryd.func3.symm.trans hfn)).symm
   exact ⟨by kernel_rfl, fun j t ht => by
    rw [Tryd.params3] at ht
    have hm : t ∈ [22] := by simpa using Array.mem_of_getElem? ht
    have hall : ([22].all fun u => !Tryd.prog.wantsStandIn u) = true := by kernel_rfl
    exact (show Tryd.prog.wantsStandIn t = false by simpa using List.all_eq_true.1 hall t hm)⟩)
  (by kernel_rfl)

end Go.Proofs.YtoeoiljddcjphaaDoor

