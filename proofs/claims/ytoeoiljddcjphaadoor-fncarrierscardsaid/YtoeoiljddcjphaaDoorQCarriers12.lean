/- Several texts in one: SRead, SRead2, PktMath, Wires. -/
import Derived.Test.YtoeoiljddcjphaaDoorQCarriers10
import Derived.Test.YtoeoiljddcjphaaDoorQCarriers11
/- PacketRead on both sides: a plain function, and the contracts. -/
namespace Go.Proofs.YtoeoiljddcjphaaDoor
open Go.ChangeShapes Go.WideShapes Go.ChangeAt Go.RowKit Go.Joins
set_option linter.unusedVariables false
set_option linter.unusedSimpArgs false

theorem pairAt0 (o : Option Addr) (cap : Nat) (l : List Int) (w : World) (hR : Rd w o l) (hB8 : isB l) (hlen : l.length ≤ 1048576) (hi : 0 < l.length) :
  Calls Tryd.prog 77 #[.slice o l.length cap, .int .i64 0] w fun e w' => e = .returned (.int .i64 (pairLS l 0)) ∧ w = w' := by
 have := pairAt_any o cap l 0 w hR hB8 hlen hi
 simpa using this
theorem pairAt2 (o : Option Addr) (cap : Nat) (l : List Int) (w : World) (hR : Rd w o l) (hB8 : isB l) (hlen : l.length ≤ 1048576) (hi : 2 < l.length) :
  Calls Tryd.prog 77 #[.slice o l.length cap, .int .i64 2] w fun e w' => e = .returned (.int .i64 (pairLS l 2)) ∧ w = w' := by
 have := pairAt_any o cap l 2 w hR hB8 hlen hi
 simpa using this
theorem pairAt4 (o : Option Addr) (cap : Nat) (l : List Int) (w : World) (hR : Rd w o l) (hB8 : isB l) (hlen : l.length ≤ 1048576) (hi : 4 < l.length) :
  Calls Tryd.prog 77 #[.slice o l.length cap, .int .i64 4] w fun e w' => e = .returned (.int .i64 (pairLS l 4)) ∧ w = w' := by
 have := pairAt_any o cap l 4 w hR hB8 hlen hi
 simpa using this

set_option maxRecDepth 100000 in
set_option maxHeartbeats 400000 in
theorem unpack_any (o : Option Addr) (cap : Nat) (L : List Int) (w : World) (hR : Rd w o L) (hB8 : isB L) (h10 : 10 ≤ L.length) (hlen : L.length ≤ 1048576) (hcap : L.length ≤ cap) (hcm : cap ≤ maxLen) :
  Calls Tryd.prog 75 #[.slice o L.length cap] w fun e w' => ∃ v, e = .returned (pkt (pairLS L 0) (pairLS L 2) (L.getD 6 0) (pairLS L 4) v) ∧ ownB w' w.heap.size v (L.drop 10) ∧ Below w.heap.size w w' := by
 have hR0 := hR
 rcases hR with hR | ⟨b, off, rfl, hbl, hcell⟩
 ·subst hR; simp at h10
 unfold maxLen at hcm
 have c6 := hcell 6 (by omega)
 have b6 := hB8.get 6
 have hi6 : (6 : Int) < (L.length : Int) := by omega
 have hi10 : (10 : Int) ≤ (L.length : Int) := by omega
 by_cases hc10 : cap = 10
 ·subst hc10
  have hRo : Rd w (some ⟨b, off, none⟩) (L.drop 10) := .inl (List.drop_eq_nil_of_le (by omega))
  have E5 := empty5_new w 26
  have p0 := hide (fun w h => pairAt0 (some ⟨b, off, none⟩) 10 L w h hB8 hlen (by omega))
  have p2 := hide (fun w h => pairAt2 (some ⟨b, off, none⟩) 10 L w h hB8 hlen (by omega))
  have p4 := hide (fun w h => pairAt4 (some ⟨b, off, none⟩) 10 L w h hB8 hlen (by omega))
  generalize hx6 : L.getD 6 0 = x6 at *
  clear hx6 hcell
  have hw6 := wrap_i64 x6 b6.1 (by omega)
  have HW6 := hide hw6
  clear hw6
  go_enter Tryd.func75, Tryd.ntmps75
  go_wp2
  generalize hw0 : w.alloc (.cells #[.int .i64 0, .int .i64 0, .int .i64 0, .int .i64 0, .slice none 0 0] 26) = w0 at *
  have hk0 : w.heap.size < w0.heap.size := by rw [← hw0]; simp
  have hsz0 : w0.heap.size = w.heap.size + 1 := by rw [← hw0]; simp
  have HZ := hide hsz0
  have hB0 : Below w.heap.size w w0 := by rw [← hw0]; exact (Below.refl _ _).alloc (Nat.le_refl _) _
  clear hw0 hsz0
  have hRd0 : Rd w0.drew (some ⟨b, off, none⟩) L := hR0.kept (Below.drew hB0)
  replace c6 : w0.cell? ⟨b, off + 6, none⟩ = some (.int .u8 x6) := (hB0.cell (p := ⟨b, off + 6, none⟩) hbl).trans c6
  have c6d : w0.drew.cell? ⟨b, off + 6, none⟩ = some (.int .u8 x6) := c6
  have hne : b ≠ w.heap.size := by omega
  have E50 := E5
  obtain ⟨⟨e0, e1, e2, e3, e4⟩, f0, f1, f2, f3, f4⟩ := E50
  go_region_held3 (fun w' => w'.cell? ⟨b, off + 6, none⟩ = some (.int .u8 x6)) (first | with_reducible exact d6 | with_reducible exact c6 | with_reducible exact c6d | with_reducible exact far_box hne d6) (first | (go_at_call_of 77 (Value.int .i64 0); refine (p0.out _ ?_).mono ?_; (first | exact hRd1 | exact hRd0); rintro e w2 ⟨rfl, rfl⟩) | (go_at_call_of 77 (Value.int .i64 2); refine (p2.out _ ?_).mono ?_; (first | exact hRd1 | exact hRd0); rintro e w2 ⟨rfl, rfl⟩) | (go_at_call_of 77 (Value.int .i64 4); refine (p4.out _ ?_).mono ?_; (first | exact hRd1 | exact hRd0); rintro e w2 ⟨rfl, rfl⟩) | (refine step_append_bytes rfl (.const (.slice none 0 0)) (.tmp 15) rfl (w.heap.size + 1) _ [] rfl (World.ownsRow_nil _ _ _ _) (some ⟨b, off, none⟩) 0 (L.drop 10) 0 (by simp; omega) (by simp [Act.eval, Act.put]) (by simp) (hRo.kept (by exact Below.drew hB0)) (by simp; omega) (by have := HZ.out; simp; omega) ?_; intro v1 w1 hv1 hb1; obtain ⟨ov, cv, hve, hro⟩ := hv1.open; rw [hve] at hv1 ⊢; replace hb1 : Below (w.heap.size + 1) w0 w1 := (Below.drew (Below.refl _ _)).trans hb1; have d6 := (hb1.cell (p := ⟨b, off + 6, none⟩) (Nat.lt_succ_of_lt hbl)).trans c6; have E51 := E5.kept hb1 (Nat.lt_succ_self _); obtain ⟨⟨d0, d1, d2, d3, d4⟩, g0, g1, g2, g3, g4⟩ := E51))
  go_wp2
  refine bodyPost_ret (v := pkt (pairLS L 0) (pairLS L 2) x6 (pairLS L 4) (.slice ov (L.drop 10).length cv)) (by simp [results, Tryd.results75, go_sem, d0, d1, d2, d3, d4]; exact ⟨HW6.out, by omega⟩) rfl ⟨_, rfl, ?_, ?_⟩
  ·refine own_mono (base := w.heap.size + 1) ?_ (Nat.le_succ _)
   repeat (refine ownsRow_setCell_below ?_ (Nat.lt_succ_self _) _)
   exact hv1
  ·refine Below.setCell (Below.setCell (Below.setCell (Below.setCell (Below.setCell (hB0.trans (hb1.mono (Nat.le_succ _))) ?_ _) ?_ _) ?_ _) ?_ _) ?_ _ <;> exact Nat.le_refl _
 ·have hRo : Rd w (some ⟨b, off + 10, none⟩) (L.drop 10) := by
   right
   refine ⟨b, off + 10, rfl, hbl, fun i hi => ?_⟩
   have h1 := hcell (10 + i) (by simp at hi; omega)
   rw [Nat.add_assoc, h1]
   simp [List.getD_eq_getElem?_getD]
  have E5 := empty5_new w 26
  have p0 := hide (fun w h => pairAt0 (some ⟨b, off, none⟩) cap L w h hB8 hlen (by omega))
  have p2 := hide (fun w h => pairAt2 (some ⟨b, off, none⟩) cap L w h hB8 hlen (by omega))
  have p4 := hide (fun w h => pairAt4 (some ⟨b, off, none⟩) cap L w h hB8 hlen (by omega))
  generalize hx6 : L.getD 6 0 = x6 at *
  clear hx6 hcell
  have hw6 := wrap_i64 x6 b6.1 (by omega)
  have HW6 := hide hw6
  clear hw6
  go_enter Tryd.func75, Tryd.ntmps75
  go_wp2
  generalize hw0 : w.alloc (.cells #[.int .i64 0, .int .i64 0, .int .i64 0, .int .i64 0, .slice none 0 0] 26) = w0 at *
  have hk0 : w.heap.size < w0.heap.size := by rw [← hw0]; simp
  have hsz0 : w0.heap.size = w.heap.size + 1 := by rw [← hw0]; simp
  have HZ := hide hsz0
  have hB0 : Below w.heap.size w w0 := by rw [← hw0]; exact (Below.refl _ _).alloc (Nat.le_refl _) _
  clear hw0 hsz0
  have hRd0 : Rd w0.drew (some ⟨b, off, none⟩) L := hR0.kept (Below.drew hB0)
  replace c6 : w0.cell? ⟨b, off + 6, none⟩ = some (.int .u8 x6) := (hB0.cell (p := ⟨b, off + 6, none⟩) hbl).trans c6
  have c6d : w0.drew.cell? ⟨b, off + 6, none⟩ = some (.int .u8 x6) := c6
  have hne : b ≠ w.heap.size := by omega
  have E50 := E5
  obtain ⟨⟨e0, e1, e2, e3, e4⟩, f0, f1, f2, f3, f4⟩ := E50
  go_region_held3 (fun w' => w'.cell? ⟨b, off + 6, none⟩ = some (.int .u8 x6)) (first | with_reducible exact d6 | with_reducible exact c6 | with_reducible exact c6d | with_reducible exact far_box hne d6) (first | (go_at_call_of 77 (Value.int .i64 0); refine (p0.out _ ?_).mono ?_; (first | exact hRd1 | exact hRd0); rintro e w2 ⟨rfl, rfl⟩) | (go_at_call_of 77 (Value.int .i64 2); refine (p2.out _ ?_).mono ?_; (first | exact hRd1 | exact hRd0); rintro e w2 ⟨rfl, rfl⟩) | (go_at_call_of 77 (Value.int .i64 4); refine (p4.out _ ?_).mono ?_; (first | exact hRd1 | exact hRd0); rintro e w2 ⟨rfl, rfl⟩) | (refine step_append_bytes rfl (.const (.slice none 0 0)) (.tmp 15) rfl (w.heap.size + 1) _ [] rfl (World.ownsRow_nil _ _ _ _) (some ⟨b, off + 10, none⟩) (cap - 10) (L.drop 10) (L.length - 10) (by simp) (by simp [Act.eval, Act.put]) (by simp) (hRo.kept (by exact Below.drew hB0)) (by simp; omega) (by have := HZ.out; simp; omega) ?_; intro v1 w1 hv1 hb1; obtain ⟨ov, cv, hve, hro⟩ := hv1.open; rw [hve] at hv1 ⊢; replace hb1 : Below (w.heap.size + 1) w0 w1 := (Below.drew (Below.refl _ _)).trans hb1; have d6 := (hb1.cell (p := ⟨b, off + 6, none⟩) (Nat.lt_succ_of_lt hbl)).trans c6; have E51 := E5.kept hb1 (Nat.lt_succ_self _); obtain ⟨⟨d0, d1, d2, d3, d4⟩, g0, g1, g2, g3, g4⟩ := E51))
  go_wp2
  refine bodyPost_ret (v := pkt (pairLS L 0) (pairLS L 2) x6 (pairLS L 4) (.slice ov (L.drop 10).length cv)) (by simp [results, Tryd.results75, go_sem, d0, d1, d2, d3, d4]; exact HW6.out) rfl ⟨_, rfl, ?_, ?_⟩
  ·refine own_mono (base := w.heap.size + 1) ?_ (Nat.le_succ _)
   repeat (refine ownsRow_setCell_below ?_ (Nat.lt_succ_self _) _)
   exact hv1
  ·refine Below.setCell (Below.setCell (Below.setCell (Below.setCell (Below.setCell (hB0.trans (hb1.mono (Nat.le_succ _))) ?_ _) ?_ _) ?_ _) ?_ _) ?_ _ <;> exact Nat.le_refl _

end Go.Proofs.YtoeoiljddcjphaaDoor

/- PacketRead of the program: its contract. -/
namespace Go.Proofs.YtoeoiljddcjphaaDoor
open Go.ChangeShapes Go.WideShapes Go.ChangeAt Go.RowKit Go.Joins
set_option linter.unusedVariables false
set_option linter.unusedSimpArgs false

/-- Are these bytes those of a packet? -/
def okR (L : List Int) : Bool :=
 decide (10 ≤ L.length) && packetOkB (pairLS L 0) (pairLS L 2) (L.getD 6 0) (pairLS L 4) (L.drop 10).length && decide (packetL (pairLS L 0) (pairLS L 2) (L.getD 6 0) (pairLS L 4) (L.drop 10) = L)
def rdN (L : List Int) (n : Int) : Int := if okR L = true then n else 0
def rdL (L : List Int) : List Int := if okR L = true then L.drop 10 else []
theorem okR_iff {L : List Int} : okR L = true ↔ 10 ≤ L.length ∧ packetOkB (pairLS L 0) (pairLS L 2) (L.getD 6 0) (pairLS L 4) (L.drop 10).length = true ∧ packetL (pairLS L 0) (pairLS L 2) (L.getD 6 0) (pairLS L 4) (L.drop 10) = L ∧ True := by
 simp [okR, and_assoc]
/-- What PacketRead answers. -/
def readPost (L : List Int) (w : World) (e : Ending) (w' : World) : Prop :=
 ∃ v, e = .returned (.tuple #[pkt (rdN L (pairLS L 0)) (rdN L (pairLS L 2)) (rdN L (L.getD 6 0)) (rdN L (pairLS L 4)) v, .bool (okR L)]) ∧ ownB w' w.heap.size v (rdL L) ∧ Below w.heap.size w w'
theorem readPost_no {L : List Int} {w w' : World} (h : okR L = false) (hb : Below w.heap.size w w') : readPost L w (.returned (.tuple #[pkt 0 0 0 0 (.slice none 0 0), .bool false])) w' := by
 refine ⟨.slice none 0 0, ?_, ?_, hb⟩
 ·simp [rdN, h]
 ·simp [rdL, h]; exact World.ownsRow_nil _ _ _ _
theorem readPost_yes {L : List Int} {w w' : World} {v : Value} (h : okR L = true) (hv : ownB w' w.heap.size v (L.drop 10)) (hb : Below w.heap.size w w') : readPost L w (.returned (.tuple #[pkt (pairLS L 0) (pairLS L 2) (L.getD 6 0) (pairLS L 4) v, .bool true])) w' := by
 refine ⟨v, ?_, ?_, hb⟩
 ·simp [rdN, h]
 ·simp only [rdL, h, if_true]; exact hv

theorem drop_isB {L : List Int} (h : isB L) (n : Nat) : isB (L.drop n) := fun x hx => h x (List.mem_of_mem_drop hx)
theorem packetL_isB {a b f s : Int} {l : List Int} (h : isB l) (hl : l.length ≤ 16) (ha : 0 ≤ a ∧ a < 65536) (hb : 0 ≤ b ∧ b < 65536) (hf : 0 ≤ f ∧ f < 16) (hs : 0 ≤ s ∧ s < 65536) : isB (packetL a b f s l) := by
 have hp := preL_isB h hl ha hb hf hs
 have hc : 0 ≤ checkL (preL a b f s l) ∧ checkL (preL a b f s l) ≤ 65535 := by have := sumTo_bd hp (((preL a b f s l).length + 1) / 2); unfold checkL; omega
 intro n hn
 unfold packetL at hn
 generalize checkL (preL a b f s l) = c at *
 rcases List.mem_or_eq_of_mem_set hn with h1 | h1
 ·rcases List.mem_or_eq_of_mem_set h1 with h2 | h2
  ·exact hp n h2
  ·omega
 ·omega

set_option maxHeartbeats 2000000 in
theorem implPacketRead_any (o : Option Addr) (cap : Nat) (L : List Int) (w : World) (hR : Rd w o L) (hB8 : isB L) (hlen : L.length ≤ 1048576) (hcap : L.length ≤ cap) (hcm : cap ≤ maxLen) :
  Calls Tryd.prog 42 #[.slice o L.length cap] w fun e w' => readPost L w e w' := by
 have hB : Below w.heap.size w w := Below.refl _ _
 have E5 := empty5_new w 26
 by_cases h10 : 10 ≤ L.length
 ·have hun := hide (fun w h => unpack_any o cap L w h hB8 h10 hlen hcap hcm)
  have hyes := hide (fun w' v => readPost_yes (L := L) (w := w) (w' := w') (v := v))
  have hno := hide (fun w' => readPost_no (L := L) (w := w) (w' := w'))
  have hiff := hide (okR_iff (L := L))
  have hb10 := drop_isB hB8 10
  have hm10 : (L.drop 10).length ≤ maxLen := by simp; unfold maxLen; omega
  generalize pairLS L 0 = pa at *
  generalize pairLS L 2 = pb at *
  generalize L.getD 6 0 = pf at *
  generalize pairLS L 4 = ps at *
  generalize L.drop 10 = B at *
  go_enter Tryd.func42, Tryd.ntmps42
  go_wp2_with fail
  generalize hw0 : w.alloc (.cells #[.int .i64 0, .int .i64 0, .int .i64 0, .int .i64 0, .slice none 0 0] 26) = w0 at *
  have hk0 : w.heap.size < w0.heap.size := by rw [← hw0]; simp
  have hB0 : Below w.heap.size w w0 := by rw [← hw0]; exact (Below.refl _ _).alloc (Nat.le_refl _) _
  clear hw0
  refine (hun.out _ (hR.kept hB0)).mono ?_
  rintro e wa ⟨va, rfl, hova, hba⟩
  have hBa : Below w.heap.size w wa := hB0.trans (hba.mono (Nat.le_of_lt hk0))
  have hka : w.heap.size < wa.heap.size := Nat.lt_of_lt_of_le hk0 hba.size
  replace E5 := E5.kept hba hk0
  obtain ⟨oa, ca, hva, hRa⟩ := hova.open
  have hna : oa = none → ca = 0 := by
   intro h; subst h; rcases hova.2 with ⟨h1, _⟩ | ⟨g, c, cur, h1, _⟩
   ·rw [hva] at h1; simp at h1; exact h1.2
   ·rw [hva] at h1; simp at h1
  rw [hva] at hova ⊢
  have BX := boxed_new wa pa pb pf ps (.slice oa B.length ca) 26
  go_wp2_with fail
  generalize hwb : wa.alloc (.cells #[.int .i64 pa, .int .i64 pb, .int .i64 pf, .int .i64 ps, .slice oa B.length ca] 26) = wb at *
  have hbb : Below wa.heap.size wa wb := by rw [← hwb]; exact (Below.refl _ _).alloc (Nat.le_refl _) _
  have hxb : wa.heap.size < wb.heap.size := by rw [← hwb]; simp
  clear hwb
  refine (implPacketBytes_any pa pb pf ps oa ca B _ (hRa.kept hbb) hna hb10 hm10).mono ?_
  rintro e wc ⟨vc, rfl, hovc, hbc⟩
  have hBc : Below w.heap.size w wc := hBa.trans ((hbb.mono (Nat.le_of_lt hka)).trans (hbc.mono (by have := hbb.size; omega)))
  have hac : Below wa.heap.size wa wc := hbb.trans (hbc.mono (Nat.le_of_lt hxb))
  replace E5 := E5.kept hac hka
  replace BX := BX.kept hbc hxb
  have hova' : ownB wc w0.heap.size (.slice oa B.length ca) B := own_kept hova hac
  clear hun hva hRa hova
  obtain ⟨⟨d0, d1, d2, d3, d4⟩, g0, g1, g2, g3, g4⟩ := E5
  obtain ⟨y0, y1, y2, y3, y4⟩ := BX
  by_cases hpk : packetOkB pa pb pf ps B.length = true
  ·obtain ⟨hl16, ha, hb, hf, hs⟩ := packetOk_bd hpk
   have hLB := packetL_isB hb10 hl16 ha hb hf hs
   rw [bytesL, if_pos hpk] at hovc
   obtain ⟨oc, cc, hvc, hRc⟩ := hovc.open
   have hek := hide (fun w h1 h2 => bytesEqual_any oc o cc cap (packetL pa pb pf ps B) L w h1 h2 hLB hB8)
   rw [hvc]
   clear hovc
   generalize hPL : packetL pa pb pf ps B = PL at *
   by_cases heq : PL = L
   ·have HY : Hid (okR L = true) := hiff.out.2 ⟨h10, hpk, heq, trivial⟩
    have hd : decide (PL = L) = true := by simp [heq]
    rw [hd] at hek
    clear heq hPL
    go_wp2_with (go_at_call 76; refine (hek.out _ hRc (hR.kept hBc)).mono ?_; rintro e wd ⟨rfl, rfl⟩)
    refine bodyPost_ret (v := .tuple #[pkt pa pb pf ps (.slice oa B.length ca), .bool true]) (by simp [results, Tryd.results42, go_sem, d0, d1, d2, d3, d4]) rfl (hyes.out _ _ HY.out ?_ ?_)
    ·refine own_mono (base := w0.heap.size) ?_ (Nat.le_of_lt hk0)
     repeat (refine ownsRow_setCell_below ?_ hk0 _)
     exact hova'
    ·exact Below.setCell (Below.setCell (Below.setCell (Below.setCell (Below.setCell hBc (Nat.le_refl _) _) (Nat.le_refl _) _) (Nat.le_refl _) _) (Nat.le_refl _) _) (Nat.le_refl _) _
   ·have HN : Hid (okR L = false) := by
     unfold Hid; rw [Bool.eq_false_iff]; intro h; exact heq (hiff.out.1 h).2.2.1
    have hd : decide (PL = L) = false := by simp [heq]
    rw [hd] at hek
    clear heq hPL
    go_wp2_with (go_at_call 76; refine (hek.out _ hRc (hR.kept hBc)).mono ?_; rintro e wd ⟨rfl, rfl⟩)
    refine bodyPost_ret (v := .tuple #[pkt 0 0 0 0 (.slice none 0 0), .bool false]) (by simp [results, Tryd.results42, go_sem, d0, d1, d2, d3, d4]) rfl (hno.out _ HN.out ?_)
    exact Below.setCell (Below.setCell (Below.setCell (Below.setCell (Below.setCell hBc (Nat.le_refl _) _) (Nat.le_refl _) _) (Nat.le_refl _) _) (Nat.le_refl _) _) (Nat.le_refl _) _
  ·have HN : Hid (okR L = false) := by
    unfold Hid; rw [Bool.eq_false_iff]; intro h; exact hpk (hiff.out.1 h).2.1
   have hpk' := Bool.eq_false_iff.2 hpk
   go_wp2
   refine bodyPost_ret (v := .tuple #[pkt 0 0 0 0 (.slice none 0 0), .bool false]) (by simp [results, Tryd.results42, go_sem, d0, d1, d2, d3, d4]) rfl (hno.out _ HN.out ?_)
   exact Below.setCell (Below.setCell (Below.setCell (Below.setCell (Below.setCell hBc (Nat.le_refl _) _) (Nat.le_refl _) _) (Nat.le_refl _) _) (Nat.le_refl _) _) (Nat.le_refl _) _
 ·have HN : Hid (okR L = false) := by
   unfold Hid; rw [Bool.eq_false_iff]; intro h; exact h10 (okR_iff.1 h).1
  go_enter Tryd.func42, Tryd.ntmps42
  go_wp2
  refine bodyPost_ret (v := .tuple #[pkt 0 0 0 0 (.slice none 0 0), .bool false]) (by simp [results, Tryd.results42, go_sem]) rfl (readPost_no HN.out (by (repeat (first | with_reducible exact hB | with_reducible exact Below.refl _ _ | with_reducible refine Below.drew ?_ | with_reducible refine below_drewN ?_ _ | with_reducible refine Below.alloc ?_ ?_ _ | with_reducible refine Below.setCell ?_ ?_ _ | (focus (simp; done)) | (focus (simp; omega)) | omega))))

end Go.Proofs.YtoeoiljddcjphaaDoor

/- A packet's bytes: they are read as it, and their sum is nought. -/
namespace Go.Proofs.YtoeoiljddcjphaaDoor
open Go.ChangeShapes Go.WideShapes Go.ChangeAt Go.RowKit Go.Joins
set_option linter.unusedVariables false
set_option linter.unusedSimpArgs false

theorem packetL_eq (a b f s : Int) (l : List Int) : packetL a b f s l = [a / 256, a % 256, b / 256, b % 256, s / 256, s % 256, f, (l.length : Int), checkL (preL a b f s l) / 256, checkL (preL a b f s l) % 256] ++ l := by
 simp [packetL, preL, wordL]
theorem packet_parts (a b f s : Int) (l : List Int) : pairLS (packetL a b f s l) 0 = a ∧ pairLS (packetL a b f s l) 2 = b ∧ pairLS (packetL a b f s l) 4 = s ∧ (packetL a b f s l).getD 6 0 = f ∧ (packetL a b f s l).drop 10 = l ∧ 10 ≤ (packetL a b f s l).length := by
 rw [packetL_eq]
 refine ⟨?_, ?_, ?_, ?_, ?_, ?_⟩
 ·simp [pairLS]; omega
 ·simp [pairLS]; omega
 ·simp [pairLS]; omega
 ·simp
 ·simp
 ·simp
theorem packet_back {a b f s : Int} {l : List Int} (h : packetOkB a b f s l.length = true) : okR (packetL a b f s l) = true := by
 obtain ⟨h0, h2, h4, h6, h10, hl⟩ := packet_parts a b f s l
 rw [okR_iff, h0, h2, h4, h6, h10]
 exact ⟨hl, h, rfl, trivial⟩

theorem packetL_length (a b f s : Int) (l : List Int) : (packetL a b f s l).length = 10 + l.length := by rw [packetL_eq]; simp; omega
end Go.Proofs.YtoeoiljddcjphaaDoor

/- The laws' little look at wires: it answers true. -/
namespace Go.Proofs.YtoeoiljddcjphaaDoor
open Go.ChangeShapes Go.WideShapes Go.ChangeAt Go.RowKit Go.Joins
set_option linter.unusedVariables false
set_option linter.unusedSimpArgs false

def wireL : List Int := [0, 1, 0, 80, 0, 7, 1, 0, 254, 167]
theorem wire_ok : packetOkB 1 80 1 7 ([] : List Int).length = true := by decide +kernel
theorem wire_bytes : bytesL 1 80 1 7 [] = wireL := by decide +kernel
theorem wire_read : okR wireL = true ∧ rdN wireL (pairLS wireL 4) = 7 ∧ sumL wireL = 0 := by decide +kernel

set_option maxHeartbeats 2000000 in
theorem wires_any (w : World) : Calls Tryd.prog 13 #[] w fun e w' => e = .returned (.bool true) ∧ Below w.heap.size w w' := by
 have hB : Below w.heap.size w w := Below.refl _ _
 have hpb := hide (fun w => implPacketBytes_any 1 80 1 7 none 0 [] w (.inl rfl) (fun _ => rfl) (fun x hx => by cases hx) (Nat.zero_le _))
 rw [wire_ok, wire_bytes] at hpb
 have hb8 : isB wireL := by intro n hn; simp [wireL] at hn; omega
 have hrd := hide (fun w o cap h hc hm => implPacketRead_any o cap wireL w h hb8 (by decide) hc hm)
 unfold readPost at hrd
 rw [wire_read.1, wire_read.2.1] at hrd
 have hcs := hide (fun w o cap h => implCheckSum_any o cap wireL w h hb8 (by decide))
 rw [wire_read.2.2] at hcs
 go_enter Tryd.func13, Tryd.ntmps13
 go_wp2_with fail
 refine (hpb.out _).mono ?_
 rintro e wa ⟨va, rfl, hova, hba⟩
 obtain ⟨oa, ca, hva, hRa⟩ := hova.open
 have hca : wireL.length ≤ ca ∧ ca ≤ maxLen := by
  rcases hova.2 with ⟨_, h2⟩ | ⟨g, c, cur, h1, _, _, h4, h5, _⟩
  ·simp [wireL] at h2
  ·rw [hva] at h1; simp at h1; omega
 rw [hva]
 have hRa' := hide hRa
 have hl10 : wireL.length = 10 := rfl
 generalize hW : wireL.length = n10 at *
 subst hl10
 clear hova hva hRa
 go_wp2_with fail
 refine (hrd.out _ _ _ hRa'.out hca.1 hca.2).mono ?_
 rintro e wb ⟨vb, rfl, hovb, hbb⟩
 obtain ⟨ob, cb, hvb, _⟩ := hovb.open
 rw [hvb]
 generalize rdN wireL (pairLS wireL 0) = r0
 generalize rdN wireL (pairLS wireL 2) = r1
 generalize rdN wireL (wireL.getD 6 0) = r2
 generalize (rdL wireL).length = r3
 have hBb : Below w.heap.size w wb := hba.trans (hbb.mono hba.size)
 have hsb : w.heap.size ≤ wb.heap.size := hBb.size
 have hRb := hide (hRa'.out.kept hbb)
 clear hovb hvb
 go_wp2_with fail
 refine (hcs.out _ _ _ (hRb.out.kept ((Below.refl _ _).alloc (Nat.le_refl _) _))).mono ?_
 rintro e wc ⟨rfl, rfl⟩
 go_wp2
 go_ret
 exact ⟨rfl, hBb.alloc hsb _⟩

end Go.Proofs.YtoeoiljddcjphaaDoor

