/- PacketRead of the model: its contract. -/
import Derived.Test.YtoeoiljddcjphaaSRead2
import Derived.Test.YtoeoiljddcjphaaSRead2b
namespace Go.Proofs.Ytoeoiljddcjphaa
open Go.ChangeShapes Go.WideShapes Go.ChangeAt Go.RowKit Go.Joins
set_option linter.unusedVariables false
set_option linter.unusedSimpArgs false

set_option maxRecDepth 100000 in
set_option maxHeartbeats 8000000 in
theorem specPacketRead_at10 (b off cap n : Nat) (L : List Int) (hn : n = L.length) (w : World) (hR : Rd w (some ⟨b, off, none⟩) L) (hbl : b < w.heap.size) (hcell : ∀ i, i < L.length → w.cell? ⟨b, off + i, none⟩ = some (.int .u8 (L.getD i 0))) (hB8 : isB L) (h10 : 10 ≤ n) (hlen : n ≤ 1048576) (hcap : n ≤ cap) (hcm : cap ≤ maxLen)
    (h7 : (n : Int) = 10 + L.getD 7 0) (hc10 : cap = 10) :
    Calls Try.prog 42 #[.slice (some ⟨b, off, none⟩) n cap] w fun e w' => readPost L w e w' := by
  have hyes := hide (fun w' v => readPost_yes (L := L) (w := w) (w' := w') (v := v))
  have hno := hide (fun w' => readPost_no (L := L) (w := w) (w' := w'))
  have hiff := hide (okR_iff (L := L))
  have hb10 := drop_isB hB8 10
  have hm10 : (L.drop 10).length ≤ maxLen := by simp; unfold maxLen; omega
  unfold maxLen at hcm
  have hi10 : (10 : Int) ≤ (n : Int) := by omega
  have hp0 : 0 < n := by omega
  have hi0 : (0 : Int) < (n : Int) := by omega
  have c0 := hcell 0 (by omega)
  have b0 := hB8.get 0
  have hi1 : (1 : Int) < (n : Int) := by omega
  have c1 := hcell 1 (by omega)
  have b1 := hB8.get 1
  have hi2 : (2 : Int) < (n : Int) := by omega
  have c2 := hcell 2 (by omega)
  have b2 := hB8.get 2
  have hi3 : (3 : Int) < (n : Int) := by omega
  have c3 := hcell 3 (by omega)
  have b3 := hB8.get 3
  have hi4 : (4 : Int) < (n : Int) := by omega
  have c4 := hcell 4 (by omega)
  have b4 := hB8.get 4
  have hi5 : (5 : Int) < (n : Int) := by omega
  have c5 := hcell 5 (by omega)
  have b5 := hB8.get 5
  have hi6 : (6 : Int) < (n : Int) := by omega
  have c6 := hcell 6 (by omega)
  have b6 := hB8.get 6
  have hi7 : (7 : Int) < (n : Int) := by omega
  have c7 := hcell 7 (by omega)
  have b7 := hB8.get 7
  simp only [Nat.add_zero] at c0
  unfold pairLS at hyes hiff
  have hRo2 : cap ≠ 10 → Rd w (some ⟨b, off + 10, none⟩) (L.drop 10) := by
    intro _
    right
    refine ⟨b, off + 10, rfl, hbl, fun i hi => ?_⟩
    have h1 := hcell (10 + i) (by simp at hi; omega)
    rw [Nat.add_assoc, h1]
    simp [List.getD_eq_getElem?_getD]
  have hRo1 : cap = 10 → Rd w (some ⟨b, off, none⟩) (L.drop 10) := fun h => .inl (List.drop_eq_nil_of_le (by omega))
  have HR1 := hide hRo1
  have HR2 := hide hRo2
  clear hcell hRo1 hRo2
  generalize L.getD 0 0 = x0 at *
  generalize L.getD 1 0 = x1 at *
  generalize L.getD 2 0 = x2 at *
  generalize L.getD 3 0 = x3 at *
  generalize L.getD 4 0 = x4 at *
  generalize L.getD 5 0 = x5 at *
  generalize L.getD 6 0 = x6 at *
  generalize L.getD 7 0 = x7 at *
  have hwx0 := wrap_i64 x0 b0.1 (by omega)
  have hwx1 := wrap_i64 x1 b1.1 (by omega)
  have hwx2 := wrap_i64 x2 b2.1 (by omega)
  have hwx3 := wrap_i64 x3 b3.1 (by omega)
  have hwx4 := wrap_i64 x4 b4.1 (by omega)
  have hwx5 := wrap_i64 x5 b5.1 (by omega)
  have hwx6 := wrap_i64 x6 b6.1 (by omega)
  have hwm0 := wrap_i64 (x0 * 256) (by omega) (by omega)
  have hws0 := wrap_i64 (x0 * 256 + x1) (by omega) (by omega)
  have hwm2 := wrap_i64 (x2 * 256) (by omega) (by omega)
  have hws2 := wrap_i64 (x2 * 256 + x3) (by omega) (by omega)
  have hwm4 := wrap_i64 (x4 * 256) (by omega) (by omega)
  have hws4 := wrap_i64 (x4 * 256 + x5) (by omega) (by omega)
  have hne : ((n : Int) != 10 + x7) = false := by simp [h7]
  have h7' := hide h7
  have HN := hide hn
  clear h7 hn
  have hB : Below w.heap.size w w := Below.refl _ _
  have E5 := empty5_new w 26
  have K1 : Hid (∀ w', Below w.heap.size w w' → (fun w' => w'.cell? ⟨b, off, none⟩ = some (.int .u8 x0) ∧ w'.cell? ⟨b, off + 1, none⟩ = some (.int .u8 x1) ∧ w'.cell? ⟨b, off + 2, none⟩ = some (.int .u8 x2) ∧ w'.cell? ⟨b, off + 3, none⟩ = some (.int .u8 x3) ∧ w'.cell? ⟨b, off + 4, none⟩ = some (.int .u8 x4) ∧ w'.cell? ⟨b, off + 5, none⟩ = some (.int .u8 x5) ∧ w'.cell? ⟨b, off + 6, none⟩ = some (.int .u8 x6)) w') := fun w' h => ⟨(h.cell (p := ⟨b, off, none⟩) hbl).trans c0, (h.cell (p := ⟨b, off + 1, none⟩) hbl).trans c1, (h.cell (p := ⟨b, off + 2, none⟩) hbl).trans c2, (h.cell (p := ⟨b, off + 3, none⟩) hbl).trans c3, (h.cell (p := ⟨b, off + 4, none⟩) hbl).trans c4, (h.cell (p := ⟨b, off + 5, none⟩) hbl).trans c5, (h.cell (p := ⟨b, off + 6, none⟩) hbl).trans c6⟩
  have hRo := HR1.out hc10
  subst hc10
  go_enter Try.func42, Try.ntmps42
  go_wp2
  generalize hw0 : w.alloc (.cells #[.int .i64 0, .int .i64 0, .int .i64 0, .int .i64 0, .slice none 0 0] 26) = w0 at *
  have hk0 : w.heap.size < w0.heap.size := by rw [← hw0]; simp
  have hB0 : Below w.heap.size w w0 := by rw [← hw0]; exact (Below.refl _ _).alloc (Nat.le_refl _) _
  clear hw0
  go_region_held3 (fun w' => w'.cell? ⟨b, off, none⟩ = some (.int .u8 x0) ∧ w'.cell? ⟨b, off + 1, none⟩ = some (.int .u8 x1) ∧ w'.cell? ⟨b, off + 2, none⟩ = some (.int .u8 x2) ∧ w'.cell? ⟨b, off + 3, none⟩ = some (.int .u8 x3) ∧ w'.cell? ⟨b, off + 4, none⟩ = some (.int .u8 x4) ∧ w'.cell? ⟨b, off + 5, none⟩ = some (.int .u8 x5) ∧ w'.cell? ⟨b, off + 6, none⟩ = some (.int .u8 x6)) (first | exact K1.out _ (by exact Below.drew hB0) | exact K1.out _ (by exact (Below.drew hB0).alloc (Nat.le_of_lt hk0) _) | exact K1.out _ (by exact Below.drew (hB0.alloc (Nat.le_of_lt hk0) _))) (fail)
  have BX := boxed_new w0 (x0 * 256 + x1) (x2 * 256 + x3) x6 (x4 * 256 + x5) (.slice none 0 0) 26
  generalize hw3 : w0.alloc (.cells #[.int .i64 (x0 * 256 + x1), .int .i64 (x2 * 256 + x3), .int .i64 x6, .int .i64 (x4 * 256 + x5), .slice none 0 0] 26) = w3 at *
  have hk3 : w0.heap.size < w3.heap.size := by rw [← hw3]; simp
  have hb3 : Below w0.heap.size w0 w3 := by rw [← hw3]; exact (Below.refl _ _).alloc (Nat.le_refl _) _
  have F3 : w3.frozen? ⟨w0.heap.size, 4, none⟩ = false := by rw [← hw3]; simp
  have hB3 : Below w.heap.size w w3 := hB0.trans (hb3.mono (Nat.le_of_lt hk0))
  replace E5 := E5.kept hb3 hk0
  have hs3 : w.heap.size ≤ w3.heap.size := hB3.size
  clear hw3
  go_wp2_with (at_builtin; go_loud (refine wpList_append_bytes_m rfl (.tmp 55) (.tmp 57) rfl w3.heap.size (.slice (some ⟨w3.heap.size, 0, none⟩) 0 0) [] rfl ?e1 (some ⟨b, off, none⟩) 0 (L.drop 10) 0 ?e2 rfl (by simp) ?e4 ?e5 ?e6 ?_))
  case e1 => exact World.ownsRow_lit w3 #[] 0 (Nat.le_refl _) (Nat.zero_le _) rfl
  case e2 => have := HN.out; simp; omega
  case e4 => exact hRo.kept (by exact Below.drew (hB3.alloc hs3 _))
  case e5 => have := HN.out; simp; omega
  case e6 => simp
  intro v4 w4 hv4 _ hb4
  replace hb4 : Below w3.heap.size w3 w4 := by
    refine Below.trans ?_ hb4
    exact Below.drew ((Below.refl _ _).alloc (Nat.le_refl _) _)
  obtain ⟨o4, c4, hv4e, hR4⟩ := hv4.open
  have hn4 : o4 = none → c4 = 0 := by
    intro h; subst h; rcases hv4.2 with ⟨h1, _⟩ | ⟨g, c, cur, h1, _⟩
    · rw [hv4e] at h1; simp at h1; exact h1.2
    · rw [hv4e] at h1; simp at h1
  rw [hv4e] at hv4 ⊢
  replace E5 := E5.kept hb4 (Nat.lt_of_lt_of_le hk0 hb3.size)
  replace BX := BX.kept hb4 hk3
  have F4 : w4.frozen? ⟨w0.heap.size, 4, none⟩ = false := (hb4.frozen (p := ⟨w0.heap.size, 4, none⟩) hk3).trans F3
  have hB4 : Below w.heap.size w w4 := hB3.trans (hb4.mono hs3)
  obtain ⟨y0, y1, y2, y3, y4⟩ := BX
  have hv4' : ownB w4 w3.heap.size (.slice o4 (L.drop 10).length c4) (L.drop 10) := hv4
  clear hv4 hv4e
  have hR4' : Rd w4 o4 (L.drop 10) := hR4
  clear hR4
  generalize L.drop 10 = B at *
  go_wp2
  have BX5 : boxed w0.heap.size (x0 * 256 + x1) (x2 * 256 + x3) x6 (x4 * 256 + x5) (.slice o4 B.length c4) (w4.setCell ⟨w0.heap.size, 4, none⟩ (.slice o4 B.length c4)) := by
    exact boxed.set4 ⟨y0, y1, y2, y3, y4⟩
  have hv5 : ownB (w4.setCell ⟨w0.heap.size, 4, none⟩ (.slice o4 B.length c4)) w3.heap.size (.slice o4 B.length c4) B := ownsRow_setCell_below hv4' hk3 _
  have hb45 : Below w0.heap.size w4 (w4.setCell ⟨w0.heap.size, 4, none⟩ (.slice o4 B.length c4)) := Below.setCell (p := ⟨w0.heap.size, 4, none⟩) (Below.refl _ _) (Nat.le_refl _) _
  generalize w4.setCell ⟨w0.heap.size, 4, none⟩ (.slice o4 B.length c4) = w5 at *
  have hB5 : Below w.heap.size w w5 := hB4.trans (hb45.mono (Nat.le_of_lt hk0))
  replace E5 := E5.kept hb45 hk0
  have hk5 : w.heap.size < w5.heap.size := by have := hb4.size; have := hb45.size; omega
  have hx5 : w0.heap.size < w5.heap.size := by have := hb4.size; have := hb45.size; omega
  have hs35 : w3.heap.size ≤ w5.heap.size := by have := hb4.size; have := hb45.size; omega
  clear y0 y1 y2 y3 y4 F3 F4 hv4' hR4' hb45
  have BX52 := BX5
  obtain ⟨y0, y1, y2, y3, y4⟩ := BX52
  by_cases hpk : packetOkB (x0 * 256 + x1) (x2 * 256 + x3) x6 (x4 * 256 + x5) B.length = true
  · obtain ⟨hl16, ha, hb, hf, hs⟩ := packetOk_bd hpk
    have hLB := packetL_isB hb10 hl16 ha hb hf hs
    have hck := hide (fun w => hpk ▸ specPacketOk_any (x0 * 256 + x1) (x2 * 256 + x3) x6 (x4 * 256 + x5) o4 B.length c4 w hm10)
    have hlb := hide (fun w h => l1bytes_any (x0 * 256 + x1) (x2 * 256 + x3) x6 (x4 * 256 + x5) o4 c4 B w h hn4 hb10 hl16 ha hb hf hs)
    have hst := hide (str_inj hLB hB8)
    have k5 : (convert 22 9 (.slice (some ⟨b, off, none⟩) n 10)).run Try.prog w5.drew = .ok (.string (strOfNums L)) w5.drew := by rw [HN.out]; exact run_conv _ (hR.kept (Below.drew hB5))
    generalize hPL : packetL (x0 * 256 + x1) (x2 * 256 + x3) x6 (x4 * 256 + x5) B = PL at *
    by_cases heq : PL = L
    · have HY : Hid (okR L = true) := hiff.out.2 ⟨by have := HN.out; omega, hpk, heq, trivial⟩
      have hbe : ((strOfNums PL).toList == (strOfNums L).toList) = true := hst.out.trans (decide_eq_true heq)
      have hbn : ((strOfNums PL).toList != (strOfNums L).toList) = false := by rw [bne, hbe]; rfl
      have HPK := hide hpk
      clear heq hPL hst hpk
      go_region_with (first | (go_at_call 30; refine (hck.out _).mono ?_; rintro e w6 ⟨rfl, hb6⟩; replace hb6 : Below w5.heap.size w5 w6 := (Below.drew (Below.refl _ _)).trans hb6; have BX6 := BX5.kept hb6 hx5; obtain ⟨z0, z1, z2, z3, z4⟩ := BX6; have k6 : (convert 22 9 (.slice (some ⟨b, off, none⟩) n 10)).run Try.prog w6 = .ok (.string (strOfNums L)) w6 := (by rw [HN.out]; exact run_conv _ (hR.kept (hB5.trans (hb6.mono (Nat.le_of_lt hk5)))))) | (go_at_call 72; refine (hlb.out _ ?_).mono ?_; exact hv5.rdo.kept hb6; rintro e w7 ⟨v7, rfl, hv7, hb7⟩; obtain ⟨o7, c7, hv7e, hR7⟩ := hv7.open; rw [hv7e] at hv7 ⊢; replace hb7 : Below w5.heap.size w5 w7 := hb6.trans (hb7.mono hb6.size); have BX6 := BX5.kept hb7 hx5; obtain ⟨z0, z1, z2, z3, z4⟩ := BX6; have k7 : (convert 22 9 (.slice (some ⟨b, off, none⟩) n 10)).run Try.prog w7 = .ok (.string (strOfNums L)) w7 := (by rw [HN.out]; exact run_conv _ (hR.kept (hB5.trans (hb7.mono (Nat.le_of_lt hk5))))); have j7 := run_conv c7 hR7; have E57 := E5.kept hb7 hk5; obtain ⟨⟨d0, d1, d2, d3, d4⟩, g0, g1, g2, g3, g4⟩ := E57))
      all_goals go_wp2
      all_goals refine bodyPost_ret (v := .tuple #[pkt (x0 * 256 + x1) (x2 * 256 + x3) x6 (x4 * 256 + x5) (.slice o4 B.length c4), .bool true]) (by simp [results, Try.results42, go_sem, d0, d1, d2, d3, d4]) rfl (hyes.out _ _ HY.out ?_ ?_)
      all_goals first | exact Below.setCell (Below.setCell (Below.setCell (Below.setCell (Below.setCell (hB5.trans (hb7.mono (Nat.le_of_lt hk5))) (Nat.le_refl _) _) (Nat.le_refl _) _) (Nat.le_refl _) _) (Nat.le_refl _) _) (Nat.le_refl _) _ | skip
      all_goals refine own_mono (base := w3.heap.size) ?_ hs3
      all_goals (repeat (refine ownsRow_setCell_below ?_ (Nat.lt_of_lt_of_le hk0 hb3.size) _))
      all_goals exact own_kept hv5 hb7
    · have HNo : Hid (okR L = false) := by
        unfold Hid; rw [Bool.eq_false_iff]; intro h; exact heq (hiff.out.1 h).2.2.1
      have hbe : ((strOfNums PL).toList == (strOfNums L).toList) = false := hst.out.trans (decide_eq_false heq)
      have hbn : ((strOfNums PL).toList != (strOfNums L).toList) = true := by rw [bne, hbe]; rfl
      have HPK := hide hpk
      clear heq hPL hst hpk
      go_region_with (first | (go_at_call 30; refine (hck.out _).mono ?_; rintro e w6 ⟨rfl, hb6⟩; replace hb6 : Below w5.heap.size w5 w6 := (Below.drew (Below.refl _ _)).trans hb6; have BX6 := BX5.kept hb6 hx5; obtain ⟨z0, z1, z2, z3, z4⟩ := BX6; have k6 : (convert 22 9 (.slice (some ⟨b, off, none⟩) n 10)).run Try.prog w6 = .ok (.string (strOfNums L)) w6 := (by rw [HN.out]; exact run_conv _ (hR.kept (hB5.trans (hb6.mono (Nat.le_of_lt hk5)))))) | (go_at_call 72; refine (hlb.out _ ?_).mono ?_; exact hv5.rdo.kept hb6; rintro e w7 ⟨v7, rfl, hv7, hb7⟩; obtain ⟨o7, c7, hv7e, hR7⟩ := hv7.open; rw [hv7e] at hv7 ⊢; replace hb7 : Below w5.heap.size w5 w7 := hb6.trans (hb7.mono hb6.size); have BX6 := BX5.kept hb7 hx5; obtain ⟨z0, z1, z2, z3, z4⟩ := BX6; have k7 : (convert 22 9 (.slice (some ⟨b, off, none⟩) n 10)).run Try.prog w7 = .ok (.string (strOfNums L)) w7 := (by rw [HN.out]; exact run_conv _ (hR.kept (hB5.trans (hb7.mono (Nat.le_of_lt hk5))))); have j7 := run_conv c7 hR7; have E57 := E5.kept hb7 hk5; obtain ⟨⟨d0, d1, d2, d3, d4⟩, g0, g1, g2, g3, g4⟩ := E57))
      all_goals go_wp2
      all_goals refine bodyPost_ret (v := .tuple #[pkt 0 0 0 0 (.slice none 0 0), .bool false]) (by simp [results, Try.results42, go_sem, d0, d1, d2, d3, d4]) rfl (hno.out _ HNo.out ?_)
      all_goals exact Below.setCell (Below.setCell (Below.setCell (Below.setCell (Below.setCell (hB5.trans (hb7.mono (Nat.le_of_lt hk5))) (Nat.le_refl _) _) (Nat.le_refl _) _) (Nat.le_refl _) _) (Nat.le_refl _) _) (Nat.le_refl _) _
  · have HNo : Hid (okR L = false) := by
      unfold Hid; rw [Bool.eq_false_iff]; intro h; exact hpk (hiff.out.1 h).2.1
    have hck := hide (fun w => (Bool.eq_false_iff.2 hpk) ▸ specPacketOk_any (x0 * 256 + x1) (x2 * 256 + x3) x6 (x4 * 256 + x5) o4 B.length c4 w hm10)
    clear hpk
    first | (go_region_with (first | (go_at_call 30; refine (hck.out _).mono ?_; rintro e w6 ⟨rfl, hb6⟩; replace hb6 : Below w5.heap.size w5 w6 := (Below.drew (Below.refl _ _)).trans hb6; have E56 := E5.kept hb6 hk5; obtain ⟨⟨d0, d1, d2, d3, d4⟩, g0, g1, g2, g3, g4⟩ := E56))) | fail
    all_goals go_wp2
    all_goals refine bodyPost_ret (v := .tuple #[pkt 0 0 0 0 (.slice none 0 0), .bool false]) (by simp [results, Try.results42, go_sem, d0, d1, d2, d3, d4]) rfl (hno.out _ HNo.out ?_)
    all_goals exact Below.setCell (Below.setCell (Below.setCell (Below.setCell (Below.setCell (hB5.trans (hb6.mono (Nat.le_of_lt hk5))) (Nat.le_refl _) _) (Nat.le_refl _) _) (Nat.le_refl _) _) (Nat.le_refl _) _) (Nat.le_refl _) _

end Go.Proofs.Ytoeoiljddcjphaa
