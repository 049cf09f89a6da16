/- For all bytes the law FnPairs answers true, and the bytes read as they did: of those drawn who serve and do not drain the two best are the pair. No conditions. -/
import Derived.Test.YtikbehfcngohnaaSHashes
import Derived.Test.YtikbehfcngohnaaSDrawK
import Derived.Test.YtikbehfcngohnaaPairsMath
namespace Go.Proofs.Ytikbehfcngohnaa
open Go.ChangeShapes Go.WideShapes Go.ChangeAt Go.RowKit Go.Joins
set_option linter.unusedVariables false
set_option linter.unusedSimpArgs false

def onJ (S : Nat → Int) (k j : Nat) : Int := if k < j then S k else 0
theorem onJ_step (S : Nat → Int) (k j : Nat) : onJ S k (j + 1) = if j = k then S j else onJ S k j := by
  unfold onJ
  by_cases h : j = k
  · subst h; rw [if_pos (Nat.lt_succ_self _), if_pos rfl]
  · rw [if_neg h]
    by_cases h1 : k < j
    · rw [if_pos h1, if_pos (by omega)]
    · rw [if_neg h1, if_neg (by omega)]

set_option maxRecDepth 100000 in
set_option maxHeartbeats 4000000 in
theorem lawPairs (o : Option Addr) (cap : Nat) (l : List Int) (w : World) (hm : l.length ≤ maxLen) (hR : Rd w o l) (hB8 : isB l) :
    Calls Try.prog 4 #[.slice o l.length cap] w fun e w' => e = .returned (.bool true) ∧ Below w.heap.size w w' := by
  go_enter Try.func4, Try.ntmps4
  go_wp2_with fail
  refine (drawPairOf_any o cap l w hR hB8 hm).mono ?_
  rintro e wa ⟨key, b, v, L, rfl, hk, hb, hv, hL, hBa⟩
  obtain ⟨ov, cv, hve, hRv⟩ := ownL.open (L := layK) hv
  rw [hve]
  clear hv hve hR hB8 hm
  go_wp2_with fail
  refine (implPairOf_any key b ov cv L wa hRv (by omega)).mono ?_
  rintro e wp ⟨vp, rfl, hp, hbp⟩
  obtain ⟨op, cp, hpe, hRp⟩ := ownL.open (L := layI) hp
  rw [hpe]
  have hBp : Below w.heap.size w wp := hBa.trans (hbp.mono hBa.size)
  replace hRv := (hRv.kept hbp (Nat.le_refl _)).le hbp.size
  clear hp hpe hbp hBa
  have hbo := specBacksOk_any ov cv L wp hRv (by omega)
  by_cases hgood : keyB key = true ∧ (0 ≤ b ∧ b < 8) ∧ backsOkB L = true
  · obtain ⟨g1, g2, g3⟩ := hgood
    have hpl : pairI key b L = pairL (pick (scL key b L)) := by rw [pairI, if_pos ⟨g1, g2, g3⟩]
    rw [hpl] at hRp ⊢
    rw [g3] at hbo
    obtain ⟨k0, k1⟩ := keyB_iff.1 g1
    have d1 : decide (key < 0) = false := by simp; omega
    have d2 : decide (1000000 ≤ key) = false := by simp; omega
    have d3 : decide (b < 0) = false := by simp; omega
    have d4 : decide (8 ≤ b) = false := by simp; omega
    have HRp := hide hRp
    have HRv := hide hRv
    clear hRp hRv hpl
    go_wp2_with (go_at_call 21; refine hbo.mono ?_; rintro e wc ⟨rfl, hbc⟩)
    have hBc : Below w.heap.size w wc := hBp.trans (hbc.mono hBp.size)
    have HRv2 := hide ((HRv.out.kept hbc (Nat.le_refl _)).le hbc.size)
    have HRp2 := hide ((HRp.out.kept hbc (Nat.le_refl _)).le hbc.size)
    have HB := hide hBc
    clear HRv HRp hbc hBc hBp hbo
    have HC := hide (fun j (hj : j < L.length) W (hW : Below wc.heap.size wc W) => (show ∃ (bb off : Nat) , ov = some ⟨bb, off, none⟩ ∧ bb < wc.heap.size ∧ W.cell? ⟨bb, off + j * 3, none⟩ = some (.int .i64 (L.getD j (0, 0, false)).1) ∧ W.cell? ⟨bb, off + j * 3 + 1, none⟩ = some (.int .i64 (L.getD j (0, 0, false)).2.1) ∧ W.cell? ⟨bb, off + j * 3 + 2, none⟩ = some (.bool (L.getD j (0, 0, false)).2.2) by
      rcases HRv2.out with h | ⟨bb, off, h, hbl, hcell⟩
      · rw [h] at hj; simp at hj
      · have hx := RdL.back (C := wc.heap.size) hcell j hj
        exact ⟨bb, off, h, hbl, (hW.cell (p := ⟨bb, off + j * 3, none⟩) hbl).trans hx.1, (hW.cell (p := ⟨bb, off + j * 3 + 1, none⟩) hbl).trans hx.2.1, (hW.cell (p := ⟨bb, off + j * 3 + 2, none⟩) hbl).trans hx.2.2⟩))
    clear HRv2
    go_loop [7, 8] (fun n i => ∃ j : Nat, j ≤ L.length ∧ i = .int .i64 j ∧ n = .int .i64 (cnt L j))
      (fun _ i => L.length - (intOf i).toNat)
    case atStart => exact ⟨0, Nat.zero_le _, rfl, by simp [cnt]⟩
    case round =>
      obtain ⟨j, hj, rfl, rfl⟩ := hrel
      have hcl := cnt_le L j
      by_cases hlt : j < L.length
      · obtain ⟨bb, off, rfl, hbl, c0, c1, c2⟩ := HC.out j hlt wc (Below.refl _ _)
        obtain ⟨x, y, z, hxy⟩ : ∃ x y z, L.getD j (0, 0, false) = (x, y, z) := ⟨_, _, _, rfl⟩
        rw [hxy] at c0 c1 c2
        dsimp only at c0 c1 c2
        have z1 : (j : Int) < (L.length : Int) := by omega
        cases z with
        | false =>
          have HN := hide (cnt_yes hlt hxy)
          clear hxy
          go_wp2
          go_round
          case rel => exact ⟨j + 1, by omega, by go_num, by rw [HN.out]; go_num⟩
          case measure => simp [intOf]; omega
        | true =>
          have HN := hide (cnt_no hlt hxy)
          clear hxy
          go_wp2
          go_round
          case rel => exact ⟨j + 1, by omega, by go_num, by rw [HN.out]⟩
          case measure => simp [intOf]; omega
      · have e : j = L.length := by omega
        subst e
        have hca := cnt_all key b L
        by_cases hn : scL key b L = []
        · have e0 : cnt L L.length = 0 := by rw [hca, hn]; rfl
          rw [e0]
          rw [hn]
          have e1 : (pairL (pick ([] : List Sc))) = [] := rfl
          rw [e1]
          clear HRp2 hca e0 hcl
          go_wp2_with (go_at_call 18; refine (hashes_any _).mono ?_; rintro e we ⟨rfl, hbe⟩; replace HB := hide (HB.out.trans (hbe.mono HB.out.size)); clear hbe)
          go_ret
          exact ⟨rfl, HB.out⟩
        · obtain ⟨k1', k2', hk1, hk2, hpe, dr1, dr2, hbest, hnext, hone⟩ := pairs_facts (key := key) (b := b) g3 hn
          have HF := hide (And.intro hbest (And.intro hnext hone))
          rw [hpe] at HRp2 ⊢
          have hpos : 1 ≤ cnt L L.length := by
            rw [hca]; rcases Nat.eq_zero_or_pos (scL key b L).length with h | h
            · exact absurd (List.eq_nil_of_length_eq_zero h) hn
            · exact h
          have HCA := hide hca
          clear hbest hnext hone hca
          generalize hcn : cnt L L.length = n at *
          clear hcn
          have hdr1 := hide dr1
          have hdr2 := hide dr2
          clear dr1 dr2 hpe
          have dn : decide ((n : Int) = 0) = false := by simp; omega
          have dn2 : ((n : Int) == 0) = false := by simp; omega
          have HID := hide (fun (i j : Nat) (hi : i < L.length) (hj : j < L.length) (e : (L.getD i (0, 0, false)).1 = (L.getD j (0, 0, false)).1) => id_inj g3 hi hj e)
          have HE1 := hide (rfl : (L.getD k1' (0, 0, false)).1 = (L.getD k1' (0, 0, false)).1)
          have HE2 := hide (rfl : (L.getD k2' (0, 0, false)).1 = (L.getD k2' (0, 0, false)).1)
          obtain ⟨i1, hi1⟩ : ∃ i, i = (L.getD k1' (0, 0, false)).1 := ⟨_, rfl⟩
          obtain ⟨i2, hi2⟩ : ∃ i, i = (L.getD k2' (0, 0, false)).1 := ⟨_, rfl⟩
          clear HE1 HE2
          have HE1 := hide hi1
          have HE2 := hide hi2
          rw [← hi1, ← hi2] at HRp2 ⊢
          clear hi1 hi2
          rcases HRp2.out with hnil | ⟨pb, poff, rfl, hpb, hpc⟩
          · simp at hnil
          have HD := hide (fun W (hW : Below wc.heap.size wc W) => (show W.cell? ⟨pb, poff, none⟩ = some (.int .i64 i1) ∧ W.cell? ⟨pb, poff + 1, none⟩ = some (.int .i64 i2) from
            ⟨(hW.cell (p := ⟨pb, poff, none⟩) hpb).trans (RdL.int hpc 0 (by simp)), (hW.cell (p := ⟨pb, poff + 1, none⟩) hpb).trans (RdL.int hpc 1 (by simp))⟩))
          clear hpc HRp2
          go_wp2
          go_loopw [2, 9, 10, 11] (fun rv one two iv wr => ∃ j : Nat, j ≤ L.length ∧ iv = .int .i64 j ∧ rv = .bool false ∧ one = .int .i64 (onJ (scAt key b L) k1' j) ∧ two = .int .i64 (onJ (scAt key b L) k2' j) ∧ Below wc.heap.size wc wr)
            (fun _ _ _ iv _ => L.length - (intOf iv).toNat)
          case atStart => exact ⟨0, Nat.zero_le _, rfl, rfl, rfl, rfl, Below.refl _ _⟩
          case round =>
            obtain ⟨j, hj, rfl, rfl, rfl, rfl, hBr⟩ := hrel
            by_cases hlt : j < L.length
            · obtain ⟨bb, off, rfl, hbl, q0, q1, q2⟩ := HC.out j hlt wc (Below.refl _ _)
              obtain ⟨x, y, z, hxy⟩ : ∃ x y z, L.getD j (0, 0, false) = (x, y, z) := ⟨_, _, _, rfl⟩
              rw [hxy] at q0 q1 q2
              dsimp only at q0 q1 q2
              have HX : Hid (∀ W, Below wc.heap.size wc W → W.cell? ⟨bb, off + j * 3, none⟩ = some (.int .i64 x) ∧ W.cell? ⟨bb, off + j * 3 + 1, none⟩ = some (.int .i64 y) ∧ W.cell? ⟨bb, off + j * 3 + 2, none⟩ = some (.bool z) ∧ W.cell? ⟨pb, poff, none⟩ = some (.int .i64 i1) ∧ W.cell? ⟨pb, poff + 1, none⟩ = some (.int .i64 i2) ∧ bb < W.heap.size ∧ pb < W.heap.size) := fun W hW =>
                ⟨(hW.cell (p := ⟨bb, off + j * 3, none⟩) hbl).trans q0, (hW.cell (p := ⟨bb, off + j * 3 + 1, none⟩) hbl).trans q1, (hW.cell (p := ⟨bb, off + j * 3 + 2, none⟩) hbl).trans q2, (HD.out W hW).1, (HD.out W hW).2, Nat.lt_of_lt_of_le hbl hW.size, Nat.lt_of_lt_of_le hpb hW.size⟩
              have hbk := backs_all g3 hlt hxy
              have hsc := fun W => implScore_any key b x y z W
              rw [show scoreOfI key b x y = scAt key b L j by rw [scoreOfI, if_pos ⟨g1, g2, backB_iff.2 hbk⟩, scAt, hxy]] at hsc
              have hsb : 0 ≤ scAt key b L j ∧ scAt key b L j ≤ 1677721600 := by unfold scAt; rw [hxy]; exact scoreI_bd key b x y (by omega) (by omega)
              have HX1 : Hid (j = k1' → x = i1 ∧ z = false) := fun e => by
                subst e
                exact ⟨by rw [HE1.out, hxy], by have := hdr1.out; rw [hxy] at this; exact this⟩
              have HX2 : Hid (j = k2' → x = i2) := fun e => by subst e; rw [HE2.out, hxy]
              have HN1 : Hid (j ≠ k1' → (x == i1) = false) := fun e => by
                have : x ≠ i1 := fun q => e (HID.out j k1' hlt hk1 (by rw [hxy, ← HE1.out]; exact q))
                simpa using this
              have HN2 : Hid (j ≠ k2' → (x == i2) = false) := fun e => by
                have : x ≠ i2 := fun q => e (HID.out j k2' hlt hk2 (by rw [hxy, ← HE2.out]; exact q))
                simpa using this
              have HO1 := hide (onJ_step (scAt key b L) k1' j)
              have HO2 := hide (onJ_step (scAt key b L) k2' j)
              have z1 : (j : Int) < (L.length : Int) := by omega
              obtain ⟨c0, c1, c2, _, _, _, _⟩ := HX.out wr hBr
              have Br := hide hBr
              clear q0 q1 q2 hxy hbk hBr
              generalize scAt key b L j = s at *
              generalize onJ (scAt key b L) k1' j = v1 at *
              generalize onJ (scAt key b L) k2' j = v2 at *
              have ds : decide (s < 0) = false := by simp; omega
              go_wp2_with fail
              refine (hsc _).mono ?_
              rintro e w1 ⟨rfl, hb1⟩
              have Bw1 := hide (Br.out.trans (hb1.mono Br.out.size))
              clear c0 c1 c2 hb1
              by_cases a1 : j = k1'
              · obtain ⟨rfl, rfl⟩ := HX1.out a1
                by_cases a2 : j = k2'
                · have e12 := HX2.out a2
                  subst e12
                  clear HX1 HX2 HN1 HN2
                  have A1 := hide a1
                  have A2 := hide a2
                  clear a1 a2
                  obtain ⟨c0, c1, c2, e0, e1, lb, lp⟩ := HX.out w1 Bw1.out
                  have G0 := Grown.cell c0 lb
                  have G1 := Grown.cell c1 lb
                  have G2 := Grown.cell c2 lb
                  have G3 := Grown.cell e0 lp
                  have G4 := Grown.cell e1 lp
                  clear c0 c1 c2 e0 e1 lb lp
                  go_wp2
                  (refine wp_region_grown (by kernel_rfl) (by kernel_rfl) ?_; intro hne9; (repeat (go_big_quiet_step ((fail)))); (with_reducible refine wpQuiet_nil ?_); intro _ hw9; obtain ⟨pq, hw8⟩ := hw9; subst hw8)
                  have Bw2 := hide (Bw1.out.trans (pq.b.mono Bw1.out.size))
                  clear G0 G1 G2 G3 G4
                  generalize pq.v = w2 at *
                  clear pq
                  obtain ⟨c0, c1, c2, e0, e1, lb, lp⟩ := HX.out w2 Bw2.out
                  have G0 := Grown.cell c0 lb
                  have G1 := Grown.cell c1 lb
                  have G2 := Grown.cell c2 lb
                  have G3 := Grown.cell e0 lp
                  have G4 := Grown.cell e1 lp
                  clear c0 c1 c2 e0 e1 lb lp
                  go_wp2
                  (refine wp_region_grown (by kernel_rfl) (by kernel_rfl) ?_; intro hne9; (repeat (go_big_quiet_step ((fail)))); (with_reducible refine wpQuiet_nil ?_); intro _ hw9; obtain ⟨pq, hw8⟩ := hw9; subst hw8)
                  have Bw3 := hide (Bw2.out.trans (pq.b.mono Bw2.out.size))
                  clear G0 G1 G2 G3 G4
                  generalize pq.v = w3 at *
                  clear pq
                  obtain ⟨c0, c1, c2, e0, e1, lb, lp⟩ := HX.out w3 Bw3.out
                  have G0 := Grown.cell c0 lb
                  have G1 := Grown.cell c1 lb
                  have G2 := Grown.cell c2 lb
                  have G3 := Grown.cell e0 lp
                  have G4 := Grown.cell e1 lp
                  clear c0 c1 c2 e0 e1 lb lp
                  go_wp2
                  (refine wp_region_grown (by kernel_rfl) (by kernel_rfl) ?_; intro hne9; (repeat (go_big_quiet_step ((fail)))); (with_reducible refine wpQuiet_nil ?_); intro _ hw9; obtain ⟨pq, hw8⟩ := hw9; subst hw8)
                  have Bw4 := hide (Bw3.out.trans (pq.b.mono Bw3.out.size))
                  clear G0 G1 G2 G3 G4
                  generalize pq.v = w4 at *
                  clear pq
                  go_wp2
                  go_roundw
                  case rel => exact ⟨j + 1, by omega, by go_num, rfl, by rw [HO1.out, if_pos A1.out], by rw [HO2.out, if_pos A2.out], Bw4.out⟩
                  case measure => simp [intOf]; omega
                · have n2 := HN2.out a2
                  clear HX1 HX2 HN1 HN2
                  have A1 := hide a1
                  have A2 := hide a2
                  clear a1 a2
                  obtain ⟨c0, c1, c2, e0, e1, lb, lp⟩ := HX.out w1 Bw1.out
                  have G0 := Grown.cell c0 lb
                  have G1 := Grown.cell c1 lb
                  have G2 := Grown.cell c2 lb
                  have G3 := Grown.cell e0 lp
                  have G4 := Grown.cell e1 lp
                  clear c0 c1 c2 e0 e1 lb lp
                  go_wp2
                  (refine wp_region_grown (by kernel_rfl) (by kernel_rfl) ?_; intro hne9; (repeat (go_big_quiet_step ((fail)))); (with_reducible refine wpQuiet_nil ?_); intro _ hw9; obtain ⟨pq, hw8⟩ := hw9; subst hw8)
                  have Bw2 := hide (Bw1.out.trans (pq.b.mono Bw1.out.size))
                  clear G0 G1 G2 G3 G4
                  generalize pq.v = w2 at *
                  clear pq
                  obtain ⟨c0, c1, c2, e0, e1, lb, lp⟩ := HX.out w2 Bw2.out
                  have G0 := Grown.cell c0 lb
                  have G1 := Grown.cell c1 lb
                  have G2 := Grown.cell c2 lb
                  have G3 := Grown.cell e0 lp
                  have G4 := Grown.cell e1 lp
                  clear c0 c1 c2 e0 e1 lb lp
                  go_wp2
                  (refine wp_region_grown (by kernel_rfl) (by kernel_rfl) ?_; intro hne9; (repeat (go_big_quiet_step ((fail)))); (with_reducible refine wpQuiet_nil ?_); intro _ hw9; obtain ⟨pq, hw8⟩ := hw9; subst hw8)
                  have Bw3 := hide (Bw2.out.trans (pq.b.mono Bw2.out.size))
                  clear G0 G1 G2 G3 G4
                  generalize pq.v = w3 at *
                  clear pq
                  obtain ⟨c0, c1, c2, e0, e1, lb, lp⟩ := HX.out w3 Bw3.out
                  have G0 := Grown.cell c0 lb
                  have G1 := Grown.cell c1 lb
                  have G2 := Grown.cell c2 lb
                  have G3 := Grown.cell e0 lp
                  have G4 := Grown.cell e1 lp
                  clear c0 c1 c2 e0 e1 lb lp
                  go_wp2
                  (refine wp_region_grown (by kernel_rfl) (by kernel_rfl) ?_; intro hne9; (repeat (go_big_quiet_step ((fail)))); (with_reducible refine wpQuiet_nil ?_); intro _ hw9; obtain ⟨pq, hw8⟩ := hw9; subst hw8)
                  have Bw4 := hide (Bw3.out.trans (pq.b.mono Bw3.out.size))
                  clear G0 G1 G2 G3 G4
                  generalize pq.v = w4 at *
                  clear pq
                  go_wp2
                  go_roundw
                  case rel => exact ⟨j + 1, by omega, by go_num, rfl, by rw [HO1.out, if_pos A1.out], by rw [HO2.out, if_neg A2.out], Bw4.out⟩
                  case measure => simp [intOf]; omega
              · have n1 := HN1.out a1
                by_cases a2 : j = k2'
                · have e12 := HX2.out a2
                  subst e12
                  clear HX1 HX2 HN1 HN2
                  have A1 := hide a1
                  have A2 := hide a2
                  clear a1 a2
                  obtain ⟨c0, c1, c2, e0, e1, lb, lp⟩ := HX.out w1 Bw1.out
                  have G0 := Grown.cell c0 lb
                  have G1 := Grown.cell c1 lb
                  have G2 := Grown.cell c2 lb
                  have G3 := Grown.cell e0 lp
                  have G4 := Grown.cell e1 lp
                  clear c0 c1 c2 e0 e1 lb lp
                  go_wp2
                  (refine wp_region_grown (by kernel_rfl) (by kernel_rfl) ?_; intro hne9; (repeat (go_big_quiet_step ((fail)))); (with_reducible refine wpQuiet_nil ?_); intro _ hw9; obtain ⟨pq, hw8⟩ := hw9; subst hw8)
                  have Bw2 := hide (Bw1.out.trans (pq.b.mono Bw1.out.size))
                  clear G0 G1 G2 G3 G4
                  generalize pq.v = w2 at *
                  clear pq
                  obtain ⟨c0, c1, c2, e0, e1, lb, lp⟩ := HX.out w2 Bw2.out
                  have G0 := Grown.cell c0 lb
                  have G1 := Grown.cell c1 lb
                  have G2 := Grown.cell c2 lb
                  have G3 := Grown.cell e0 lp
                  have G4 := Grown.cell e1 lp
                  clear c0 c1 c2 e0 e1 lb lp
                  go_wp2
                  (refine wp_region_grown (by kernel_rfl) (by kernel_rfl) ?_; intro hne9; (repeat (go_big_quiet_step ((fail)))); (with_reducible refine wpQuiet_nil ?_); intro _ hw9; obtain ⟨pq, hw8⟩ := hw9; subst hw8)
                  have Bw3 := hide (Bw2.out.trans (pq.b.mono Bw2.out.size))
                  clear G0 G1 G2 G3 G4
                  generalize pq.v = w3 at *
                  clear pq
                  obtain ⟨c0, c1, c2, e0, e1, lb, lp⟩ := HX.out w3 Bw3.out
                  have G0 := Grown.cell c0 lb
                  have G1 := Grown.cell c1 lb
                  have G2 := Grown.cell c2 lb
                  have G3 := Grown.cell e0 lp
                  have G4 := Grown.cell e1 lp
                  clear c0 c1 c2 e0 e1 lb lp
                  go_wp2
                  (refine wp_region_grown (by kernel_rfl) (by kernel_rfl) ?_; intro hne9; (repeat (go_big_quiet_step ((fail)))); (with_reducible refine wpQuiet_nil ?_); intro _ hw9; obtain ⟨pq, hw8⟩ := hw9; subst hw8)
                  have Bw4 := hide (Bw3.out.trans (pq.b.mono Bw3.out.size))
                  clear G0 G1 G2 G3 G4
                  generalize pq.v = w4 at *
                  clear pq
                  go_wp2
                  go_roundw
                  case rel => exact ⟨j + 1, by omega, by go_num, rfl, by rw [HO1.out, if_neg A1.out], by rw [HO2.out, if_pos A2.out], Bw4.out⟩
                  case measure => simp [intOf]; omega
                · have n2 := HN2.out a2
                  clear HX1 HX2 HN1 HN2
                  have A1 := hide a1
                  have A2 := hide a2
                  clear a1 a2
                  obtain ⟨c0, c1, c2, e0, e1, lb, lp⟩ := HX.out w1 Bw1.out
                  have G0 := Grown.cell c0 lb
                  have G1 := Grown.cell c1 lb
                  have G2 := Grown.cell c2 lb
                  have G3 := Grown.cell e0 lp
                  have G4 := Grown.cell e1 lp
                  clear c0 c1 c2 e0 e1 lb lp
                  go_wp2
                  (refine wp_region_grown (by kernel_rfl) (by kernel_rfl) ?_; intro hne9; (repeat (go_big_quiet_step ((fail)))); (with_reducible refine wpQuiet_nil ?_); intro _ hw9; obtain ⟨pq, hw8⟩ := hw9; subst hw8)
                  have Bw2 := hide (Bw1.out.trans (pq.b.mono Bw1.out.size))
                  clear G0 G1 G2 G3 G4
                  generalize pq.v = w2 at *
                  clear pq
                  obtain ⟨c0, c1, c2, e0, e1, lb, lp⟩ := HX.out w2 Bw2.out
                  have G0 := Grown.cell c0 lb
                  have G1 := Grown.cell c1 lb
                  have G2 := Grown.cell c2 lb
                  have G3 := Grown.cell e0 lp
                  have G4 := Grown.cell e1 lp
                  clear c0 c1 c2 e0 e1 lb lp
                  go_wp2
                  (refine wp_region_grown (by kernel_rfl) (by kernel_rfl) ?_; intro hne9; (repeat (go_big_quiet_step ((fail)))); (with_reducible refine wpQuiet_nil ?_); intro _ hw9; obtain ⟨pq, hw8⟩ := hw9; subst hw8)
                  have Bw3 := hide (Bw2.out.trans (pq.b.mono Bw2.out.size))
                  clear G0 G1 G2 G3 G4
                  generalize pq.v = w3 at *
                  clear pq
                  obtain ⟨c0, c1, c2, e0, e1, lb, lp⟩ := HX.out w3 Bw3.out
                  have G0 := Grown.cell c0 lb
                  have G1 := Grown.cell c1 lb
                  have G2 := Grown.cell c2 lb
                  have G3 := Grown.cell e0 lp
                  have G4 := Grown.cell e1 lp
                  clear c0 c1 c2 e0 e1 lb lp
                  go_wp2
                  (refine wp_region_grown (by kernel_rfl) (by kernel_rfl) ?_; intro hne9; (repeat (go_big_quiet_step ((fail)))); (with_reducible refine wpQuiet_nil ?_); intro _ hw9; obtain ⟨pq, hw8⟩ := hw9; subst hw8)
                  have Bw4 := hide (Bw3.out.trans (pq.b.mono Bw3.out.size))
                  clear G0 G1 G2 G3 G4
                  generalize pq.v = w4 at *
                  clear pq
                  go_wp2
                  go_roundw
                  case rel => exact ⟨j + 1, by omega, by go_num, rfl, by rw [HO1.out, if_neg A1.out], by rw [HO2.out, if_neg A2.out], Bw4.out⟩
                  case measure => simp [intOf]; omega
            · have e : j = L.length := by omega
              subst e
              have o1 : onJ (scAt key b L) k1' L.length = scAt key b L k1' := if_pos hk1
              have o2 : onJ (scAt key b L) k2' L.length = scAt key b L k2' := if_pos hk2
              rw [o1, o2]
              clear o1 o2
              have HB3 := hide hBr
              have HF1 := hide (HF.out.1)
              have HF2 := hide (HF.out.2.1)
              have HF3 := hide (HF.out.2.2)
              clear hBr HF
              generalize hs1 : scAt key b L k1' = s1 at *
              generalize hs2 : scAt key b L k2' = s2 at *
              clear hs1 hs2
              go_wp2
              go_loopw [2, 13] (fun rv iv wr => ∃ j : Nat, j ≤ L.length ∧ iv = .int .i64 j ∧ rv = .bool false ∧ Below wc.heap.size wc wr)
                (fun _ iv _ => L.length - (intOf iv).toNat)
              case atStart => exact ⟨0, Nat.zero_le _, rfl, rfl, HB3.out⟩
              case round =>
                obtain ⟨j, hj, rfl, rfl, hBr⟩ := hrel
                by_cases hlt : j < L.length
                · obtain ⟨bb, off, rfl, hbl, q0, q1, q2⟩ := HC.out j hlt wc (Below.refl _ _)
                  obtain ⟨x, y, z, hxy⟩ : ∃ x y z, L.getD j (0, 0, false) = (x, y, z) := ⟨_, _, _, rfl⟩
                  rw [hxy] at q0 q1 q2
                  dsimp only at q0 q1 q2
                  have HX : Hid (∀ W, Below wc.heap.size wc W → W.cell? ⟨bb, off + j * 3, none⟩ = some (.int .i64 x) ∧ W.cell? ⟨bb, off + j * 3 + 1, none⟩ = some (.int .i64 y) ∧ W.cell? ⟨bb, off + j * 3 + 2, none⟩ = some (.bool z) ∧ W.cell? ⟨pb, poff, none⟩ = some (.int .i64 i1) ∧ W.cell? ⟨pb, poff + 1, none⟩ = some (.int .i64 i2) ∧ bb < W.heap.size ∧ pb < W.heap.size) := fun W hW =>
                    ⟨(hW.cell (p := ⟨bb, off + j * 3, none⟩) hbl).trans q0, (hW.cell (p := ⟨bb, off + j * 3 + 1, none⟩) hbl).trans q1, (hW.cell (p := ⟨bb, off + j * 3 + 2, none⟩) hbl).trans q2, (HD.out W hW).1, (HD.out W hW).2, Nat.lt_of_lt_of_le hbl hW.size, Nat.lt_of_lt_of_le hpb hW.size⟩
                  have hbk := backs_all g3 hlt hxy
                  have hsc := fun W => implScore_any key b x y z W
                  rw [show scoreOfI key b x y = scAt key b L j by rw [scoreOfI, if_pos ⟨g1, g2, backB_iff.2 hbk⟩, scAt, hxy]] at hsc
                  have hsb : 0 ≤ scAt key b L j ∧ scAt key b L j ≤ 1677721600 := by unfold scAt; rw [hxy]; exact scoreI_bd key b x y (by omega) (by omega)
                  have HX1 : Hid (j = k1' → x = i1) := fun e => by
                    subst e
                    rw [HE1.out, hxy]
                  have HN1 : Hid (j ≠ k1' → (x == i1) = false) := fun e => by
                    have : x ≠ i1 := fun q => e (HID.out j k1' hlt hk1 (by rw [hxy, ← HE1.out]; exact q))
                    simpa using this
                  have HM1 : Hid (z = false → scAt key b L j ≤ s1) := fun e => HF1.out j hlt (by rw [hxy]; exact e)
                  have HM2 : Hid (z = false → j ≠ k1' → scAt key b L j ≤ s2) := fun e => HF2.out j hlt (by rw [hxy]; exact e)
                  have z1 : (j : Int) < (L.length : Int) := by omega
                  obtain ⟨c0, c1, c2, _, _, _, _⟩ := HX.out wr hBr
                  have Br := hide hBr
                  clear q0 q1 q2 hxy hbk hBr
                  generalize scAt key b L j = s at *
                  go_wp2_with fail
                  refine (hsc _).mono ?_
                  rintro e w1 ⟨rfl, hb1⟩
                  have Bw1 := hide (Br.out.trans (hb1.mono Br.out.size))
                  clear c0 c1 c2 hb1
                  cases z with
                  | true =>
                    clear HX1 HN1 HM1 HM2
                    obtain ⟨c0, c1, c2, e0, e1, lb, lp⟩ := HX.out w1 Bw1.out
                    have G0 := Grown.cell c0 lb
                    have G1 := Grown.cell c1 lb
                    have G2 := Grown.cell c2 lb
                    have G3 := Grown.cell e0 lp
                    have G4 := Grown.cell e1 lp
                    clear c0 c1 c2 e0 e1 lb lp
                    go_wp2
                    (refine wp_region_grown (by kernel_rfl) (by kernel_rfl) ?_; intro hne9; (repeat (go_big_quiet_step ((fail)))); (with_reducible refine wpQuiet_nil ?_); intro _ hw9; obtain ⟨pq, hw8⟩ := hw9; subst hw8)
                    have Bw2 := hide (Bw1.out.trans (pq.b.mono Bw1.out.size))
                    clear G0 G1 G2 G3 G4
                    generalize pq.v = w2 at *
                    clear pq
                    go_wp2
                    go_roundw
                    case rel => exact ⟨j + 1, by omega, by go_num, rfl, Bw2.out⟩
                    case measure => simp [intOf]; omega
                  | false =>
                    have m1 := HM1.out rfl
                    have e1' : decide (s1 < s) = false := by simp; omega
                    by_cases a1 : j = k1'
                    · have e12 := HX1.out a1
                      subst e12
                      clear HX1 HN1 HM1 HM2 a1
                      obtain ⟨c0, c1, c2, e0, e1, lb, lp⟩ := HX.out w1 Bw1.out
                      have G0 := Grown.cell c0 lb
                      have G1 := Grown.cell c1 lb
                      have G2 := Grown.cell c2 lb
                      have G3 := Grown.cell e0 lp
                      have G4 := Grown.cell e1 lp
                      clear c0 c1 c2 e0 e1 lb lp
                      go_wp2
                      (refine wp_region_grown (by kernel_rfl) (by kernel_rfl) ?_; intro hne9; (repeat (go_big_quiet_step ((fail)))); (with_reducible refine wpQuiet_nil ?_); intro _ hw9; obtain ⟨pq, hw8⟩ := hw9; subst hw8)
                      have Bw2 := hide (Bw1.out.trans (pq.b.mono Bw1.out.size))
                      clear G0 G1 G2 G3 G4
                      generalize pq.v = w2 at *
                      clear pq
                      go_wp2
                      go_roundw
                      case rel => exact ⟨j + 1, by omega, by go_num, rfl, Bw2.out⟩
                      case measure => simp [intOf]; omega
                    · have n1 := HN1.out a1
                      have n1' : (x != i1) = true := by simp [bne, n1]
                      have m2 := HM2.out rfl a1
                      have e2' : decide (s2 < s) = false := by simp; omega
                      clear HX1 HN1 HM1 HM2 a1
                      obtain ⟨c0, c1, c2, e0, e1, lb, lp⟩ := HX.out w1 Bw1.out
                      have G0 := Grown.cell c0 lb
                      have G1 := Grown.cell c1 lb
                      have G2 := Grown.cell c2 lb
                      have G3 := Grown.cell e0 lp
                      have G4 := Grown.cell e1 lp
                      clear c0 c1 c2 e0 e1 lb lp
                      go_wp2
                      (refine wp_region_grown (by kernel_rfl) (by kernel_rfl) ?_; intro hne9; (repeat (go_big_quiet_step ((fail)))); (with_reducible refine wpQuiet_nil ?_); intro _ hw9; obtain ⟨pq, hw8⟩ := hw9; subst hw8)
                      have Bw2 := hide (Bw1.out.trans (pq.b.mono Bw1.out.size))
                      clear G0 G1 G2 G3 G4
                      generalize pq.v = w2 at *
                      clear pq
                      go_wp2
                      go_roundw
                      case rel => exact ⟨j + 1, by omega, by go_num, rfl, Bw2.out⟩
                      case measure => simp [intOf]; omega
                · have e : j = L.length := by omega
                  subst e
                  obtain ⟨e0, e1⟩ := HD.out wr hBr
                  have lp : pb < wr.heap.size := Nat.lt_of_lt_of_le hpb hBr.size
                  have G3 := Grown.cell e0 lp
                  have G4 := Grown.cell e1 lp
                  have Br := hide hBr
                  clear e0 e1 hBr
                  by_cases a : k1' = k2'
                  · have hn1 : n = 1 := HCA.out.trans (HF3.out.1 a)
                    have e12 : i1 = i2 := by rw [HE1.out, HE2.out, a]
                    subst hn1
                    subst e12
                    clear a
                    go_wp2
                    (refine wp_region_grown (by kernel_rfl) (by kernel_rfl) ?_; intro hne9; (repeat (go_big_quiet_step ((go_at_call 18; exact grown_of _ (hashes_any _))))); (with_reducible refine wpQuiet_nil ?_); intro _ hw9; obtain ⟨pq, hw8⟩ := hw9; subst hw8)
                    have BF := hide (Br.out.trans (pq.b.mono Br.out.size))
                    go_wp2
                    go_ret
                    exact ⟨rfl, HB.out.trans (BF.out.mono HB.out.size)⟩
                  · have hn1 : ((n : Int) == 1) = false := by
                      have : n ≠ 1 := fun h => a (HF3.out.2 (HCA.out.symm.trans h))
                      simp; omega
                    have e12 : (i1 == i2) = false := by
                      have : i1 ≠ i2 := fun h => a (HID.out k1' k2' hk1 hk2 (by rw [← HE1.out, ← HE2.out]; exact h))
                      simpa using this
                    clear a
                    go_wp2
                    (refine wp_region_grown (by kernel_rfl) (by kernel_rfl) ?_; intro hne9; (repeat (go_big_quiet_step ((go_at_call 18; exact grown_of _ (hashes_any _))))); (with_reducible refine wpQuiet_nil ?_); intro _ hw9; obtain ⟨pq, hw8⟩ := hw9; subst hw8)
                    have BF := hide (Br.out.trans (pq.b.mono Br.out.size))
                    go_wp2
                    go_ret
                    exact ⟨rfl, HB.out.trans (BF.out.mono HB.out.size)⟩
  · have hpl : pairI key b L = [] := by rw [pairI, if_neg hgood]
    rw [hpl]
    have HB := hide hBp
    clear hBp hRp hRv
    have hbo2 : ∀ t, backsOkB L = t → Calls Try.prog 21 #[.slice ov L.length cv] wp fun e w' => e = .returned (.bool t) ∧ Below wp.heap.size wp w' := fun t e => e ▸ hbo
    clear hbo
    have hcs : backsOkB L = false ∨ (backsOkB L = true ∧ key < 0) ∨ (backsOkB L = true ∧ 0 ≤ key ∧ 1000000 ≤ key) ∨ (backsOkB L = true ∧ 0 ≤ key ∧ key < 1000000 ∧ b < 0) ∨ (backsOkB L = true ∧ 0 ≤ key ∧ key < 1000000 ∧ 0 ≤ b ∧ 8 ≤ b) := by
      have h1 := @keyB_iff key
      cases h : backsOkB L with
      | false => exact .inl rfl
      | true =>
        right
        rw [h] at hgood
        have : ¬ ((0 ≤ key ∧ key < 1000000) ∧ (0 ≤ b ∧ b < 8)) := fun q => hgood ⟨h1.2 q.1, q.2, rfl⟩
        simp only [true_and]
        omega
    rcases hcs with q | ⟨q, q1⟩ | ⟨q, q1, q2⟩ | ⟨q, q1, q2, q3⟩ | ⟨q, q1, q2, q3, q4⟩
    all_goals replace hbo2 := hbo2 _ q
    all_goals clear q hgood hpl
    all_goals (
      go_wp2_with (first | (go_at_call 21; refine hbo2.mono ?_; rintro e wc ⟨rfl, hbc⟩; replace HB := hide (HB.out.trans (hbc.mono HB.out.size)); clear hbc) | (go_at_call 18; refine (hashes_any _).mono ?_; rintro e we ⟨rfl, hbe⟩; replace HB := hide (HB.out.trans (hbe.mono HB.out.size)); clear hbe))
      go_ret
      exact ⟨rfl, HB.out⟩)

set_option maxRecDepth 100000 in
theorem fnPairs_lifted (os : Os) (started : os.Started) (H : Type) (enc : TypeId × Value → H) :
    ReturnsInHanded {} Try.checked os 4 .any (Rows.fnPairsSpec.pre6 enc Try.prog Try.f4 Rows.fnPairsRow.domain false) (Rows.fnPairsSpec.post enc Try.prog Try.f4 false true false false) := by
  refine returnsInHanded_of_change (C := Try.checked) own started (by kernel_rfl) Try.func4
    (ChangeSpec.witness6 (enc := enc) (C := Try.checked) false ⟨#[], #[.slice none 0 0], []⟩ 8 (by kernel_rfl) (by kernel_rfl) (by kernel_rfl) (by kernel_rfl)) ?_
  intro W base args ds gs before hval0 hW hcnd _
  have hval : ∀ (j : Nat) t v, Try.f4.params[j]? = some t → args[j]? = some v → Value.okWide Try.prog W .any base t v := hval0
  have hW' := hW
  obtain ⟨p, q, hA0, hV, rfl, hfz, hnd⟩ := hW
  have hA : DataW.TrodAll enc Try.prog W 0 (fun _ => true) true Try.f4.params.toList args.toList ds p := hA0
  rw [Try.params4] at hA hval
  obtain ⟨v0, vs0, d0, ds0, p0, q0, hargs, rfl, rfl, h0, r0⟩ := trodAll_cons hA
  obtain ⟨rfl, rfl, rfl⟩ := trodAll_nil r0
  obtain rfl : args = #[v0] := by cases args; simp_all
  obtain ⟨rfl, rfl⟩ := trodVars_none hV
  have k0 := h0
  have lt0 : ∀ x ∈ p0, x.block < W.heap.size := by obtain ⟨m, hm⟩ := k0; exact DataW.trod_lt m _ _ _ hm
  obtain ⟨o0, cap0, l0, rfl, hm0, hR0, hB80⟩ := open_bytes (hval 0 22 v0 rfl rfl) h0
  clear hA0 hval0
  refine (lawPairs o0 cap0 l0 W hm0 hR0 hB80 ).mono fun e W' ⟨he, bel⟩ => ?_
  subst he
  exact ⟨_, rfl, _, _, _, [], _, [], hW', trodAll_mk1 (shut_bool Try.underlying4 _), (trodAll_cons_mk (Below.trod laidOut (by kernel_rfl) (of_decide_eq_true (by kernel_rfl)) k0 bel lt0) trodAll_mk0), rfl, bel.frame _, fun h => by cases h⟩

theorem fnPairs_over : Rows.fnPairsRow.holds Try.pinned (OpenSpec.ofChange Rows.fnPairsSpec) :=
  OpenClaim.holds_of_wide 4 Try.f4 rfl rfl rfl rfl rfl rfl rfl ⟨rfl, rfl, rfl, rfl, rfl⟩ rfl rfl rfl rfl rfl (by kernel_rfl) Try.func4 (by kernel_rfl)
    (of_decide_eq_true (by kernel_rfl)) (by unfold Func.isWrapper; first | (rw [if_pos (by decide +kernel)]; kernel_rfl) | (rw [if_neg (by decide +kernel)]; exact ⟨rfl, rfl⟩))
    (fun os started H enc _ => fnPairs_lifted os started H enc)

theorem fnPairs_holds : Rows.FnPairsSaid := fnPairs_over

end Go.Proofs.Ytikbehfcngohnaa
