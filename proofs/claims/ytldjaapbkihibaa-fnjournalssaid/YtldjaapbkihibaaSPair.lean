/- The model's l3pair. -/
import Derived.Test.YtldjaapbkihibaaPairMath
namespace Go.Proofs.Ytldjaapbkihibaa
open Go.ChangeShapes Go.WideShapes Go.ChangeAt Go.RowKit Go.Joins
set_option linter.unusedVariables false
set_option linter.unusedSimpArgs false

def scOf (key b : Int) (x : Bk) : Sc := (x.1, scoreI key b x.1 x.2.1)
/-- A place in the list, or -1, tells q. -/
def IdxOf (key b : Int) (l : List Bk) (v : Int) (q : Option Sc) : Prop := (v = -1 ∧ q = none) ∨ ∃ k : Nat, v = (k : Int) ∧ k < l.length ∧ q = some (scOf key b (l.getD k (0, 0, false)))
theorem pick_next {key b : Int} {l : List Bk} {j : Nat} {x y : Int} (hlt : j < l.length) (hxy : l.getD j (0, 0, false) = (x, y, false)) : pick (scL key b (l.take (j + 1))) = pickStep (pick (scL key b (l.take j))) (scOf key b (x, y, false)) := by
  have hts := takeL_succ layK l j hlt
  rw [show l.getD j layK.d = l.getD j (0, 0, false) from rfl, hxy] at hts
  rw [hts, scL_snoc_yes _ _ _ _ rfl, pick_snoc]; rfl
theorem pick_skip {key b : Int} {l : List Bk} {j : Nat} {x y : Int} (hlt : j < l.length) (hxy : l.getD j (0, 0, false) = (x, y, true)) : pick (scL key b (l.take (j + 1))) = pick (scL key b (l.take j)) := by
  have hts := takeL_succ layK l j hlt
  rw [show l.getD j layK.d = l.getD j (0, 0, false) from rfl, hxy] at hts
  rw [hts, scL_snoc_no _ _ _ _ rfl]
theorem backs_all {l : List Bk} (h : backsOkB l = true) {k : Nat} (hk : k < l.length) {x y : Int} {z : Bool} (hxy : l.getD k (0, 0, false) = (x, y, z)) : 0 ≤ x ∧ x < 6 ∧ 1 ≤ y ∧ y ≤ 100 := backB_iff.1 (okAt_back h hk hxy)

set_option maxRecDepth 100000 in
set_option maxHeartbeats 2000000 in
theorem l3pair_any (key b : Int) (o : Option Addr) (cap : Nat) (l : List Bk) (w : World) (hR : RdK w.heap.size w o l) (hlen : l.length ≤ 1000) (hk : keyB key = true) (hbk : 0 ≤ b ∧ b < 8) (hl : backsOkB l = true) :
    Calls Try.prog 115 #[.int .i64 key, .int .i64 b, .slice o l.length cap] w fun e w' => ∃ v, e = .returned v ∧ ownI w' w.heap.size v (pairL (pick (scL key b l))) ∧ Below w.heap.size w w' := by
  obtain ⟨hk1, hk2⟩ := keyB_iff.1 hk
  have hsc := fun k (hk : k < l.length) x y z (hxy : l.getD k (0, 0, false) = (x, y, z)) W => have h := backs_all hl hk hxy; l3score_any key b x y z W hk1 hk2 hbk.1 hbk.2 h.1 h.2.1 (by omega) h.2.2.2
  have HSC := hide hsc
  clear hsc
  go_enter Try.func115, Try.ntmps115
  go_wp2
  go_loopw [7, 8, 9] (fun one two iv wr => ∃ (j : Nat) (v1 v2 : Int), iv = .int .i64 j ∧ one = .int .i64 v1 ∧ two = .int .i64 v2 ∧ j ≤ l.length ∧ IdxOf key b l v1 (pick (scL key b (l.take j))).1 ∧ IdxOf key b l v2 (pick (scL key b (l.take j))).2 ∧ Below w.heap.size w wr)
    (fun _ _ iv _ => l.length - (intOf iv).toNat)
  case atStart => exact ⟨0, -1, -1, rfl, rfl, rfl, Nat.zero_le _, .inl ⟨rfl, by simp [scL, pick]⟩, .inl ⟨rfl, by simp [scL, pick]⟩, Below.refl _ _⟩
  case round =>
    obtain ⟨j, v1, v2, rfl, rfl, rfl, hj, hi1, hi2, hBr⟩ := hrel
    by_cases hlt : j < l.length
    · rcases hR with hR | ⟨bb, off, rfl, hbl, hcell⟩
      · subst hR; simp at hlt
      have HC := hide (fun k (hk : k < l.length) W (hW : Below w.heap.size w W) => have h := RdL.back (C := w.heap.size) hcell k hk; (show W.cell? ⟨bb, off + k * 3, none⟩ = some (.int .i64 (l.getD k (0, 0, false)).1) ∧ W.cell? ⟨bb, off + k * 3 + 1, none⟩ = some (.int .i64 (l.getD k (0, 0, false)).2.1) ∧ W.cell? ⟨bb, off + k * 3 + 2, none⟩ = some (.bool (l.getD k (0, 0, false)).2.2) from ⟨(hW.cell (p := ⟨bb, off + k * 3, none⟩) hbl).trans h.1, (hW.cell (p := ⟨bb, off + k * 3 + 1, none⟩) hbl).trans h.2.1, (hW.cell (p := ⟨bb, off + k * 3 + 2, none⟩) hbl).trans h.2.2⟩))
      clear hcell
      have hcx := HC.out j hlt wr hBr
      obtain ⟨x, y, z, hxy⟩ : ∃ x y z, l.getD j (0, 0, false) = (x, y, z) := ⟨_, _, _, rfl⟩
      rw [hxy] at hcx
      dsimp only at hcx
      obtain ⟨c0, c1, c2⟩ := hcx
      have z1 : (j : Int) < (l.length : Int) := by omega
      cases z with
      | true =>
        have HP := hide (pick_skip (key := key) (b := b) hlt hxy)
        have HB := hide hBr
        have H1 := hide hi1
        have H2 := hide hi2
        clear hxy hBr hi1 hi2
        go_wp2
        go_roundw
        case rel => exact ⟨j + 1, v1, v2, by go_num, rfl, rfl, by omega, by rw [HP.out]; exact H1.out, by rw [HP.out]; exact H2.out, HB.out⟩
        case measure => simp [intOf]; omega
      | false =>
        have HP := hide (pick_next (key := key) (b := b) hlt hxy)
        have hsI := HSC.out j hlt x y false hxy
        have HJ : Hid (IdxOf key b l (j : Int) (some (scOf key b (x, y, false)))) := .inr ⟨j, rfl, hlt, by rw [hxy]⟩
        generalize hg : scOf key b (x, y, false) = sx at *
        obtain ⟨sid, sc⟩ := sx
        have hscx : scoreI key b x y = sc := by simp [scOf] at hg; exact hg.2
        rw [hscx] at hsI
        have HB := hide hBr
        clear hxy hBr hg hscx
        generalize pick (scL key b (l.take j)) = pp at *
        obtain ⟨p1, p2⟩ := pp
        dsimp only at hi1 hi2
        rcases hi1 with ⟨rfl, rfl⟩ | ⟨k1, rfl, hk1l, rfl⟩
        · go_wp2_with fail
          refine (hsI wr).mono ?_
          rintro e w1 ⟨rfl, hb1⟩
          have HB1 := hide (HB.out.trans (hb1.mono HB.out.size))
          clear c0 c1 c2 hsI hb1 hi2
          go_wp2
          go_roundw
          case rel => exact ⟨j + 1, j, -1, by go_num, rfl, rfl, by omega, by rw [HP.out]; exact HJ.out, by rw [HP.out]; exact .inl ⟨rfl, rfl⟩, HB1.out⟩
          case measure => simp [intOf]; omega
        · obtain ⟨x1, y1, t1, hxy1⟩ : ∃ x y z, l.getD k1 (0, 0, false) = (x, y, z) := ⟨_, _, _, rfl⟩
          have hs1 := HSC.out k1 hk1l x1 y1 t1 hxy1
          have HI1 : Hid (IdxOf key b l (k1 : Int) (some (scOf key b (x1, y1, t1)))) := .inr ⟨k1, rfl, hk1l, by rw [hxy1]⟩
          have HC1 := HC.out k1 hk1l
          rw [hxy1] at HP HC1
          dsimp only at HC1
          generalize hg1 : scOf key b (x1, y1, t1) = s1 at *
          obtain ⟨id1, sc1⟩ := s1
          have hsc1 : scoreI key b x1 y1 = sc1 := by simp [scOf] at hg1; exact hg1.2
          rw [hsc1] at hs1
          have z2 : (k1 : Int) < (l.length : Int) := by omega
          have z3 : ¬ ((k1 : Int) < 0) := by omega
          have HCC1 := hide HC1
          clear hxy1 hg1 hsc1 HC1
          go_wp2_with fail
          refine (hsI wr).mono ?_
          rintro e w1 ⟨rfl, hb1⟩
          have HB1 := hide (HB.out.trans (hb1.mono HB.out.size))
          obtain ⟨d0, d1, d2⟩ := HCC1.out w1 HB1.out
          clear c0 c1 c2 hsI hb1
          go_wp2_with fail
          refine (hs1 w1).mono ?_
          rintro e w2 ⟨rfl, hb2⟩
          have HB2 := hide (HB1.out.trans (hb2.mono HB1.out.size))
          clear d0 d1 d2 hs1 hb2
          by_cases hgt : sc1 < sc
          · have HE : Hid (pickStep (some (id1, sc1), p2) (sid, sc) = (some (sid, sc), some (id1, sc1))) := by simp [pickStep, hgt, Hid]
            clear hi2
            go_wp2
            go_roundw
            case rel => exact ⟨j + 1, j, k1, by go_num, rfl, rfl, by omega, by rw [HP.out, HE.out]; exact HJ.out, by rw [HP.out, HE.out]; exact HI1.out, HB2.out⟩
            case measure => simp [intOf]; omega
          · rcases hi2 with ⟨rfl, rfl⟩ | ⟨k2, rfl, hk2l, rfl⟩
            · have HE : Hid (pickStep (some (id1, sc1), none) (sid, sc) = (some (id1, sc1), some (sid, sc))) := by simp [pickStep, hgt, Hid]
              go_wp2
              go_roundw
              case rel => exact ⟨j + 1, k1, j, by go_num, rfl, rfl, by omega, by rw [HP.out, HE.out]; exact HI1.out, by rw [HP.out, HE.out]; exact HJ.out, HB2.out⟩
              case measure => simp [intOf]; omega
            · obtain ⟨x2, y2, t2, hxy2⟩ : ∃ x y z, l.getD k2 (0, 0, false) = (x, y, z) := ⟨_, _, _, rfl⟩
              have hs2 := HSC.out k2 hk2l x2 y2 t2 hxy2
              have HI2 : Hid (IdxOf key b l (k2 : Int) (some (scOf key b (x2, y2, t2)))) := .inr ⟨k2, rfl, hk2l, by rw [hxy2]⟩
              have HC2 := HC.out k2 hk2l
              rw [hxy2] at HP HC2
              dsimp only at HC2
              generalize hg2 : scOf key b (x2, y2, t2) = s2 at *
              obtain ⟨id2, sc2⟩ := s2
              have hsc2 : scoreI key b x2 y2 = sc2 := by simp [scOf] at hg2; exact hg2.2
              rw [hsc2] at hs2
              have z4 : (k2 : Int) < (l.length : Int) := by omega
              have z5 : ¬ ((k2 : Int) < 0) := by omega
              obtain ⟨f0, f1, f2⟩ := HC2 w2 HB2.out
              clear hxy2 hg2 hsc2 HC2
              go_wp2_with fail
              refine (hs2 w2).mono ?_
              rintro e w3 ⟨rfl, hb3⟩
              have HB3 := hide (HB2.out.trans (hb3.mono HB2.out.size))
              clear f0 f1 f2 hs2 hb3
              by_cases hgt2 : sc2 < sc
              · have HE : Hid (pickStep (some (id1, sc1), some (id2, sc2)) (sid, sc) = (some (id1, sc1), some (sid, sc))) := by unfold Hid; simp only [pickStep, if_neg (show ¬ sc1 < sc by omega), if_pos hgt2]
                go_wp2
                go_roundw
                case rel => exact ⟨j + 1, k1, j, by go_num, rfl, rfl, by omega, by rw [HP.out, HE.out]; exact HI1.out, by rw [HP.out, HE.out]; exact HJ.out, HB3.out⟩
                case measure => simp [intOf]; omega
              · have HE : Hid (pickStep (some (id1, sc1), some (id2, sc2)) (sid, sc) = (some (id1, sc1), some (id2, sc2))) := by unfold Hid; simp only [pickStep, if_neg (show ¬ sc1 < sc by omega), if_neg (show ¬ sc2 < sc by omega)]
                go_wp2
                go_roundw
                case rel => exact ⟨j + 1, k1, k2, by go_num, rfl, rfl, by omega, by rw [HP.out, HE.out]; exact HI1.out, by rw [HP.out, HE.out]; exact HI2.out, HB3.out⟩
                case measure => simp [intOf]; omega
    · have e : j = l.length := by omega
      subst e
      rw [List.take_of_length_le (Nat.le_refl _)] at hi1 hi2
      have HQ := hide (show pick (scL key b l) = ((pick (scL key b l)).1, (pick (scL key b l)).2) from rfl)
      generalize (pick (scL key b l)).1 = p1 at *
      generalize (pick (scL key b l)).2 = p2 at *
      have HB := hide hBr
      have z0 : ¬ (l.length : Int) < (l.length : Int) := by omega
      rcases hi1 with ⟨rfl, rfl⟩ | ⟨k1, rfl, hk1l, rfl⟩
      · clear hBr hi2
        go_wp2
        go_ret
        exact ⟨_, rfl, by rw [HQ.out]; exact World.ownsRow_nil _ _ _ _, HB.out⟩
      · rcases hR with hR | ⟨bb, off, rfl, hbl, hcell⟩
        · subst hR; simp at hk1l
        have h1 := RdL.back (C := w.heap.size) hcell k1 hk1l
        have c1 := (hBr.cell (p := ⟨bb, off + k1 * 3, none⟩) hbl).trans h1.1
        have z2 : (k1 : Int) < (l.length : Int) := by omega
        have z3 : ¬ ((k1 : Int) < 0) := by omega
        have HI1 : Hid ((scOf key b (l.getD k1 (0, 0, false))).1 = (l.getD k1 (0, 0, false)).1) := rfl
        generalize scOf key b (l.getD k1 (0, 0, false)) = s1 at *
        rcases hi2 with ⟨rfl, rfl⟩ | ⟨k2, rfl, hk2l, rfl⟩
        · have HO := hide (fun W (hW : w.heap.size ≤ W.heap.size) => ownI_lit W w.heap.size (l.getD k1 (0, 0, false)).1 (l.getD k1 (0, 0, false)).1 hW)
          have HPL : Hid (pairL (pick (scL key b l)) = [(l.getD k1 (0, 0, false)).1, (l.getD k1 (0, 0, false)).1]) := by unfold Hid; rw [HQ.out]; show [s1.1, s1.1] = _; rw [HI1.out]
          generalize (l.getD k1 (0, 0, false)).1 = x1 at *
          have hsz := HB.out.size
          clear hBr hcell h1
          go_wp2
          go_region
          all_goals go_wp2
          all_goals go_ret
          all_goals exact ⟨_, rfl, by rw [HPL.out]; exact (HO.out wr hsz).drew, (HB.out.alloc hsz _).drew⟩
        · have h2 := RdL.back (C := w.heap.size) hcell k2 hk2l
          have c2 := (hBr.cell (p := ⟨bb, off + k2 * 3, none⟩) hbl).trans h2.1
          have z4 : (k2 : Int) < (l.length : Int) := by omega
          have z5 : ¬ ((k2 : Int) < 0) := by omega
          have HO := hide (fun W (hW : w.heap.size ≤ W.heap.size) => ownI_lit W w.heap.size (l.getD k1 (0, 0, false)).1 (l.getD k2 (0, 0, false)).1 hW)
          have HPL : Hid (pairL (pick (scL key b l)) = [(l.getD k1 (0, 0, false)).1, (l.getD k2 (0, 0, false)).1]) := by unfold Hid; rw [HQ.out]; show [s1.1, (scOf key b (l.getD k2 (0, 0, false))).1] = _; rw [HI1.out]; rfl
          generalize (l.getD k1 (0, 0, false)).1 = x1 at *
          generalize (l.getD k2 (0, 0, false)).1 = x2 at *
          have hsz := HB.out.size
          clear hBr hcell h1 h2
          go_wp2
          go_region
          all_goals go_wp2
          all_goals go_ret
          all_goals exact ⟨_, rfl, by rw [HPL.out]; exact (HO.out wr hsz).drew, (HB.out.alloc hsz _).drew⟩

end Go.Proofs.Ytldjaapbkihibaa
