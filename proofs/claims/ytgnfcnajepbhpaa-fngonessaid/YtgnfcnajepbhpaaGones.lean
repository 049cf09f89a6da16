/- For all bytes the law FnGones answers true, and the bytes read as they did: who is taken off a drawn list changes the pairs alone that it was in. No conditions. -/
import Derived.Test.YtgnfcnajepbhpaaSHashes
import Derived.Test.YtgnfcnajepbhpaaSDrawK
import Derived.Test.YtgnfcnajepbhpaaGonesMath
import Derived.Test.YtgnfcnajepbhpaaSAt
import Derived.Test.YtgnfcnajepbhpaaSSame
import Derived.Test.YtgnfcnajepbhpaaSTab2
import Derived.Test.YtgnfcnajepbhpaaAppL
import Derived.Deep.RegionLaw
import Derived.Test.YtgnfcnajepbhpaaBits
namespace Go.Proofs.Ytgnfcnajepbhpaa
open Go.ChangeShapes Go.WideShapes Go.ChangeAt Go.RowKit Go.Joins
set_option linter.unusedVariables false
set_option linter.unusedSimpArgs false

theorem appK : AppOk layK 34 41 := ⟨Try.underlying34, ⟨_, _, infoBack, rfl, by decide⟩, by decide, fun a u hu => by
  simp [layK] at hu; rcases hu with rfl | rfl | rfl <;> rfl⟩
theorem RdL.take {α : Type} {L : Lay α} {C : Nat} {w : World} {o : Option Addr} {l : List α} (h : RdL L C w o l) (k : Nat) : RdL L C w o (l.take k) := by
  rcases h with h | ⟨b, off, ho, hlt, r⟩
  · left; rw [h]; simp
  · refine .inr ⟨b, off, ho, hlt, fun i hi j hj => ?_⟩
    have hi' : i < l.length := by simp at hi; omega
    rw [r i hi' j hj]
    congr 2
    have : i < k := by simp at hi; omega
    simp [List.getD_eq_getElem?_getD, List.getElem?_take, this]
theorem RdL.drop {α : Type} {L : Lay α} {C : Nat} {w : World} {b off : Nat} {l : List α} (k q : Nat) (hq : q = off + k * L.k) (h : RdL L C w (some ⟨b, off, none⟩) l) : RdL L C w (some ⟨b, q, none⟩) (l.drop k) := by
  subst hq
  rcases h with h | ⟨b', off', ho, hlt, r⟩
  · left; rw [h]; simp
  · obtain ⟨rfl, rfl⟩ : b = b' ∧ off = off' := by simpa using ho
    refine .inr ⟨b, off + k * L.k, rfl, hlt, fun i hi j hj => ?_⟩
    have hi' : k + i < l.length := by simp at hi; omega
    have := r (k + i) hi' j hj
    rw [Nat.add_mul, ← Nat.add_assoc] at this
    rw [this]
    congr 2
    simp [List.getD_eq_getElem?_getD, List.getElem?_drop]

theorem own_none {α : Type} {L : Lay α} (w : World) (e : TypeId) : ownL L e (w.alloc (.cells #[] e)).drew w.heap.size (.slice (some ⟨w.heap.size, 0, none⟩) 0 0) ([] : List α) :=
  ⟨by simp, .inr ⟨w.heap.size, 0, #[], rfl, Nat.le_refl _, heap_alloc_new w _, Nat.le_refl _, by unfold maxLen; omega, by simp, by simp⟩⟩

theorem gones_same {key : Int} {L : List Bk} {kk : Nat} {T U : List (List Int)} {q : Int} (h1 : keyB key = true) (h2 : backsOkB L = true) (hlt : kk < L.length) (hT : T = rowsOf (fun b => pairI key b L) 8) (hU : U = rowsOf (fun b => pairI key b (off1 L kk)) 8) (hq : q = (L.getD kk (0, 0, false)).1) :
    ∀ i, i < 8 → q ∉ T.getD i [] → T.getD i [] = U.getD i [] := by
  intro i hi hn
  have hb : (0 : Int) ≤ (i : Int) ∧ (i : Int) < 8 := by omega
  have eT : T.getD i [] = pairL (pick (scL key i L)) := by rw [hT, rowsOf_get _ _ _ hi, pairI, if_pos ⟨h1, hb, h2⟩]
  have eU : U.getD i [] = pairL (pick (scL key i (off1 L kk))) := by rw [hU, rowsOf_get _ _ _ hi, pairI, if_pos ⟨h1, hb, off1_ok h2 hlt⟩]
  rw [eT] at hn ⊢
  rw [eU]
  exact (off1_pair h2 hlt (hq ▸ hn)).symm
theorem gones_len {key : Int} {L L' : List Bk} {T U : List (List Int)} (hT : T = rowsOf (fun b => pairI key b L) 8) (hU : U = rowsOf (fun b => pairI key b L') 8) :
    T.length = 8 ∧ U.length = 8 ∧ ∀ i, i < 8 → (T.getD i []).length ≤ 2 ∧ (U.getD i []).length ≤ 2 := by
  refine ⟨by rw [hT, rowsOf_length], by rw [hU, rowsOf_length], fun i hi => ?_⟩
  rw [hT, hU, rowsOf_get _ _ _ hi, rowsOf_get _ _ _ hi]
  exact ⟨pairI_len _ _ _, pairI_len _ _ _⟩

set_option maxRecDepth 100000 in
set_option maxHeartbeats 4000000 in
theorem lawGones (o : Option Addr) (cap : Nat) (l : List Int) (w : World) (hm : l.length ≤ maxLen) (hR : Rd w o l) (hB8 : isB l) :
    Calls Try.prog 5 #[.slice o l.length cap] w fun e w' => e = .returned (.bool true) ∧ Below w.heap.size w w' := by
  go_enter Try.func5, Try.ntmps5
  go_wp2_with fail
  refine (drawTableOf_any o cap l w hR hB8 hm).mono ?_
  rintro e wa ⟨key, v, L, rfl, hk, hv, hL, hBa⟩
  have hRa := hR.kept hBa
  obtain ⟨ov, cv, hve, hRv⟩ := ownL.open (L := layK) hv
  rw [hve]
  have hs1 : wa.heap.size = wa.heap.size := rfl
  go_wp2_with fail
  refine (implTableOf_any key ov cv L wa hRv (by omega)).mono ?_
  rintro e wt ⟨vt, rfl, ht, hbt⟩
  have hBt : Below w.heap.size w wt := hBa.trans (hbt.mono hBa.size)
  replace hRa := hRa.kept hbt
  replace hRv := (hRv.kept hbt (Nat.le_refl _)).le hbt.size
  obtain ⟨ot, ct, hte, hRt⟩ := ht.open
  rw [hte]
  clear hte hs1 ht
  have HB := hide hBt
  clear hBa hBt hbt hR
  by_cases hg : tabN key L = 8 ∧ L ≠ []
  · obtain ⟨g1, g2⟩ := hg
    have hok : keyB key = true ∧ backsOkB L = true := by
      unfold tabN at g1; split at g1
      · assumption
      · cases g1
    have hpos : 1 ≤ L.length := by rcases L with _ | ⟨a, t⟩; exact absurd rfl g2; simp
    rw [g1] at hRt ⊢
    have zz : ((L.length : Int) == 0) = false := beq_eq_false_iff_ne.2 (by omega)
    have HRt := hide hRt
    have HRv := hide hRv
    have HV := hide hv
    clear hRt hRv hv g2
    go_wp2_with fail
    refine (at_any o cap l wt hRa hB8 hm).mono ?_
    rintro e _ ⟨x, rfl, hx0, hx1, rfl⟩
    have hmod : 0 ≤ x % (L.length : Int) ∧ x % (L.length : Int) < L.length := ⟨Int.emod_nonneg _ (by omega), Int.emod_lt_of_pos _ (by omega)⟩
    obtain ⟨kk, hkk⟩ : ∃ kk : Nat, x % (L.length : Int) = kk := ⟨(x % (L.length : Int)).toNat, by omega⟩
    have hlt : kk < L.length := by omega
    have z1 : (kk : Int) < (L.length : Int) := by omega
    have hform : ∃ g, ov = some ⟨g, 0, none⟩ ∧ L.length ≤ cv ∧ g < wt.heap.size := by
      rcases HV.out.2 with ⟨h1, h2⟩ | ⟨g, c', cur, h1, _, h3, h4, _⟩
      · rw [h2] at hlt; cases hlt
      · rw [hve] at h1
        injection h1 with e1 e2 e3
        subst e1 e3
        refine ⟨g, rfl, h4, ?_⟩
        rcases HRv.out with h | ⟨b, off, ho, hb, _⟩
        · rw [h] at hlt; simp at hlt
        · injection ho with ho; injection ho with ho _ _; subst ho; exact hb
    obtain ⟨gv, rfl, hcv, hgv⟩ := hform
    have hk7 : kk ≤ 7 := by omega
    have wr1 : IntKind.i64.wrap ((kk : Int) + 1) = (kk : Int) + 1 := wrap_i64 _ (by omega) (by omega)
    have f1 : kk ≤ cv := by omega
    have f2 : kk + 1 ≤ L.length := by omega
    have f3 : kk + 1 ≤ cv := by omega
    have F1 : ownK (wt.alloc (.cells #[] 41)).drew wt.heap.size (.slice (some ⟨wt.heap.size, 0, none⟩) 0 0) [] := own_none _ _
    have B1 : Below wt.heap.size wt (wt.alloc (.cells #[] 41)).drew := ((Below.refl _ _).alloc (Nat.le_refl _) _).drew
    have FR1 : RdK wt.heap.size (wt.alloc (.cells #[] 41)).drew (some ⟨gv, 0, none⟩) (L.take kk) := (HRv.out.kept B1 (Nat.le_refl _)).take kk
    have HB1 := hide B1
    clear B1
    have f5 : 0 ≤ (kk : Int) + 1 := by omega
    have f6 : (kk : Int) + 1 ≤ (L.length : Int) := by omega
    have HRD := hide (fun W (hW : Below wt.heap.size wt W) => (show RdK wt.heap.size W (if cv = kk + 1 then some ⟨gv, 0, none⟩ else some ⟨gv, (kk + 1) * 3, none⟩) (L.drop (kk + 1)) by
      split
      · left; exact List.drop_eq_nil_of_le (by omega)
      · exact (HRv.out.kept hW (Nat.le_refl _)).drop (kk + 1) _ (by simp [layK])))
    go_wp2
    go_region_law (first
      | (refine step_append_lay appK rfl _ _ rfl wt.heap.size _ ([] : List Bk) rfl F1 (some ⟨gv, 0, none⟩) cv wt.heap.size (L.take kk) kk ?h1 rfl ?h2 FR1 ?h3 ?h4 ?_; (case h1 => (simp; omega)); (case h2 => (intro h; cases h)); (case h3 => (simp; omega)); (case h4 => (show wt.heap.size ≤ (wt.alloc _).heap.size; simp)); intro v8 w8 hv8 hg8 _; have hb8 := hide (HB1.out.grown hg8 (by show wt.heap.size ≤ (wt.alloc _).heap.size; simp) (fun k h => (F1.lt k h).1)); have hv8 := hide hv8; clear hg8)
      | (refine step_append_lay appK rfl _ _ rfl wt.heap.size _ ([] ++ L.take kk) rfl hv8.out _ (cv - (kk + 1)) wt.heap.size (L.drop (kk + 1)) (L.length - (kk + 1)) ?h1 rfl ?h2 (HRD.out _ hb8.out) ?h3 ?h4 ?_; (case h1 => simp); (case h2 => (intro h; split at h <;> cases h)); (case h3 => (simp; omega)); (case h4 => exact hb8.out.size); intro v9 w9 hv9 hg9 _; have hb9 := hide (hb8.out.grown hg9 hb8.out.size (fun k h => (hv8.out.lt k h).1)); have hv9 := hide hv9; clear hg9 hv8 hb8))
    all_goals generalize (if cv = kk + 1 then some (⟨gv, 0, none⟩ : Addr) else some ⟨gv, (kk + 1) * 3, none⟩) = oq at *
    all_goals (
      have hv9' : ownK w9 wt.heap.size v9 (off1 L kk) := hv9.out
      have hl9 : (off1 L kk).length ≤ 7 := by rw [off1_length hlt]; omega
      obtain ⟨o9, c9, e9, hR9⟩ := ownL.open (L := layK) hv9'
      rw [e9]
      have hN : tabN key (off1 L kk) = 8 := by rw [tabN, if_pos ⟨hok.1, off1_ok hok.2 hlt⟩]
      have hB9 := hide hb9.out
      clear hv9 hb9 hv9' e9
      go_wp2_with fail
      refine (implTableOf_any key o9 c9 (off1 L kk) w9 hR9 (by omega)).mono ?_
      rintro e wu ⟨vu, rfl, hu, hbu⟩
      obtain ⟨ou, cu, hue, hRu⟩ := hu.open
      rw [hue]
      rw [hN] at hRu ⊢
      have HBu : Hid (Below wt.heap.size wt wu) := hB9.out.trans (hbu.mono hB9.out.size)
      have HRt2 := hide ((HRt.out.kept HBu.out (Nat.le_refl _)).le HBu.out.size)
      have HRu := hide hRu
      have HRv2 := hide ((HRv.out.kept HBu.out (Nat.le_refl _)).le HBu.out.size)
      clear hu hbu hue hRu hR9 hB9 HRt HRv HRD FR1 F1 HB1 hN hl9 wr1 f1 f2 f3 f5 f6 hcv
      obtain ⟨T, hT⟩ : ∃ T, T = rowsOf (fun b => pairI key b L) 8 := ⟨_, rfl⟩
      obtain ⟨U, hU⟩ : ∃ U, U = rowsOf (fun b => pairI key b (off1 L kk)) 8 := ⟨_, rfl⟩
      obtain ⟨q, hq⟩ : ∃ q, q = (L.getD kk (0, 0, false)).1 := ⟨_, rfl⟩
      have HM : Hid (∀ i, i < 8 → q ∉ T.getD i [] → T.getD i [] = U.getD i []) := gones_same hok.1 hok.2 hlt hT hU hq
      have HT8 : Hid (T.length = 8 ∧ U.length = 8 ∧ ∀ i, i < 8 → (T.getD i []).length ≤ 2 ∧ (U.getD i []).length ≤ 2) := gones_len hT hU
      rw [← hT] at HRt2
      rw [← hU] at HRu
      have hIdc : wu.cell? ⟨gv, kk * 3, none⟩ = some (.int .i64 q) := by
        rcases HRv2.out with h | ⟨b, off, ho, hb, hcell⟩
        · rw [h] at hlt; simp at hlt
        · injection ho with ho; injection ho with ho1 ho2 _; subst ho1 ho2
          have := (RdL.back (C := wu.heap.size) hcell kk hlt).1
          rw [Nat.zero_add, ← hq] at this; exact this
      have hgu : gv < wu.heap.size := Nat.lt_of_lt_of_le hgv HBu.out.size
      clear hT hU hq HRv2 hRa hB8 hm
      go_wp2
      go_loopw [2, 9, 10] (fun rv nv iv wr => ∃ i : Nat, i ≤ 8 ∧ iv = .int .i64 i ∧ rv = .bool false ∧ nv = .int .i64 (wasTo T q i) ∧ Below wu.heap.size wu wr)
        (fun _ _ iv _ => 8 - (intOf iv).toNat)
      case atStart => exact ⟨0, Nat.zero_le _, rfl, rfl, rfl, Below.refl _ _⟩
      case round =>
        obtain ⟨i, hi, rfl, rfl, rfl, hBr⟩ := hrel
        have hwb := wasTo_bd T q i
        by_cases hi8 : i < 8
        · obtain ⟨tb, toff, to', tc', rfl, htb, htc, htr⟩ := HRt2.out.at (Nat.le_refl _) i (by rw [HT8.out.1]; exact hi8)
          obtain ⟨ub, uoff, uo', uc', rfl, hub, huc, hur⟩ := HRu.out.at (Nat.le_refl _) i (by rw [HT8.out.2.1]; exact hi8)
          have ctr := (hBr.cell (p := ⟨tb, toff + i, none⟩) htb).trans htc
          have cur := (hBr.cell (p := ⟨ub, uoff + i, none⟩) hub).trans huc
          have cid := (hBr.cell (p := ⟨gv, kk * 3, none⟩) hgu).trans hIdc
          have HTR := hide ((htr.kept hBr (Nat.le_refl _)).le hBr.size)
          have HUR := hide ((hur.kept hBr (Nat.le_refl _)).le hBr.size)
          have HMi := hide (HM.out i hi8)
          have HWn : Hid (wasTo T q (i + 1) = wasTo T q i + (if q ∈ T.getD i [] then 1 else 0)) := rfl
          have hlR := (HT8.out.2.2 i hi8).1
          have htb' : tb < wr.heap.size := Nat.lt_of_lt_of_le htb hBr.size
          have hub' : ub < wr.heap.size := Nat.lt_of_lt_of_le hub hBr.size
          have hgr : gv < wr.heap.size := Nat.lt_of_lt_of_le hgu hBr.size
          have Br := hide hBr
          clear htc huc htr hur hBr
          generalize T.getD i [] = R at *
          generalize U.getD i [] = R' at *
          generalize wasTo T q i = n at *
          have z8 : (i : Int) < 8 := by omega
          go_wp2
          go_loopw [11, 12] (fun wv jv ws => ∃ j : Nat, j ≤ R.length ∧ jv = .int .i64 j ∧ wv = .bool (decide (q ∈ R.take j)) ∧ Below wr.heap.size wr ws)
            (fun _ jv _ => R.length - (intOf jv).toNat)
          case atStart => exact ⟨0, Nat.zero_le _, rfl, by simp, Below.refl _ _⟩
          case round =>
            obtain ⟨j, hj, rfl, rfl, hBs⟩ := hrel
            have ct := (hBs.cell (p := ⟨tb, toff + i, none⟩) htb').trans ctr
            by_cases hj2 : j < R.length
            · have htk := take_succ_getD R j hj2
              rcases HTR.out with h | ⟨rb, roff, rfl, hrb, hrc⟩
              · rw [h] at hj2; simp at hj2
              have crow := (hBs.cell (p := ⟨rb, roff + j, none⟩) hrb).trans (RdL.int hrc j hj2)
              have cid2 := (hBs.cell (p := ⟨gv, kk * 3, none⟩) hgr).trans cid
              have zj : (j : Int) < (R.length : Int) := by omega
              have G0 := Grown.cell ct (Nat.lt_of_lt_of_le htb' hBs.size)
              have G1 := Grown.cell crow (Nat.lt_of_lt_of_le hrb hBs.size)
              have G2 := Grown.cell cid2 (Nat.lt_of_lt_of_le hgr hBs.size)
              have Bs := hide hBs
              clear hrc hBs ctr cur cid crow cid2 hIdc
              generalize R.getD j 0 = y at *
              by_cases hw : q ∈ R.take j
              · have HN : Hid (decide (q ∈ R.take (j + 1)) = true) := by
                  rw [htk]; exact decide_eq_true (List.mem_append_left _ hw)
                rw [decide_eq_true hw]
                clear hw htk
                go_wp2
                (refine wp_region_grown (by kernel_rfl) (by kernel_rfl) ?_; intro hne9; (repeat (go_big_quiet_step ((fail)))); (with_reducible refine wpQuiet_nil ?_); intro _ hw9; obtain ⟨pq, hw8⟩ := hw9; subst hw8)
                have Bs2 := hide (Bs.out.trans (pq.b.mono Bs.out.size))
                go_wp2
                go_roundw
                case rel => exact ⟨j + 1, by omega, by go_num, by rw [HN.out], Bs2.out⟩
                case measure => simp [intOf]; omega
              · have HN : Hid (decide (q ∈ R.take (j + 1)) = (y == q)) := by
                  rw [htk, Bool.eq_iff_iff]
                  simp [hw]
                  exact eq_comm
                rw [decide_eq_false hw]
                clear hw htk
                go_wp2
                (refine wp_region_grown (by kernel_rfl) (by kernel_rfl) ?_; intro hne9; (repeat (go_big_quiet_step ((fail)))); (with_reducible refine wpQuiet_nil ?_); intro _ hw9; obtain ⟨pq, hw8⟩ := hw9; subst hw8)
                have Bs2 := hide (Bs.out.trans (pq.b.mono Bs.out.size))
                go_wp2
                go_roundw
                case rel => exact ⟨j + 1, by omega, by go_num, by rw [HN.out], Bs2.out⟩
                case measure => simp [intOf]; omega
            · have e : j = R.length := by omega
              subst e
              rw [List.take_length]
              have cu2 := (hBs.cell (p := ⟨ub, uoff + i, none⟩) hub').trans cur
              have G0 := Grown.cell ct (Nat.lt_of_lt_of_le htb' hBs.size)
              have G1 := Grown.cell cu2 (Nat.lt_of_lt_of_le hub' hBs.size)
              have Bs := hide hBs
              clear ctr cur cid cu2 hIdc
              by_cases hm : q ∈ R
              · have HN := hide (show wasTo T q (i + 1) = n + 1 by rw [HWn.out, if_pos hm])
                rw [decide_eq_true hm]
                clear hm hBs HMi HWn
                go_wp2
                (refine wp_region_grown (by kernel_rfl) (by kernel_rfl) ?_; intro hne9; (repeat (go_big_quiet_step ((fail)))); (with_reducible refine wpQuiet_nil ?_); intro _ hw9; obtain ⟨pq, hw8⟩ := hw9; subst hw8)
                have Bs2 := hide (Bs.out.trans (pq.b.mono Bs.out.size))
                go_wp2
                go_roundw
                case rel => exact ⟨i + 1, by omega, by go_num, rfl, by rw [HN.out], Br.out.trans (Bs2.out.mono Br.out.size)⟩
                case measure => simp [intOf]; omega
              · have HN := hide (show wasTo T q (i + 1) = n by rw [HWn.out, if_neg hm, Int.add_zero])
                obtain rfl := HMi.out hm
                have hsm := fun (p : Grown wr) => sameInts_any to' uo' tc' uc' R p.v (((HTR.out.kept (Bs.out.trans (p.b.mono Bs.out.size)) (Nat.le_refl _)).le (Bs.out.trans (p.b.mono Bs.out.size)).size)) (((HUR.out.kept (Bs.out.trans (p.b.mono Bs.out.size)) (Nat.le_refl _)).le (Bs.out.trans (p.b.mono Bs.out.size)).size)) (by omega)
                rw [decide_eq_false hm]
                clear hm hBs HMi HWn
                go_wp2
                (refine wp_region_grown (by kernel_rfl) (by kernel_rfl) ?_; intro hne9; (repeat (go_big_quiet_step ((go_at_call 26; exact grown_of _ (hsm _))))); (with_reducible refine wpQuiet_nil ?_); intro _ hw9; obtain ⟨pq, hw8⟩ := hw9; subst hw8)
                have Bs2 := hide (Bs.out.trans (pq.b.mono Bs.out.size))
                go_wp2
                go_roundw
                case rel => exact ⟨i + 1, by omega, by go_num, rfl, by rw [HN.out], Br.out.trans (Bs2.out.mono Br.out.size)⟩
                case measure => simp [intOf]; omega
        · have e : i = 8 := by omega
          subst e
          have HMo := hide (moved_was (i := q) 8 HM.out 8 (Nat.le_refl _))
          have e1 : movedI T U = movedTo T U 8 := by rw [movedI, if_pos ⟨HT8.out.1, HT8.out.2.1⟩]
          have e2 : movedI T T = 0 := by rw [movedI, if_pos ⟨HT8.out.1, HT8.out.1⟩, moved_self]
          have hm1 := fun W (hW : Below wu.heap.size wu W) => implMoved_any ot ou ct cu T U W ((HRt2.out.kept hW (Nat.le_refl _)).le hW.size) ((HRu.out.kept hW (Nat.le_refl _)).le hW.size) (by rw [HT8.out.1]; omega) (by rw [HT8.out.2.1]; omega) (fun i hi => Nat.le_trans (HT8.out.2.2 i (by rw [HT8.out.1] at hi; exact hi)).1 (by omega)) (fun i hi => Nat.le_trans (HT8.out.2.2 i (by rw [HT8.out.2.1] at hi; exact hi)).2 (by omega))
          have hm2 := fun W (hW : Below wu.heap.size wu W) => implMoved_any ot ot ct ct T T W ((HRt2.out.kept hW (Nat.le_refl _)).le hW.size) ((HRt2.out.kept hW (Nat.le_refl _)).le hW.size) (by rw [HT8.out.1]; omega) (by rw [HT8.out.1]; omega) (fun i hi => Nat.le_trans (HT8.out.2.2 i (by rw [HT8.out.1] at hi; exact hi)).1 (by omega)) (fun i hi => Nat.le_trans (HT8.out.2.2 i (by rw [HT8.out.1] at hi; exact hi)).1 (by omega))
          rw [HT8.out.1, HT8.out.2.1, e1] at hm1
          rw [HT8.out.1, e2] at hm2
          have hmb := movedTo_bd T U 8
          generalize movedTo T U 8 = m at *
          generalize wasTo T q 8 = n at *
          have dm : decide (m ≤ n) = true := decide_eq_true HMo.out
          have dm' : m ≤ n := HMo.out
          have Br := hide hBr
          clear e1 e2 hBr
          go_wp2_with fail
          refine (hm1 _ Br.out).mono ?_
          rintro e w1 ⟨rfl, hb1⟩
          replace Br := hide (Br.out.trans (hb1.mono Br.out.size))
          clear hb1
          go_wp2_with fail
          refine (hm2 _ Br.out).mono ?_
          rintro e w2 ⟨rfl, hb2⟩
          replace Br := hide (Br.out.trans (hb2.mono Br.out.size))
          clear hb2
          go_wp2_with fail
          refine (hashes_any _).mono ?_
          rintro e w3 ⟨rfl, hb3⟩
          replace Br := hide (Br.out.trans (hb3.mono Br.out.size))
          clear hb3
          go_wp2
          go_ret
          exact ⟨rfl, HB.out.trans ((HBu.out.trans (Br.out.mono HBu.out.size)).mono HB.out.size)⟩)

  · have hz : tabN key L = 0 ∨ (tabN key L = 8 ∧ L = []) := by
      by_cases h8 : tabN key L = 8
      · right; exact ⟨h8, Classical.byContradiction fun h => hg ⟨h8, h⟩⟩
      · left; unfold tabN at h8 ⊢; split at h8; exact absurd rfl h8; rename_i hn; rw [if_neg hn]
    rcases hz with hz | ⟨hz, rfl⟩
    all_goals rw [hz]
    all_goals clear hz hg hRt hRv hRa hve hv
    all_goals (
      go_wp2_with (go_at_call 18; refine (hashes_any _).mono ?_; rintro e we ⟨rfl, hbe⟩; replace HB := hide (HB.out.trans (hbe.mono HB.out.size)); clear hbe)
      go_ret
      exact ⟨rfl, HB.out⟩)

set_option maxRecDepth 100000 in
theorem fnGones_lifted (os : Os) (started : os.Started) (H : Type) (enc : TypeId × Value → H) :
    ReturnsInHanded {} Try.checked os 5 .any (Rows.fnGonesSpec.pre6 enc Try.prog Try.f5 Rows.fnGonesRow.domain false) (Rows.fnGonesSpec.post enc Try.prog Try.f5 false true false false) := by
  refine returnsInHanded_of_change (C := Try.checked) own started (by kernel_rfl) Try.func5
    (ChangeSpec.witness6 (enc := enc) (C := Try.checked) false ⟨#[], #[.slice none 0 0], []⟩ 8 (by kernel_rfl) (by kernel_rfl) (by kernel_rfl) (by kernel_rfl)) ?_
  intro W base args ds gs before hval0 hW hcnd _
  have hval : ∀ (j : Nat) t v, Try.f5.params[j]? = some t → args[j]? = some v → Value.okWide Try.prog W .any base t v := hval0
  have hW' := hW
  obtain ⟨p, q, hA0, hV, rfl, hfz, hnd⟩ := hW
  have hA : DataW.TrodAll enc Try.prog W 0 (fun _ => true) true Try.f5.params.toList args.toList ds p := hA0
  rw [Try.params5] at hA hval
  obtain ⟨v0, vs0, d0, ds0, p0, q0, hargs, rfl, rfl, h0, r0⟩ := trodAll_cons hA
  obtain ⟨rfl, rfl, rfl⟩ := trodAll_nil r0
  obtain rfl : args = #[v0] := by cases args; simp_all
  obtain ⟨rfl, rfl⟩ := trodVars_none hV
  have k0 := h0
  have lt0 : ∀ x ∈ p0, x.block < W.heap.size := by obtain ⟨m, hm⟩ := k0; exact DataW.trod_lt m _ _ _ hm
  obtain ⟨o0, cap0, l0, rfl, hm0, hR0, hB80⟩ := open_bytes (hval 0 22 v0 rfl rfl) h0
  clear hA0 hval0
  refine (lawGones o0 cap0 l0 W hm0 hR0 hB80 ).mono fun e W' ⟨he, bel⟩ => ?_
  subst he
  exact ⟨_, rfl, _, _, _, [], _, [], hW', trodAll_mk1 (shut_bool Try.underlying4 _), (trodAll_cons_mk (Below.trod laidOut (by kernel_rfl) (of_decide_eq_true (by kernel_rfl)) k0 bel lt0) trodAll_mk0), rfl, bel.frame _, fun h => by cases h⟩

theorem fnGones_over : Rows.fnGonesRow.holds Try.pinned (OpenSpec.ofChange Rows.fnGonesSpec) :=
  OpenClaim.holds_of_wide 5 Try.f5 rfl rfl rfl rfl rfl rfl rfl ⟨rfl, rfl, rfl, rfl, rfl⟩ rfl rfl rfl rfl rfl (by kernel_rfl) Try.func5 (by kernel_rfl)
    (of_decide_eq_true (by kernel_rfl)) (by unfold Func.isWrapper; first | (rw [if_pos (by decide +kernel)]; kernel_rfl) | (rw [if_neg (by decide +kernel)]; exact ⟨rfl, rfl⟩))
    (fun os started H enc _ => fnGones_lifted os started H enc)

theorem fnGones_holds : Rows.FnGonesSaid := fnGones_over

end Go.Proofs.Ytgnfcnajepbhpaa
