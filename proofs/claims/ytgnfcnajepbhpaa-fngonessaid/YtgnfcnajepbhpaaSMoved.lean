/- Moved on both sides. -/
import Derived.Test.YtgnfcnajepbhpaaLInts
namespace Go.Proofs.Ytgnfcnajepbhpaa
open Go.ChangeShapes Go.WideShapes Go.ChangeAt Go.RowKit Go.Joins
set_option linter.unusedVariables false
set_option linter.unusedSimpArgs false

/-- How many of the first k rows are unlike. -/
def movedTo (aa bb : List (List Int)) : Nat → Int
  | 0 => 0
  | k + 1 => movedTo aa bb k + (if aa.getD k [] = bb.getD k [] then 0 else 1)
theorem movedTo_bd (aa bb : List (List Int)) : ∀ k, 0 ≤ movedTo aa bb k ∧ movedTo aa bb k ≤ k
  | 0 => ⟨Int.le_refl _, Int.le_refl _⟩
  | k + 1 => by have := movedTo_bd aa bb k; unfold movedTo; split <;> omega
def movedI (aa bb : List (List Int)) : Int := if aa.length = 8 ∧ bb.length = 8 then movedTo aa bb 8 else -1

theorem movedI_no {aa bb : List (List Int)} (h : ¬ (aa.length = 8 ∧ bb.length = 8)) : -1 = movedI aa bb := by rw [movedI, if_neg h]
theorem movedTo_same {aa bb : List (List Int)} {k : Nat} {ra rb : List Int} (h1 : aa.getD k [] = ra) (h2 : bb.getD k [] = rb) (h : ra = rb) : movedTo aa bb k = movedTo aa bb (k + 1) := by
  unfold movedTo; rw [h1, h2, if_pos h]; cases k <;> simp [movedTo]
theorem movedTo_diff {aa bb : List (List Int)} {k : Nat} {ra rb : List Int} (h1 : aa.getD k [] = ra) (h2 : bb.getD k [] = rb) (h : ra ≠ rb) : movedTo aa bb k + 1 = movedTo aa bb (k + 1) := by
  rw [show movedTo aa bb (k + 1) = movedTo aa bb k + (if aa.getD k [] = bb.getD k [] then 0 else 1) from rfl, h1, h2, if_neg h]

set_option maxHeartbeats 1000000 in
theorem slicesEqual_any (o1 o2 : Option Addr) (c1 c2 : Nat) (l1 l2 : List Int) (w : World) (h1 : RdI w.heap.size w o1 l1) (h2 : RdI w.heap.size w o2 l2) (hl1 : l1.length ≤ 1048576) (hl2 : l2.length ≤ 1048576) :
    Calls Try.prog 62 #[.slice o1 l1.length c1, .slice o2 l2.length c2] w fun e w' => e = .returned (.bool (decide (l1 = l2))) ∧ Below w.heap.size w w' := by
  by_cases hlen : l1.length = l2.length
  · have hne : ((l1.length : Int) != (l2.length : Int)) = false := by simp [hlen]
    have HL := hide hlen
    have hle : l1.length ≤ l2.length := by omega
    have hge : l2.length ≤ l1.length := by omega
    clear hlen
    go_enter Try.func62, Try.ntmps62
    go_wp2
    go_loopw [4, 13] (fun rv i wr => ∃ k : Nat, k ≤ l1.length ∧ i = .int .i64 k ∧ rv = .bool false ∧ l1.take k = l2.take k ∧ Below w.heap.size w wr)
      (fun _ i _ => l1.length - (intOf i).toNat)
    case atStart => exact ⟨0, Nat.zero_le _, rfl, rfl, rfl, Below.refl _ _⟩
    case round =>
      obtain ⟨k, hk, rfl, rfl, htk, hBr⟩ := hrel
      have HT := hide htk
      by_cases hlt : k < l1.length
      · rcases h1 with h1 | ⟨b1, off1, rfl, hb1, hcell1⟩
        · subst h1; simp at hlt
        rcases h2 with h2 | ⟨b2, off2, rfl, hb2, hcell2⟩
        · subst h2; simp at hle; simp [hle] at hlt
        have hlt2 : k < l2.length := by omega
        have hc1 : wr.cell? ⟨b1, off1 + k, none⟩ = some (.int .i64 (l1.getD k 0)) := (hBr.cell (p := ⟨b1, off1 + k, none⟩) hb1).trans (RdL.int hcell1 k hlt)
        have hc2 : wr.cell? ⟨b2, off2 + k, none⟩ = some (.int .i64 (l2.getD k 0)) := (hBr.cell (p := ⟨b2, off2 + k, none⟩) hb2).trans (RdL.int hcell2 k hlt2)
        have HB := hide hBr
        have t1 := hide (take_succ_getD l1 k hlt)
        have t2 := hide (take_succ_getD l2 k hlt2)
        have N12 : Hid (l1 = l2 → l1.getD k 0 = l2.getD k 0) := fun h => by rw [h]
        clear hcell1 hcell2
        have i1 : (k : Int) < (l1.length : Int) := by omega
        have i2 : (k : Int) < (l2.length : Int) := by omega
        generalize l1.getD k 0 = x at *
        generalize l2.getD k 0 = y at *
        clear htk hBr
        by_cases hxy : x = y
        · have hb : (x != y) = false := by simp [hxy]
          have HX := hide hxy
          clear hxy N12
          go_wp2
          go_quiet (fail)
          go_wp2
          go_roundw
          case rel =>
            refine ⟨k + 1, by omega, by go_num, rfl, ?_, ?_⟩
            · rw [t1.out, t2.out, HT.out, HX.out]
            · exact below_drewN HB.out _
          case measure => simp [intOf]; omega
        · have hb : (x != y) = true := by simp [hxy]
          have HX : Hid (l1 ≠ l2) := fun h => hxy (N12.out h)
          clear hxy N12 t1 t2
          go_wp2
          go_quiet (fail)
          go_wp2
          go_ret
          exact ⟨ret_bool (decide_eq_false HX.out).symm, below_drewN HB.out _⟩
      · have e : l1 = l2 := by
          have := htk; rw [List.take_of_length_le (by omega), List.take_of_length_le (by omega)] at this; exact this
        have HE := hide e
        have HB := hide hBr
        clear e htk hBr
        go_wp2
        go_ret
        exact ⟨ret_bool (decide_eq_true HE.out).symm, HB.out⟩
  · have hne : ((l1.length : Int) != (l2.length : Int)) = true := by simp; omega
    have HE : Hid (l1 ≠ l2) := fun h => hlen (by rw [h])
    go_enter Try.func62, Try.ntmps62
    go_wp2
    go_ret
    exact ⟨ret_bool (decide_eq_false HE.out).symm, Below.refl _ _⟩

set_option maxHeartbeats 2000000 in
theorem implMoved_any (oa ob : Option Addr) (ca cb : Nat) (aa bb : List (List Int)) (w : World) (hA : RdLL w.heap.size w oa aa) (hB : RdLL w.heap.size w ob bb) (la : aa.length ≤ 1048576) (lb : bb.length ≤ 1048576)
    (xa : ∀ i, i < aa.length → (aa.getD i []).length ≤ 1048576) (xb : ∀ i, i < bb.length → (bb.getD i []).length ≤ 1048576) :
    Calls Try.prog 27 #[.slice oa aa.length ca, .slice ob bb.length cb] w fun e w' => e = .returned (.int .i64 (movedI aa bb)) ∧ Below w.heap.size w w' := by
  by_cases h8 : aa.length = 8 ∧ bb.length = 8
  · have HE := hide (show movedTo aa bb 8 = movedI aa bb by rw [movedI, if_pos h8])
    obtain ⟨e1, e2⟩ := h8
    have HE1 := hide e1
    have HE2 := hide e2
    go_enter Try.func27, Try.ntmps27
    go_wp2
    clear e1 e2
    go_loopw [5, 18] (fun n i wr => ∃ k : Nat, k ≤ 8 ∧ i = .int .i64 k ∧ n = .int .i64 (movedTo aa bb k) ∧ Below w.heap.size w wr)
      (fun _ i _ => 8 - (intOf i).toNat)
    case atStart => exact ⟨0, Nat.zero_le _, rfl, rfl, Below.refl _ _⟩
    case round =>
      obtain ⟨k, hk, rfl, rfl, hBr⟩ := hrel
      have hbd := movedTo_bd aa bb k
      by_cases hlt : k < 8
      · have i1 : k < aa.length := by rw [HE1.out]; exact hlt
        have i2 : k < bb.length := by rw [HE2.out]; exact hlt
        have j1 : (k : Int) < (aa.length : Int) := by omega
        have j2 : (k : Int) < (bb.length : Int) := by omega
        obtain ⟨b1, off1, o1', c1', rfl, hb1, hc1, hr1⟩ := hA.at (Nat.le_refl _) k i1
        obtain ⟨b2, off2, o2', c2', rfl, hb2, hc2, hr2⟩ := hB.at (Nat.le_refl _) k i2
        have hxa := xa k i1
        have hxb := xb k i2
        have hc1r := (hBr.cell (p := ⟨b1, off1 + k, none⟩) hb1).trans hc1
        have hc2r := (hBr.cell (p := ⟨b2, off2 + k, none⟩) hb2).trans hc2
        replace hr1 := (hr1.kept hBr (Nat.le_refl _)).le hBr.size
        replace hr2 := (hr2.kept hBr (Nat.le_refl _)).le hBr.size
        have HB := hide hBr
        clear hc1 hc2 xa xb hA hB hBr
        generalize hra : aa.getD k [] = ra at *
        generalize hrb : bb.getD k [] = rb at *
        have hq := slicesEqual_any o1' o2' c1' c2' ra rb wr hr1 hr2 hxa hxb
        clear hr1 hr2
        by_cases hab : ra = rb
        · have HM := hide (movedTo_same hra hrb hab)
          rw [decide_eq_true hab] at hq
          clear hra hrb hab
          go_wp2_with fail
          refine hq.mono ?_
          rintro e w2 ⟨rfl, hb2'⟩
          go_wp2
          go_roundw
          case rel => exact ⟨k + 1, by omega, by go_num, by rw [HM.out], HB.out.trans (hb2'.mono HB.out.size)⟩
          case measure => simp [intOf]; omega
        · have HM := hide (movedTo_diff hra hrb hab)
          rw [decide_eq_false hab] at hq
          clear hra hrb hab
          go_wp2_with fail
          refine hq.mono ?_
          rintro e w2 ⟨rfl, hb2'⟩
          go_wp2
          go_roundw
          case rel => exact ⟨k + 1, by omega, by go_num, by rw [← HM.out], HB.out.trans (hb2'.mono HB.out.size)⟩
          case measure => simp [intOf]; omega
      · have e : k = 8 := by omega
        subst e
        go_wp2
        go_ret
        exact ⟨ret_int HE.out, hBr⟩
  · have HN := hide (movedI_no h8)
    by_cases h1 : aa.length = 8
    · have h2 : ¬ bb.length = 8 := fun h => h8 ⟨h1, h⟩
      have n2 : ((bb.length : Int) != 8) = true := by simp; omega
      go_enter Try.func27, Try.ntmps27
      go_wp2
      go_ret
      exact ⟨ret_int HN.out, Below.refl _ _⟩
    · have n1 : ((aa.length : Int) != 8) = true := by simp; omega
      go_enter Try.func27, Try.ntmps27
      go_wp2
      go_ret
      exact ⟨ret_int HN.out, Below.refl _ _⟩

set_option maxHeartbeats 2000000 in
theorem specMoved_any (oa ob : Option Addr) (ca cb : Nat) (aa bb : List (List Int)) (w : World) (hA : RdLL w.heap.size w oa aa) (hB : RdLL w.heap.size w ob bb) (la : aa.length ≤ 1048576) (lb : bb.length ≤ 1048576)
    (xa : ∀ i, i < aa.length → (aa.getD i []).length ≤ 1048576) (xb : ∀ i, i < bb.length → (bb.getD i []).length ≤ 1048576) :
    Calls Try.prog 47 #[.slice oa aa.length ca, .slice ob bb.length cb] w fun e w' => e = .returned (.int .i64 (movedI aa bb)) ∧ Below w.heap.size w w' := by
  by_cases h8 : aa.length = 8 ∧ bb.length = 8
  · have HE := hide (show movedTo aa bb 8 = movedI aa bb by rw [movedI, if_pos h8])
    obtain ⟨e1, e2⟩ := h8
    have HE1 := hide e1
    have HE2 := hide e2
    go_enter Try.func47, Try.ntmps47
    go_wp2
    have la8 : aa.length ≤ 8 := by omega
    have lb8 : 8 ≤ aa.length := by omega
    clear e1 e2
    go_loopw [5, 6] (fun n i wr => ∃ k : Nat, k ≤ 8 ∧ i = .int .i64 k ∧ n = .int .i64 (movedTo aa bb k) ∧ Below w.heap.size w wr)
      (fun _ i _ => 8 - (intOf i).toNat)
    case atStart => exact ⟨0, Nat.zero_le _, rfl, rfl, Below.refl _ _⟩
    case round =>
      obtain ⟨k, hk, rfl, rfl, hBr⟩ := hrel
      have hbd := movedTo_bd aa bb k
      by_cases hlt : k < 8
      · have i1 : k < aa.length := by rw [HE1.out]; exact hlt
        have i2 : k < bb.length := by rw [HE2.out]; exact hlt
        have j1 : (k : Int) < (aa.length : Int) := by omega
        have j2 : (k : Int) < (bb.length : Int) := by omega
        obtain ⟨b1, off1, o1', c1', rfl, hb1, hc1, hr1⟩ := hA.at (Nat.le_refl _) k i1
        obtain ⟨b2, off2, o2', c2', rfl, hb2, hc2, hr2⟩ := hB.at (Nat.le_refl _) k i2
        have hxa := xa k i1
        have hxb := xb k i2
        have hc1r := (hBr.cell (p := ⟨b1, off1 + k, none⟩) hb1).trans hc1
        have hc2r := (hBr.cell (p := ⟨b2, off2 + k, none⟩) hb2).trans hc2
        have HB := hide hBr
        clear xa xb hA hB hBr
        generalize hra : aa.getD k [] = ra at *
        generalize hrb : bb.getD k [] = rb at *
        have HS := hide (movedTo_same hra hrb)
        have HD := hide (movedTo_diff hra hrb)
        clear hra hrb
        go_wp2
        go_quiet (fail)
        have hBq : Below w.heap.size w (wr.drewN nq) := below_drewN HB.out _
        have hq1 := (hBq.cell (p := ⟨b1, off1 + k, none⟩) hb1).trans hc1
        have hq2 := (hBq.cell (p := ⟨b2, off2 + k, none⟩) hb2).trans hc2
        clear HB hc1r hc2r
        generalize wr.drewN nq = wo at *
        have HBo := hide hBq
        clear hBq
        go_wp2
        go_loopw [7, 8] (fun s j wi => ∃ (q : Nat) (t : Bool), q ≤ ra.length ∧ j = .int .i64 q ∧ s = .bool t ∧ (t = true ↔ ra.length = rb.length ∧ ra.take q = rb.take q) ∧ Below w.heap.size w wi)
          (fun _ j _ => ra.length - (intOf j).toNat)
        case atStart => exact ⟨0, _, Nat.zero_le _, rfl, rfl, by simp [Int.ofNat_inj], HBo.out⟩
        case round =>
          obtain ⟨q, t, hq, rfl, rfl, ht, hBi⟩ := hrel
          have HT := hide ht
          have HBi := hide hBi
          have r1 := (hBi.cell (p := ⟨b1, off1 + k, none⟩) hb1).trans hc1
          have r2 := (hBi.cell (p := ⟨b2, off2 + k, none⟩) hb2).trans hc2
          clear ht hBi hq1 hq2
          by_cases hql : q < ra.length
          · cases t with
            | true =>
              obtain ⟨HL, HTk⟩ := HT.out.1 rfl
              have hqr : q < rb.length := by omega
              have z1 : (q : Int) < (ra.length : Int) := by omega
              have z2 : (q : Int) < (rb.length : Int) := by omega
              have HL' := hide HL
              have HTk' := hide HTk
              rcases hr1 with hr1 | ⟨g1, f1, rfl, hg1, hcell1⟩
              · subst hr1; simp at hql
              rcases hr2 with hr2 | ⟨g2, f2, rfl, hg2, hcell2⟩
              · subst hr2; simp at hqr
              have y1 : wr.cell? ⟨g1, f1 + q, none⟩ = some (.int .i64 (ra.getD q 0)) := (HBi.out.cell (p := ⟨g1, f1 + q, none⟩) hg1).trans (RdL.int hcell1 q hql)
              have y2 : wr.cell? ⟨g2, f2 + q, none⟩ = some (.int .i64 (rb.getD q 0)) := (HBi.out.cell (p := ⟨g2, f2 + q, none⟩) hg2).trans (RdL.int hcell2 q hqr)
              have t1 := hide (take_succ_getD ra q hql)
              have t2 := hide (take_succ_getD rb q hqr)
              clear hcell1 hcell2 HT HL HTk hc1 hc2
              generalize ra.getD q 0 = x at *
              generalize rb.getD q 0 = y at *
              go_wp2
              go_quiet (fail)
              go_wp2
              go_roundw
              case rel =>
                refine ⟨q + 1, _, by omega, by go_num, rfl, ?_, below_drewN HBi.out _⟩
                rw [t1.out, t2.out, HTk'.out, List.append_cancel_left_eq]
                simp [HL'.out]
              case measure => simp [intOf]; omega
            | false =>
              have HN : Hid (ra ≠ rb) := fun h => by
                have := HT.out.2 ⟨by rw [h], by rw [h]⟩
                cases this
              have HM := hide (HD.out HN.out)
              have z1 : (q : Int) < (ra.length : Int) := by omega
              clear HT hc1 hc2
              go_wp2
              go_roundw
              case rel => exact ⟨k + 1, by omega, by go_num, by rw [← HM.out], HBi.out⟩
              case measure => simp [intOf]; omega
          · have eq : q = ra.length := by omega
            subst eq
            have z1 : ¬ (ra.length : Int) < (ra.length : Int) := by omega
            cases t with
            | true =>
              have HY : Hid (ra = rb) := by
                obtain ⟨h1, h2⟩ := HT.out.1 rfl
                rw [List.take_of_length_le (Nat.le_refl _), List.take_of_length_le (by omega)] at h2
                exact h2
              have HM := hide (HS.out HY.out)
              clear HT hc1 hc2
              go_wp2
              go_roundw
              case rel => exact ⟨k + 1, by omega, by go_num, by rw [HM.out], HBi.out⟩
              case measure => simp [intOf]; omega
            | false =>
              have HN : Hid (ra ≠ rb) := fun h => by
                have := HT.out.2 ⟨by rw [h], by rw [h]⟩
                cases this
              have HM := hide (HD.out HN.out)
              clear HT hc1 hc2
              go_wp2
              go_roundw
              case rel => exact ⟨k + 1, by omega, by go_num, by rw [← HM.out], HBi.out⟩
              case measure => simp [intOf]; omega
      · have e : k = 8 := by omega
        subst e
        have nl : ¬ (8 : Int) < (aa.length : Int) := by omega
        go_wp2
        go_ret
        exact ⟨ret_int HE.out, hBr⟩
  · have HN := hide (movedI_no h8)
    by_cases h1 : aa.length = 8
    · have h2 : ¬ bb.length = 8 := fun h => h8 ⟨h1, h⟩
      have n2 : ((bb.length : Int) != 8) = true := by simp; omega
      go_enter Try.func47, Try.ntmps47
      go_wp2
      go_ret
      exact ⟨ret_int HN.out, Below.refl _ _⟩
    · have n1 : ((aa.length : Int) != 8) = true := by simp; omega
      go_enter Try.func47, Try.ntmps47
      go_wp2
      go_ret
      exact ⟨ret_int HN.out, Below.refl _ _⟩

end Go.Proofs.Ytgnfcnajepbhpaa
