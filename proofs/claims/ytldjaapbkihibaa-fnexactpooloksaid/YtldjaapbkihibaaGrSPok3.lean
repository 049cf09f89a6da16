/- Several texts in one: SMoved, ShP2, OpenP, SPok, SPok2, SPok3. -/
import Derived.Test.YtldjaapbkihibaaLInts
import Derived.Test.YtldjaapbkihibaaGrSPw
import Derived.Test.YtldjaapbkihibaaInts
import Derived.Test.YtldjaapbkihibaaGrSPf
import Derived.Deep.RegionHeld3
import Derived.Deep.CutRange
import Derived.Test.YtldjaapbkihibaaGrow
import Derived.BigQuiet
/- Moved on both sides. -/
namespace Go.Proofs.Ytldjaapbkihibaa
open Go.ChangeShapes Go.WideShapes Go.ChangeAt Go.RowKit Go.Joins
set_option linter.unusedVariables false
set_option linter.unusedSimpArgs false

/-- How many of the first k rows are unlike. -/
def movedTo (aa bb : List (List Int)) : Nat → Int
  | 0 => 0
  | k + 1 => movedTo aa bb k + (if aa.getD k [] = bb.getD k [] then 0 else 1)
theorem movedTo_bd (aa bb : List (List Int)) : ∀ k, 0 ≤ movedTo aa bb k ∧ movedTo aa bb k ≤ k
  | 0 => ⟨Int.le_refl _, Int.le_refl _⟩
  | k + 1 => by have := movedTo_bd aa bb k; unfold movedTo; split <;> omega
def movedI (aa bb : List (List Int)) : Int := if aa.length = 8 ∧ bb.length = 8 then movedTo aa bb 8 else -1

theorem movedI_no {aa bb : List (List Int)} (h : ¬ (aa.length = 8 ∧ bb.length = 8)) : -1 = movedI aa bb := by rw [movedI, if_neg h]
theorem movedTo_same {aa bb : List (List Int)} {k : Nat} {ra rb : List Int} (h1 : aa.getD k [] = ra) (h2 : bb.getD k [] = rb) (h : ra = rb) : movedTo aa bb k = movedTo aa bb (k + 1) := by
  unfold movedTo; rw [h1, h2, if_pos h]; cases k <;> simp [movedTo]
theorem movedTo_diff {aa bb : List (List Int)} {k : Nat} {ra rb : List Int} (h1 : aa.getD k [] = ra) (h2 : bb.getD k [] = rb) (h : ra ≠ rb) : movedTo aa bb k + 1 = movedTo aa bb (k + 1) := by
  rw [show movedTo aa bb (k + 1) = movedTo aa bb k + (if aa.getD k [] = bb.getD k [] then 0 else 1) from rfl, h1, h2, if_neg h]

set_option maxHeartbeats 1000000 in
theorem slicesEqual_any (o1 o2 : Option Addr) (c1 c2 : Nat) (l1 l2 : List Int) (w : World) (h1 : RdI w.heap.size w o1 l1) (h2 : RdI w.heap.size w o2 l2) (hl1 : l1.length ≤ 1048576) (hl2 : l2.length ≤ 1048576) :
    Calls Try.prog 61 #[.slice o1 l1.length c1, .slice o2 l2.length c2] w fun e w' => e = .returned (.bool (decide (l1 = l2))) ∧ Below w.heap.size w w' := by
  by_cases hlen : l1.length = l2.length
  · have hne : ((l1.length : Int) != (l2.length : Int)) = false := by simp [hlen]
    have HL := hide hlen
    have hle : l1.length ≤ l2.length := by omega
    have hge : l2.length ≤ l1.length := by omega
    clear hlen
    go_enter Try.func61, Try.ntmps61
    go_wp2
    go_loopw [4, 13] (fun rv i wr => ∃ k : Nat, k ≤ l1.length ∧ i = .int .i64 k ∧ rv = .bool false ∧ l1.take k = l2.take k ∧ Below w.heap.size w wr)
      (fun _ i _ => l1.length - (intOf i).toNat)
    case atStart => exact ⟨0, Nat.zero_le _, rfl, rfl, rfl, Below.refl _ _⟩
    case round =>
      obtain ⟨k, hk, rfl, rfl, htk, hBr⟩ := hrel
      have HT := hide htk
      by_cases hlt : k < l1.length
      · rcases h1 with h1 | ⟨b1, off1, rfl, hb1, hcell1⟩
        · subst h1; simp at hlt
        rcases h2 with h2 | ⟨b2, off2, rfl, hb2, hcell2⟩
        · subst h2; simp at hle; simp [hle] at hlt
        have hlt2 : k < l2.length := by omega
        have hc1 : wr.cell? ⟨b1, off1 + k, none⟩ = some (.int .i64 (l1.getD k 0)) := (hBr.cell (p := ⟨b1, off1 + k, none⟩) hb1).trans (RdL.int hcell1 k hlt)
        have hc2 : wr.cell? ⟨b2, off2 + k, none⟩ = some (.int .i64 (l2.getD k 0)) := (hBr.cell (p := ⟨b2, off2 + k, none⟩) hb2).trans (RdL.int hcell2 k hlt2)
        have HB := hide hBr
        have t1 := hide (take_succ_getD l1 k hlt)
        have t2 := hide (take_succ_getD l2 k hlt2)
        have N12 : Hid (l1 = l2 → l1.getD k 0 = l2.getD k 0) := fun h => by rw [h]
        clear hcell1 hcell2
        have i1 : (k : Int) < (l1.length : Int) := by omega
        have i2 : (k : Int) < (l2.length : Int) := by omega
        generalize l1.getD k 0 = x at *
        generalize l2.getD k 0 = y at *
        clear htk hBr
        by_cases hxy : x = y
        · have hb : (x != y) = false := by simp [hxy]
          have HX := hide hxy
          clear hxy N12
          go_wp2
          go_quiet (fail)
          go_wp2
          go_roundw
          case rel =>
            refine ⟨k + 1, by omega, by go_num, rfl, ?_, ?_⟩
            · rw [t1.out, t2.out, HT.out, HX.out]
            · exact below_drewN HB.out _
          case measure => simp [intOf]; omega
        · have hb : (x != y) = true := by simp [hxy]
          have HX : Hid (l1 ≠ l2) := fun h => hxy (N12.out h)
          clear hxy N12 t1 t2
          go_wp2
          go_quiet (fail)
          go_wp2
          go_ret
          exact ⟨ret_bool (decide_eq_false HX.out).symm, below_drewN HB.out _⟩
      · have e : l1 = l2 := by
          have := htk; rw [List.take_of_length_le (by omega), List.take_of_length_le (by omega)] at this; exact this
        have HE := hide e
        have HB := hide hBr
        clear e htk hBr
        go_wp2
        go_ret
        exact ⟨ret_bool (decide_eq_true HE.out).symm, HB.out⟩
  · have hne : ((l1.length : Int) != (l2.length : Int)) = true := by simp; omega
    have HE : Hid (l1 ≠ l2) := fun h => hlen (by rw [h])
    go_enter Try.func61, Try.ntmps61
    go_wp2
    go_ret
    exact ⟨ret_bool (decide_eq_false HE.out).symm, Below.refl _ _⟩

set_option maxHeartbeats 2000000 in
theorem implMoved_any (oa ob : Option Addr) (ca cb : Nat) (aa bb : List (List Int)) (w : World) (hA : RdLL w.heap.size w oa aa) (hB : RdLL w.heap.size w ob bb) (la : aa.length ≤ 1048576) (lb : bb.length ≤ 1048576)
    (xa : ∀ i, i < aa.length → (aa.getD i []).length ≤ 1048576) (xb : ∀ i, i < bb.length → (bb.getD i []).length ≤ 1048576) :
    Calls Try.prog 17 #[.slice oa aa.length ca, .slice ob bb.length cb] w fun e w' => e = .returned (.int .i64 (movedI aa bb)) ∧ Below w.heap.size w w' := by
  by_cases h8 : aa.length = 8 ∧ bb.length = 8
  · have HE := hide (show movedTo aa bb 8 = movedI aa bb by rw [movedI, if_pos h8])
    obtain ⟨e1, e2⟩ := h8
    have HE1 := hide e1
    have HE2 := hide e2
    go_enter Try.func17, Try.ntmps17
    go_wp2
    clear e1 e2
    go_loopw [5, 18] (fun n i wr => ∃ k : Nat, k ≤ 8 ∧ i = .int .i64 k ∧ n = .int .i64 (movedTo aa bb k) ∧ Below w.heap.size w wr)
      (fun _ i _ => 8 - (intOf i).toNat)
    case atStart => exact ⟨0, Nat.zero_le _, rfl, rfl, Below.refl _ _⟩
    case round =>
      obtain ⟨k, hk, rfl, rfl, hBr⟩ := hrel
      have hbd := movedTo_bd aa bb k
      by_cases hlt : k < 8
      · have i1 : k < aa.length := by rw [HE1.out]; exact hlt
        have i2 : k < bb.length := by rw [HE2.out]; exact hlt
        have j1 : (k : Int) < (aa.length : Int) := by omega
        have j2 : (k : Int) < (bb.length : Int) := by omega
        obtain ⟨b1, off1, o1', c1', rfl, hb1, hc1, hr1⟩ := hA.at (Nat.le_refl _) k i1
        obtain ⟨b2, off2, o2', c2', rfl, hb2, hc2, hr2⟩ := hB.at (Nat.le_refl _) k i2
        have hxa := xa k i1
        have hxb := xb k i2
        have hc1r := (hBr.cell (p := ⟨b1, off1 + k, none⟩) hb1).trans hc1
        have hc2r := (hBr.cell (p := ⟨b2, off2 + k, none⟩) hb2).trans hc2
        replace hr1 := (hr1.kept hBr (Nat.le_refl _)).le hBr.size
        replace hr2 := (hr2.kept hBr (Nat.le_refl _)).le hBr.size
        have HB := hide hBr
        clear hc1 hc2 xa xb hA hB hBr
        generalize hra : aa.getD k [] = ra at *
        generalize hrb : bb.getD k [] = rb at *
        have hq := slicesEqual_any o1' o2' c1' c2' ra rb wr hr1 hr2 hxa hxb
        clear hr1 hr2
        by_cases hab : ra = rb
        · have HM := hide (movedTo_same hra hrb hab)
          rw [decide_eq_true hab] at hq
          clear hra hrb hab
          go_wp2_with fail
          refine hq.mono ?_
          rintro e w2 ⟨rfl, hb2'⟩
          go_wp2
          go_roundw
          case rel => exact ⟨k + 1, by omega, by go_num, by rw [HM.out], HB.out.trans (hb2'.mono HB.out.size)⟩
          case measure => simp [intOf]; omega
        · have HM := hide (movedTo_diff hra hrb hab)
          rw [decide_eq_false hab] at hq
          clear hra hrb hab
          go_wp2_with fail
          refine hq.mono ?_
          rintro e w2 ⟨rfl, hb2'⟩
          go_wp2
          go_roundw
          case rel => exact ⟨k + 1, by omega, by go_num, by rw [← HM.out], HB.out.trans (hb2'.mono HB.out.size)⟩
          case measure => simp [intOf]; omega
      · have e : k = 8 := by omega
        subst e
        go_wp2
        go_ret
        exact ⟨ret_int HE.out, hBr⟩
  · have HN := hide (movedI_no h8)
    by_cases h1 : aa.length = 8
    · have h2 : ¬ bb.length = 8 := fun h => h8 ⟨h1, h⟩
      have n2 : ((bb.length : Int) != 8) = true := by simp; omega
      go_enter Try.func17, Try.ntmps17
      go_wp2
      go_ret
      exact ⟨ret_int HN.out, Below.refl _ _⟩
    · have n1 : ((aa.length : Int) != 8) = true := by simp; omega
      go_enter Try.func17, Try.ntmps17
      go_wp2
      go_ret
      exact ⟨ret_int HN.out, Below.refl _ _⟩

set_option maxHeartbeats 2000000 in
theorem specMoved_any (oa ob : Option Addr) (ca cb : Nat) (aa bb : List (List Int)) (w : World) (hA : RdLL w.heap.size w oa aa) (hB : RdLL w.heap.size w ob bb) (la : aa.length ≤ 1048576) (lb : bb.length ≤ 1048576)
    (xa : ∀ i, i < aa.length → (aa.getD i []).length ≤ 1048576) (xb : ∀ i, i < bb.length → (bb.getD i []).length ≤ 1048576) :
    Calls Try.prog 60 #[.slice oa aa.length ca, .slice ob bb.length cb] w fun e w' => e = .returned (.int .i64 (movedI aa bb)) ∧ Below w.heap.size w w' := by
  by_cases h8 : aa.length = 8 ∧ bb.length = 8
  · have HE := hide (show movedTo aa bb 8 = movedI aa bb by rw [movedI, if_pos h8])
    obtain ⟨e1, e2⟩ := h8
    have HE1 := hide e1
    have HE2 := hide e2
    go_enter Try.func60, Try.ntmps60
    go_wp2
    have la8 : aa.length ≤ 8 := by omega
    have lb8 : 8 ≤ aa.length := by omega
    clear e1 e2
    go_loopw [5, 6] (fun n i wr => ∃ k : Nat, k ≤ 8 ∧ i = .int .i64 k ∧ n = .int .i64 (movedTo aa bb k) ∧ Below w.heap.size w wr)
      (fun _ i _ => 8 - (intOf i).toNat)
    case atStart => exact ⟨0, Nat.zero_le _, rfl, rfl, Below.refl _ _⟩
    case round =>
      obtain ⟨k, hk, rfl, rfl, hBr⟩ := hrel
      have hbd := movedTo_bd aa bb k
      by_cases hlt : k < 8
      · have i1 : k < aa.length := by rw [HE1.out]; exact hlt
        have i2 : k < bb.length := by rw [HE2.out]; exact hlt
        have j1 : (k : Int) < (aa.length : Int) := by omega
        have j2 : (k : Int) < (bb.length : Int) := by omega
        obtain ⟨b1, off1, o1', c1', rfl, hb1, hc1, hr1⟩ := hA.at (Nat.le_refl _) k i1
        obtain ⟨b2, off2, o2', c2', rfl, hb2, hc2, hr2⟩ := hB.at (Nat.le_refl _) k i2
        have hxa := xa k i1
        have hxb := xb k i2
        have hc1r := (hBr.cell (p := ⟨b1, off1 + k, none⟩) hb1).trans hc1
        have hc2r := (hBr.cell (p := ⟨b2, off2 + k, none⟩) hb2).trans hc2
        have HB := hide hBr
        clear xa xb hA hB hBr
        generalize hra : aa.getD k [] = ra at *
        generalize hrb : bb.getD k [] = rb at *
        have HS := hide (movedTo_same hra hrb)
        have HD := hide (movedTo_diff hra hrb)
        clear hra hrb
        go_wp2
        go_quiet (fail)
        have hBq : Below w.heap.size w (wr.drewN nq) := below_drewN HB.out _
        have hq1 := (hBq.cell (p := ⟨b1, off1 + k, none⟩) hb1).trans hc1
        have hq2 := (hBq.cell (p := ⟨b2, off2 + k, none⟩) hb2).trans hc2
        clear HB hc1r hc2r
        generalize wr.drewN nq = wo at *
        have HBo := hide hBq
        clear hBq
        go_wp2
        go_loopw [7, 8] (fun s j wi => ∃ (q : Nat) (t : Bool), q ≤ ra.length ∧ j = .int .i64 q ∧ s = .bool t ∧ (t = true ↔ ra.length = rb.length ∧ ra.take q = rb.take q) ∧ Below w.heap.size w wi)
          (fun _ j _ => ra.length - (intOf j).toNat)
        case atStart => exact ⟨0, _, Nat.zero_le _, rfl, rfl, by simp [Int.ofNat_inj], HBo.out⟩
        case round =>
          obtain ⟨q, t, hq, rfl, rfl, ht, hBi⟩ := hrel
          have HT := hide ht
          have HBi := hide hBi
          have r1 := (hBi.cell (p := ⟨b1, off1 + k, none⟩) hb1).trans hc1
          have r2 := (hBi.cell (p := ⟨b2, off2 + k, none⟩) hb2).trans hc2
          clear ht hBi hq1 hq2
          by_cases hql : q < ra.length
          · cases t with
            | true =>
              obtain ⟨HL, HTk⟩ := HT.out.1 rfl
              have hqr : q < rb.length := by omega
              have z1 : (q : Int) < (ra.length : Int) := by omega
              have z2 : (q : Int) < (rb.length : Int) := by omega
              have HL' := hide HL
              have HTk' := hide HTk
              rcases hr1 with hr1 | ⟨g1, f1, rfl, hg1, hcell1⟩
              · subst hr1; simp at hql
              rcases hr2 with hr2 | ⟨g2, f2, rfl, hg2, hcell2⟩
              · subst hr2; simp at hqr
              have y1 : wr.cell? ⟨g1, f1 + q, none⟩ = some (.int .i64 (ra.getD q 0)) := (HBi.out.cell (p := ⟨g1, f1 + q, none⟩) hg1).trans (RdL.int hcell1 q hql)
              have y2 : wr.cell? ⟨g2, f2 + q, none⟩ = some (.int .i64 (rb.getD q 0)) := (HBi.out.cell (p := ⟨g2, f2 + q, none⟩) hg2).trans (RdL.int hcell2 q hqr)
              have t1 := hide (take_succ_getD ra q hql)
              have t2 := hide (take_succ_getD rb q hqr)
              clear hcell1 hcell2 HT HL HTk hc1 hc2
              generalize ra.getD q 0 = x at *
              generalize rb.getD q 0 = y at *
              go_wp2
              go_quiet (fail)
              go_wp2
              go_roundw
              case rel =>
                refine ⟨q + 1, _, by omega, by go_num, rfl, ?_, below_drewN HBi.out _⟩
                rw [t1.out, t2.out, HTk'.out, List.append_cancel_left_eq]
                simp [HL'.out]
              case measure => simp [intOf]; omega
            | false =>
              have HN : Hid (ra ≠ rb) := fun h => by
                have := HT.out.2 ⟨by rw [h], by rw [h]⟩
                cases this
              have HM := hide (HD.out HN.out)
              have z1 : (q : Int) < (ra.length : Int) := by omega
              clear HT hc1 hc2
              go_wp2
              go_roundw
              case rel => exact ⟨k + 1, by omega, by go_num, by rw [← HM.out], HBi.out⟩
              case measure => simp [intOf]; omega
          · have eq : q = ra.length := by omega
            subst eq
            have z1 : ¬ (ra.length : Int) < (ra.length : Int) := by omega
            cases t with
            | true =>
              have HY : Hid (ra = rb) := by
                obtain ⟨h1, h2⟩ := HT.out.1 rfl
                rw [List.take_of_length_le (Nat.le_refl _), List.take_of_length_le (by omega)] at h2
                exact h2
              have HM := hide (HS.out HY.out)
              clear HT hc1 hc2
              go_wp2
              go_roundw
              case rel => exact ⟨k + 1, by omega, by go_num, by rw [HM.out], HBi.out⟩
              case measure => simp [intOf]; omega
            | false =>
              have HN : Hid (ra ≠ rb) := fun h => by
                have := HT.out.2 ⟨by rw [h], by rw [h]⟩
                cases this
              have HM := hide (HD.out HN.out)
              clear HT hc1 hc2
              go_wp2
              go_roundw
              case rel => exact ⟨k + 1, by omega, by go_num, by rw [← HM.out], HBi.out⟩
              case measure => simp [intOf]; omega
      · have e : k = 8 := by omega
        subst e
        have nl : ¬ (8 : Int) < (aa.length : Int) := by omega
        go_wp2
        go_ret
        exact ⟨ret_int HE.out, hBr⟩
  · have HN := hide (movedI_no h8)
    by_cases h1 : aa.length = 8
    · have h2 : ¬ bb.length = 8 := fun h => h8 ⟨h1, h⟩
      have n2 : ((bb.length : Int) != 8) = true := by simp; omega
      go_enter Try.func60, Try.ntmps60
      go_wp2
      go_ret
      exact ⟨ret_int HN.out, Below.refl _ _⟩
    · have n1 : ((aa.length : Int) != 8) = true := by simp; omega
      go_enter Try.func60, Try.ntmps60
      go_wp2
      go_ret
      exact ⟨ret_int HN.out, Below.refl _ _⟩

end Go.Proofs.Ytldjaapbkihibaa

/- Pools as an argument of the laws: how they are opened, counted and copied. -/
namespace Go.Proofs.Ytldjaapbkihibaa
open Go.ChangeShapes Go.WideShapes Go.ChangeAt Go.RowKit Go.Joins
set_option linter.unusedVariables false
set_option linter.unusedSimpArgs false

theorem fitsRow {n : Nat} : True := trivial
theorem bx_allP {W : World} {B : Nat} {x y z : Value} {T : TypeId} (h : W.heap[B]? = some (.cells #[x, y, z] T (0, 0))) : W.cell? ⟨B, 0, none⟩ = some x ∧ W.cell? ⟨B, 1, none⟩ = some y ∧ W.cell? ⟨B, 2, none⟩ = some z ∧ W.frozen? ⟨B, 0, none⟩ = false ∧ W.frozen? ⟨B, 1, none⟩ = false ∧ W.frozen? ⟨B, 2, none⟩ = false :=
  ⟨bx_cell h 0 _ rfl, bx_cell h 1 _ rfl, bx_cell h 2 _ rfl, bx_frozen h 0, bx_frozen h 1, bx_frozen h 2⟩
theorem setP_belowT {C : Nat} {w W : World} {B : Nat} (h : Below C w W) (hB : C ≤ B) (x y z : Value) : Below C w (setP W B x y z) := ((h.setCell (p := ⟨B, 0, none⟩) hB _).setCell (p := ⟨B, 1, none⟩) hB _).setCell (p := ⟨B, 2, none⟩) hB _
theorem setP_sizeT (W : World) (B : Nat) (x y z : Value) : (setP W B x y z).heap.size = W.heap.size := by simp [World.setCell]
theorem stp_setT (W : World) (B : Nat) (x y z : Value) : Stp B (B + 1) W (setP W B x y z) := ((stp_set W B 0 x).trans (stp_set _ B 1 y)).trans (stp_set _ B 2 z)
theorem in_monoT {lo lo' hi : Nat} {w : World} {v : Value} {m : Pm} (h : InPm lo hi w v m) (hl : lo' ≤ lo) : InPm lo' hi w v m := by
  obtain ⟨vb, vr, mid, e, k1, k2, h1, h2⟩ := h
  exact ⟨vb, vr, mid, e, by omega, k2, InRow.mono h1 hl (Nat.le_refl _), h2⟩
theorem box_new3 (w : World) (c : Array Value) (T : TypeId) (o1 o2 : Obj) : (((w.alloc o1).alloc o2).alloc (.cells c T)).heap[w.heap.size + 1 + 1]? = some (.cells c T (0, 0)) := by
  have h := World.alloc_heap_new ((w.alloc o1).alloc o2) (.cells c T)
  rw [World.size_alloc, World.size_alloc] at h
  exact h
theorem box_mid3 (w : World) (c : Array Value) (T : TypeId) (o1 o2 : Obj) : (((w.alloc o1).alloc (.cells c T)).alloc o2).heap[w.heap.size + 1]? = some (.cells c T (0, 0)) := by
  have h := box_new2 w c T o1
  exact (Below.heap_alloc _ _ _ (by simp)).trans h
theorem fillU_step {T : TypeId} {wr : World} {base g : Nat} {hs : List Hd} {k n : Nat} {o : Option Addr} {m c : Nat} (hk : k < n) (hl : hs.length = k) (h : wr.ownsRow base T 1 (.slice (some ⟨g, 0, none⟩) n n) n ((hs ++ List.replicate (n - k) layH.d).flatMap layH.cs)) :
    (wr.setCell ⟨g, k, none⟩ (.slice o m c)).ownsRow base T 1 (.slice (some ⟨g, 0, none⟩) n n) n (((hs ++ [(o, m, c)]) ++ List.replicate (n - (k + 1)) layH.d).flatMap layH.cs) := by
  have h1 := (h.stored k (.slice o m c)).1
  rw [flat_set1 layH rfl (a := (o, m, c)) rfl] at h1
  have e1 : n - k = (n - (k + 1)) + 1 := by omega
  rw [e1, List.replicate_succ, List.set_append_right _ _ (by omega), hl, Nat.sub_self, List.set_cons_zero] at h1
  rw [List.append_assoc]
  exact h1
theorem RiT.at {a C : Nat} {w : World} {o : Option Addr} {n c : Nat} {ll : List (List Int)} (h : RiT a C w (.slice o n c) ll) (hC : C ≤ w.heap.size) (i : Nat) (hi : i < ll.length) : ∃ b off o' c', o = some ⟨b, off, none⟩ ∧ b < C ∧ w.cell? ⟨b, off + i, none⟩ = some (.slice o' (ll.getD i []).length c') ∧ RdI C w o' (ll.getD i []) := by
  obtain ⟨hs, h0, h1, h2⟩ := h
  obtain ⟨o1, c1, e, r⟩ := h1.open
  injection e with e1 e2 e3
  subst e1
  rcases r with r | ⟨b, off, ho, hb, r⟩
  · subst r; simp at h0; omega
  · obtain ⟨o', c', e', r'⟩ := (h2 i hi).open
    have hc := RdL.head r i (by omega)
    unfold hv at e'
    rw [e'] at hc
    exact ⟨b, off, o', c', ho, hb, hc, r'⟩

set_option maxRecDepth 100000 in
set_option maxHeartbeats 2000000 in
theorem toIntSS_in (v : Value) (xs : List (List Int)) (w : World) (hR : RiT 0 w.heap.size w v xs) (hlen : xs.length ≤ 1048576) (hx : ∀ i, i < xs.length → (xs.getD i []).length ≤ 1048576) :
    Calls Try.prog 120 #[v] w fun e w' => ∃ v', e = .returned v' ∧ InT w.heap.size w'.heap.size w' v' xs ∧ Below w.heap.size w w' := by
  obtain ⟨o, cap, ev⟩ : ∃ o c, v = .slice o xs.length c := by
    obtain ⟨hs, h0, ⟨o, c, e, _⟩, _⟩ := hR
    exact ⟨o, c, by rw [e, h0]⟩
  subst ev
  obtain ⟨i0, hi, hz0, hz1, hz2⟩ := info_parts infoIntS
  have HR0 := hide hR
  clear hR
  go_enter Try.func120, Try.ntmps120
  go_wp2_with (at_make; refine wpList_make_full _ rfl _ _ 37 rfl w.heap.size 43 i0 (.slice none 0 0) 1 Try.underlying37 hi hz0 hz1 _ _ _ _ xs.length rfl rfl rfl rfl ?b2 ?b3 ?b4 ?_)
  case b2 => rw [hz2]; omega
  case b3 => unfold maxLen; omega
  case b4 => simp
  intro w3 hown hgrow
  have HB3 := hide (show Below w.heap.size w w3 from (Below.refl _ _).grown hgrow (Nat.le_refl _) (fun k h => by cases h))
  have HO3 : Hid (w3.ownsRow w.heap.size 43 1 (.slice (some ⟨w.heap.size, 0, none⟩) xs.length xs.length) xs.length ((([] : List Hd) ++ List.replicate (xs.length - 0) layH.d).flatMap layH.cs)) := by
    rw [List.nil_append, Nat.sub_zero, ← made_flat layH (.slice none 0 0) rfl, show layH.k = 1 from rfl, Nat.mul_one]; exact hown
  have hs3 : w.heap.size + 1 ≤ w3.heap.size := (hown.lt w.heap.size rfl).2
  clear hown hgrow
  go_wp2
  go_loopw [4] (fun iv wr => ∃ (k : Nat) (hs : List Hd) (L H : Nat → Nat), k ≤ xs.length ∧ iv = .int .i64 (k : Int) ∧ Hid (wr.ownsRow w.heap.size 43 1 (.slice (some ⟨w.heap.size, 0, none⟩) xs.length xs.length) xs.length ((hs ++ List.replicate (xs.length - k) layH.d).flatMap layH.cs)) ∧ Hid (Rw InI [] (xs.take k) (w.heap.size + 1) wr.heap.size wr hs L H) ∧ Hid (Below w.heap.size w wr) ∧ w.heap.size + 1 ≤ wr.heap.size)
    (fun iv _ => xs.length - (intOf iv).toNat)
  case atStart => exact ⟨0, [], fun _ => 0, fun _ => 0, Nat.zero_le _, rfl, HO3.out, by rw [List.take_zero]; exact Rw.nil _ _ _ _ _ _ _, HB3.out, hs3⟩
  case round =>
    obtain ⟨k, hs, L, H, hk8, rfl, HO, HR, HBr, hsr⟩ := hrel
    clear HO3 HB3 hs3
    have hhl : hs.length = k := by have h1 := HR.out.len; rw [List.length_take] at h1; omega
    by_cases hlt : k < xs.length
    · have z1 : (k : Int) < (xs.length : Int) := by omega
      have HS := hide (show xs.take (k + 1) = xs.take k ++ [xs.getD k []] by rw [List.take_succ_eq_append_getElem hlt]; simp [hlt])
      obtain ⟨b, off, o', c', rfl, hbl, hc0, hr0⟩ := HR0.out.at (Nat.le_refl _) k hlt
      have hc := bC HBr.out hc0 hbl
      have hbw : b < wr.heap.size := by omega
      have HL := hide (toIntS_any o' c' (xs.getD k []) wr ((hr0.kept HBr.out (Nat.le_refl _)).le HBr.out.size) (hx k hlt))
      have HXL := hide hlen
      clear hc0 hr0
      have HHL := hide hhl
      have hxs := HXL.out
      clear hxs
      obtain ⟨row, hrow⟩ : ∃ r, xs.getD k [] = r := ⟨_, rfl⟩
      rw [hrow] at HL hc HS
      clear hrow
      obtain ⟨q, hq⟩ : ∃ q, row.length = q := ⟨_, rfl⟩
      rw [hq] at HL hc
      have HQ := hide hq
      clear hq
      go_wp2_with fail
      refine HL.out.mono ?_
      rintro e v1 ⟨g4, rfl, ow4, hb4⟩
      obtain ⟨o4, ho4⟩ : ∃ o : Option Addr, some ⟨g4, 0, none⟩ = o := ⟨_, rfl⟩
      rw [ho4] at ow4 ⊢
      have HIN : Hid (InI wr.heap.size v1.heap.size v1 (.slice o4 q q) row) := InRow.of ow4
      clear ow4
      have HO4 := hide (own_kept HO.out hb4)
      have hln : ((hs ++ List.replicate (xs.length - k) layH.d).flatMap layH.cs).length = xs.length := by rw [flat_length, List.length_append, List.length_replicate, HHL.out, show layH.k = 1 from rfl]; omega
      have hcl := HO4.out.cellAt k (by omega)
      have hfr := HO4.out.frozenAt k
      obtain ⟨u, hu⟩ : ∃ u, v1.cell? ⟨w.heap.size, k, none⟩ = some u := ⟨_, hcl.trans (List.getElem?_eq_getElem (by omega))⟩
      have HO5 := hide (fillU_step (o := o4) (m := q) (c := q) hlt HHL.out HO4.out)
      have HR4 := (HR.out.kept InI.stp hb4).snoc (l2 := wr.heap.size) (h2 := v1.heap.size) (Nat.le_refl _) (by omega) hb4.size (x := row) (o := o4) (m := q) (c := q) HIN.out
      rw [← HS.out] at HR4
      have HR5 := HR4.step InI.stp (stp_set v1 w.heap.size k (.slice o4 q q)) (fun i hi => .inl (HR4.bd i hi).1)
      have HR6 : Hid (Rw InI [] (xs.take (k + 1)) (w.heap.size + 1) (v1.setCell ⟨w.heap.size, k, none⟩ (.slice o4 q q)).heap.size (v1.setCell ⟨w.heap.size, k, none⟩ (.slice o4 q q)) _ _ _) := HR5.mono (Nat.le_refl _) (by simp)
      have HB5 := hide ((HBr.out.trans (hb4.mono HBr.out.size)).setCell (p := ⟨w.heap.size, k, none⟩) (Nat.le_refl _) (.slice o4 q q))
      have hs5 : w.heap.size + 1 ≤ v1.heap.size := by have := hb4.size; omega
      clear hb4 hcl HR4 HR5 hln HL hhl hc
      go_wp2
      go_roundw
      case rel => exact ⟨k + 1, _, _, _, by omega, by go_num, HO5.out, HR6.out, HB5.out, by simpa using hs5⟩
      case measure => simp [intOf]; omega
    · have e : k = xs.length := by omega
      subst e
      go_wp2
      go_ret
      have h1 := HO.out
      rw [Nat.sub_self, List.replicate_zero, List.append_nil] at h1
      have h2 := HR.out
      rw [List.take_length] at h2
      have h3 : ∀ b, (Value.slice (some ⟨w.heap.size, 0, none⟩) xs.length xs.length).ownBlock = some b → b = w.heap.size := fun b e => (Option.some.inj e).symm
      have h4 : InT w.heap.size wr.heap.size wr (.slice (some ⟨w.heap.size, 0, none⟩) xs.length xs.length) xs := by
        refine ⟨hs, L, H, ⟨by rw [hhl]; exact h1, fun b e => ?_⟩, h2.mono (by omega) (Nat.le_refl _), fun i hi b e => ?_⟩
        · have := h3 b e; omega
        · have := h3 b e
          have := h2.bd i hi
          omega
      exact ⟨_, rfl, h4, HBr.out⟩

set_option maxRecDepth 100000 in
set_option maxHeartbeats 2000000 in
theorem toIntSSS_in (v : Value) (xs : List (List (List Int))) (w : World) (hR : RiR 0 w.heap.size w v xs) (hlen : xs.length ≤ 1048576) (hx : ∀ i, i < xs.length → (xs.getD i []).length ≤ 1048576) (hy : ∀ i, i < xs.length → ∀ j, j < (xs.getD i []).length → ((xs.getD i []).getD j []).length ≤ 1048576) :
    Calls Try.prog 86 #[v] w fun e w' => ∃ v', e = .returned v' ∧ InR w.heap.size w'.heap.size w' v' xs ∧ Below w.heap.size w w' := by
  obtain ⟨o, cap, ev⟩ : ∃ o c, v = .slice o xs.length c := by
    obtain ⟨hs, h0, ⟨o, c, e, _⟩, _⟩ := hR
    exact ⟨o, c, by rw [e, h0]⟩
  subst ev
  obtain ⟨i0, hi, hz0, hz1, hz2⟩ := info_parts infoIntSS
  have HR0 := hide hR
  clear hR
  go_enter Try.func86, Try.ntmps86
  go_wp2_with (at_make; refine wpList_make_full _ rfl _ _ 24 rfl w.heap.size 37 i0 (.slice none 0 0) 1 Try.underlying24 hi hz0 hz1 _ _ _ _ xs.length rfl rfl rfl rfl ?b2 ?b3 ?b4 ?_)
  case b2 => rw [hz2]; omega
  case b3 => unfold maxLen; omega
  case b4 => simp
  intro w3 hown hgrow
  have HB3 := hide (show Below w.heap.size w w3 from (Below.refl _ _).grown hgrow (Nat.le_refl _) (fun k h => by cases h))
  have HO3 : Hid (w3.ownsRow w.heap.size 37 1 (.slice (some ⟨w.heap.size, 0, none⟩) xs.length xs.length) xs.length ((([] : List Hd) ++ List.replicate (xs.length - 0) layH.d).flatMap layH.cs)) := by
    rw [List.nil_append, Nat.sub_zero, ← made_flat layH (.slice none 0 0) rfl, show layH.k = 1 from rfl, Nat.mul_one]; exact hown
  have hs3 : w.heap.size + 1 ≤ w3.heap.size := (hown.lt w.heap.size rfl).2
  clear hown hgrow
  go_wp2
  go_loopw [4] (fun iv wr => ∃ (k : Nat) (hs : List Hd) (L H : Nat → Nat), k ≤ xs.length ∧ iv = .int .i64 (k : Int) ∧ Hid (wr.ownsRow w.heap.size 37 1 (.slice (some ⟨w.heap.size, 0, none⟩) xs.length xs.length) xs.length ((hs ++ List.replicate (xs.length - k) layH.d).flatMap layH.cs)) ∧ Hid (Rw InT [] (xs.take k) (w.heap.size + 1) wr.heap.size wr hs L H) ∧ Hid (Below w.heap.size w wr) ∧ w.heap.size + 1 ≤ wr.heap.size)
    (fun iv _ => xs.length - (intOf iv).toNat)
  case atStart => exact ⟨0, [], fun _ => 0, fun _ => 0, Nat.zero_le _, rfl, HO3.out, by rw [List.take_zero]; exact Rw.nil _ _ _ _ _ _ _, HB3.out, hs3⟩
  case round =>
    obtain ⟨k, hs, L, H, hk8, rfl, HO, HR, HBr, hsr⟩ := hrel
    clear HO3 HB3 hs3
    have hhl : hs.length = k := by have h1 := HR.out.len; rw [List.length_take] at h1; omega
    by_cases hlt : k < xs.length
    · have z1 : (k : Int) < (xs.length : Int) := by omega
      have HS := hide (show xs.take (k + 1) = xs.take k ++ [xs.getD k []] by rw [List.take_succ_eq_append_getElem hlt]; simp [hlt])
      obtain ⟨b, off, o', c', rfl, hbl0, hc0, hr0⟩ := (RiR.mon.go (RiR.stp.go HR0.out (lo := w.heap.size) (hi := w.heap.size + wr.heap.size) ⟨HBr.out.os, HBr.out.tape, HBr.out.output, HBr.out.size, fun k hk _ => HBr.out.block k hk⟩ (.inr (Nat.le_refl _))) (Nat.le_refl _) HBr.out.size).at (Nat.le_refl _) k hlt
      have hc := hc0
      have HL := hide (toIntSS_in (.slice o' (xs.getD k []).length c') (xs.getD k []) wr (RiT.of hr0) (hx k hlt) (hy k hlt))
      have HXL := hide hlen
      clear hc0 hr0
      have HHL := hide hhl
      have hxs := HXL.out
      clear hxs
      obtain ⟨row, hrow⟩ : ∃ r, xs.getD k [] = r := ⟨_, rfl⟩
      rw [hrow] at HL hc HS
      clear hrow
      obtain ⟨q, hq⟩ : ∃ q, row.length = q := ⟨_, rfl⟩
      rw [hq] at HL hc
      have HQ := hide hq
      clear hq
      go_wp2_with fail
      refine HL.out.mono ?_
      rintro e v1 ⟨v4, rfl, in4, hb4⟩
      obtain ⟨o4, c4, e4, _⟩ := RiT.rd (InT.ri in4)
      rw [HQ.out] at e4
      subst e4
      have HIN := hide in4
      clear in4
      have HO4 := hide (own_kept HO.out hb4)
      have hln : ((hs ++ List.replicate (xs.length - k) layH.d).flatMap layH.cs).length = xs.length := by rw [flat_length, List.length_append, List.length_replicate, HHL.out, show layH.k = 1 from rfl]; omega
      have hcl := HO4.out.cellAt k (by omega)
      have hfr := HO4.out.frozenAt k
      obtain ⟨u, hu⟩ : ∃ u, v1.cell? ⟨w.heap.size, k, none⟩ = some u := ⟨_, hcl.trans (List.getElem?_eq_getElem (by omega))⟩
      have HO5 := hide (fillU_step (o := o4) (m := q) (c := c4) hlt HHL.out HO4.out)
      have HR4 := (HR.out.kept InT.stp hb4).snoc (l2 := wr.heap.size) (h2 := v1.heap.size) (Nat.le_refl _) (by omega) hb4.size (x := row) (o := o4) (m := q) (c := c4) HIN.out
      rw [← HS.out] at HR4
      have HR5 := HR4.step InT.stp (stp_set v1 w.heap.size k (.slice o4 q c4)) (fun i hi => .inl (HR4.bd i hi).1)
      have HR6 : Hid (Rw InT [] (xs.take (k + 1)) (w.heap.size + 1) (v1.setCell ⟨w.heap.size, k, none⟩ (.slice o4 q c4)).heap.size (v1.setCell ⟨w.heap.size, k, none⟩ (.slice o4 q c4)) _ _ _) := HR5.mono (Nat.le_refl _) (by simp)
      have HB5 := hide ((HBr.out.trans (hb4.mono HBr.out.size)).setCell (p := ⟨w.heap.size, k, none⟩) (Nat.le_refl _) (.slice o4 q c4))
      have hs5 : w.heap.size + 1 ≤ v1.heap.size := by have := hb4.size; omega
      clear hb4 hcl HR4 HR5 hln HL hhl hc
      go_wp2
      go_roundw
      case rel => exact ⟨k + 1, _, _, _, by omega, by go_num, HO5.out, HR6.out, HB5.out, by simpa using hs5⟩
      case measure => simp [intOf]; omega
    · have e : k = xs.length := by omega
      subst e
      go_wp2
      go_ret
      have h1 := HO.out
      rw [Nat.sub_self, List.replicate_zero, List.append_nil] at h1
      have h2 := HR.out
      rw [List.take_length] at h2
      have h3 : ∀ b, (Value.slice (some ⟨w.heap.size, 0, none⟩) xs.length xs.length).ownBlock = some b → b = w.heap.size := fun b e => (Option.some.inj e).symm
      have h4 : InR w.heap.size wr.heap.size wr (.slice (some ⟨w.heap.size, 0, none⟩) xs.length xs.length) xs := by
        refine ⟨hs, L, H, ⟨by rw [hhl]; exact h1, fun b e => ?_⟩, h2.mono (by omega) (Nat.le_refl _), fun i hi b e => ?_⟩
        · have := h3 b e; omega
        · have := h3 b e
          have := h2.bd i hi
          omega
      exact ⟨_, rfl, h4, HBr.out⟩

theorem leftTo_sum (ll : List (List Int)) (n : Int) : ∀ k, leftTo ll n k = n - (ll.length : Int) - (sumN (lenT ll) k : Int)
  | 0 => by simp [leftTo, sumN]
  | k + 1 => by
    rw [leftTo, leftTo_sum ll n k, show sumN (lenT ll) (k + 1) = sumN (lenT ll) k + (ll.getD k []).length from rfl]
    omega
set_option maxRecDepth 100000 in
set_option maxHeartbeats 1000000 in
theorem szIntSSS_any (v : Value) (lll : List (List (List Int))) (n : Int) (w : World) (hR : RiR 0 w.heap.size w v lll) (hl : lll.length ≤ maxLen) (hx : ∀ i, i < lll.length → (lll.getD i []).length ≤ maxLen) (hy : ∀ i, i < lll.length → ∀ j, j < (lll.getD i []).length → ((lll.getD i []).getD j []).length ≤ maxLen) (h0 : 0 ≤ n) (h1 : n ≤ 1048576) :
    Calls Try.prog 84 #[v, .int .i64 n] w fun e w' => (e = .returned (.int .i64 (-1)) ∨ ∃ z : Int, e = .returned (.int .i64 z) ∧ 0 ≤ z ∧ z ≤ n ∧ (lll.length : Int) + (szR lll : Int) ≤ n ∧ ∀ i, i < lll.length → ((lll.getD i []).length : Int) ≤ n) ∧ Below w.heap.size w w' := by
  obtain ⟨o, cap, ev⟩ : ∃ o c, v = .slice o lll.length c := by
    obtain ⟨hs, h0, ⟨o, c, e, _⟩, _⟩ := hR
    exact ⟨o, c, by rw [e, h0]⟩
  subst ev
  have hl' := hl
  unfold maxLen at hl'
  by_cases h : n - lll.length < 0
  · go_enter Try.func84, Try.ntmps84
    go_wp2
    go_ret
    exact ⟨.inl rfl, Below.refl _ _⟩
  · go_enter Try.func84, Try.ntmps84
    go_wp2
    go_loopw [1, 5] (fun n' i wr => ∃ (k : Nat) (z : Int), k ≤ lll.length ∧ i = .int .i64 (k : Int) ∧ n' = .int .i64 z ∧ 0 ≤ z ∧ z ≤ n - (lll.length : Int) - (sumN (lenR lll) k : Int) ∧ Hid (∀ i, i < k → ((lll.getD i []).length : Int) ≤ n) ∧ Hid (Below w.heap.size w wr))
      (fun _ i _ => lll.length - (intOf i).toNat)
    case atStart => exact ⟨0, n - lll.length, Nat.zero_le _, rfl, rfl, by omega, by simp [sumN], fun i hi => absurd hi (Nat.not_lt_zero _), Below.refl _ _⟩
    case round =>
      obtain ⟨k, z, hk, rfl, rfl, hz0, hz1, HLN, HBr⟩ := hrel
      by_cases hlt : k < lll.length
      · obtain ⟨b, off, o', c', rfl, hb, hc, hr⟩ := (RiR.mon.go (RiR.stp.go hR (Stp.of (lo := 0) (hi := 0) HBr.out) (.inl (Nat.zero_le _))) (Nat.le_refl _) HBr.out.size).at (Nat.le_refl _) k hlt
        have hsn : (0 : Int) ≤ (sumN (lenR lll) k : Int) := by omega
        have HZ := hide (szIntSS_any o' (lll.getD k []) c' z wr hr (hx k hlt) (hy k hlt) hz0 (by omega))
        have HSU := hide (show sumN (lenR lll) (k + 1) = sumN (lenR lll) k + szT (lll.getD k []) from rfl)
        have HEL := hide (show leftLL (lll.getD k []) z = z - ((lll.getD k []).length : Int) - (szT (lll.getD k []) : Int) from leftTo_sum _ _ _)
        have hz1' := hz1
        obtain ⟨ll, hll⟩ : ∃ ll, lll.getD k [] = ll := ⟨_, rfl⟩
        rw [hll] at hc HZ HSU HEL
        have HLL := hide hll
        have HR := hide hR
        clear hr hll hR hx hy
        obtain ⟨m, hm⟩ : ∃ m, ll.length = m := ⟨_, rfl⟩
        rw [hm] at hc HZ HEL
        have HM := hide hm
        clear hm
        generalize sumN (lenR lll) k = sk at *
        go_wp2_with fail
        refine HZ.out.mono ?_
        rintro e w2 ⟨rfl | ⟨hfit, rfl⟩, hb2⟩
        · have HB2 := hide (HBr.out.trans (hb2.mono HBr.out.size))
          clear hb2
          go_wp2
          go_ret
          exact ⟨.inl rfl, HB2.out⟩
        · have HB2 := hide (HBr.out.trans (hb2.mono HBr.out.size))
          have hpos := hfit ll.length (Nat.le_refl _)
          have hpos' : 0 ≤ leftLL ll z := hpos
          have hE := HEL.out
          have hmz : (m : Int) ≤ n := by omega
          have HE2 := hide hE
          clear hfit hb2 hpos hE HEL
          generalize leftLL ll z = y at *
          go_wp2
          go_roundw
          case rel => exact ⟨k + 1, y, by omega, by go_num, rfl, hpos', by (have := HE2.out; rw [HSU.out]; push_cast; omega), fun i hi => (by rcases Nat.lt_succ_iff_lt_or_eq.1 hi with h' | h'; exact HLN.out i h'; rw [h', HLL.out, HM.out]; exact hmz), HB2.out⟩
          case measure => simp [intOf]; omega
      · have e : k = lll.length := by omega
        subst e
        have hsz : sumN (lenR lll) lll.length = szR lll := rfl
        rw [hsz] at hz1
        clear hsz
        go_wp2
        go_ret
        exact ⟨.inr ⟨z, rfl, hz0, by omega, by omega, HLN.out⟩, HBr.out⟩
theorem row_le (ll : List (List Int)) (j : Nat) (h : j < ll.length) : (ll.getD j []).length ≤ szT ll := by
  have := sumN_at (lenT ll) h
  unfold szT; unfold lenT at *; omega
theorem tab_le (lll : List (List (List Int))) (i : Nat) (h : i < lll.length) : szT (lll.getD i []) ≤ szR lll := by
  have := sumN_at (lenR lll) h
  unfold szR; unfold lenR at *; omega
theorem fit_of {key : Int} {l : List Bk} {lll : List (List (List Int))} {n : Int} (hn : n ≤ 1048576) (hl : (l.length : Int) ≤ 1048576) (h1 : (lll.length : Int) + (szR lll : Int) ≤ n) (h2 : ∀ i, i < lll.length → ((lll.getD i []).length : Int) ≤ n) : fitPm ⟨key, l, lll⟩ :=
  ⟨by show l.length ≤ _; omega, by show lll.length ≤ _; omega, by show szR lll ≤ _; omega, fun i hi => by have := h2 i hi; show (lll.getD i []).length ≤ _; omega, fun i hi j hj => by
    have h3 := row_le (lll.getD i []) j hj
    have h4 := tab_le lll i hi
    show ((lll.getD i []).getD j []).length ≤ _
    omega⟩
/-- A pool's lengths may be lengths. -/
def lenPm (m : Pm) : Prop := m.l.length ≤ maxLen ∧ m.ring.length ≤ maxLen ∧ (∀ i, i < m.ring.length → (m.ring.getD i []).length ≤ maxLen) ∧ ∀ i, i < m.ring.length → ∀ j, j < (m.ring.getD i []).length → ((m.ring.getD i []).getD j []).length ≤ maxLen
set_option maxRecDepth 100000 in
set_option maxHeartbeats 1000000 in
theorem szPool_sh (v : Value) (m : Pm) (w : World) (hR : RdPm w.heap.size w v m) (hl : lenPm m) :
    Calls Try.prog 34 #[v, .int .i64 1048576] w fun e w' => (∃ z : Int, e = .returned (.int .i64 z) ∧ ((z < 0 ∧ -1 ≤ z) ∨ (0 ≤ z ∧ z ≤ 1048576 ∧ fitPm m))) ∧ Below w.heap.size w w' := by
  obtain ⟨vb, vr, rfl, ⟨o, c, rfl, b1⟩, r1⟩ := hR
  obtain ⟨oR, cR, rfl⟩ := RiR.len r1
  obtain ⟨l1, l2, l3, l4⟩ := hl
  have hs := fun W => szBackS_any o m.l.length c 1048576 W l1 (by decide) (by decide)
  have HRG := hide (fun W (hb : Below w.heap.size w W) (z : Int) h0 h1 => szIntSSS_any (.slice oR m.ring.length cR) m.ring z W (RiR.mon.go (RiR.stp.go r1 (Stp.of (lo := 0) (hi := 0) hb) (.inl (Nat.zero_le _))) (Nat.le_refl _) hb.size) l2 l3 l4 h0 h1)
  clear b1 r1 l3 l4
  obtain ⟨W0, hW0⟩ : ∃ W, (w.alloc (.cells #[.int .i64 m.key, .slice o m.l.length c, .slice oR m.ring.length cR] 66)) = W := ⟨_, rfl⟩
  have hb_W0 : Below w.heap.size w W0 := by rw [← hW0]; exact ((Below.refl _ _).alloc (Nat.le_refl _) _)
  have HB := hide hb_W0
  clear hb_W0
  have zz : w.heap.size < W0.heap.size := by rw [← hW0]; simp
  have z0 : W0.cell? ⟨w.heap.size, 0, none⟩ = some (.int .i64 m.key) := by rw [← hW0]; simp [go_sem]
  have z1 : W0.cell? ⟨w.heap.size, 1, none⟩ = some (.slice o m.l.length c) := by rw [← hW0]; simp [go_sem]
  have z2 : W0.cell? ⟨w.heap.size, 2, none⟩ = some (.slice oR m.ring.length cR) := by rw [← hW0]; simp [go_sem]
  by_cases h : (1048576 : Int) - m.l.length < 0
  · rw [if_pos h] at hs
    go_enter Try.func34, Try.ntmps34
    go_wp2_with fail
    refine (hs _).mono ?_
    rintro e w1 ⟨rfl, rfl⟩
    go_wp2
    go_ret
    exact ⟨⟨_, rfl, .inl ⟨by decide, by decide⟩⟩, HB.out⟩
  · rw [if_neg h] at hs
    have hz0 : (0 : Int) ≤ 1048576 - m.l.length := by omega
    have HRG2 := hide (HRG.out W0 HB.out (1048576 - (m.l.length : Int)) hz0 (by omega))
    go_enter Try.func34, Try.ntmps34
    go_wp2_with fail
    refine (hs _).mono ?_
    rintro e w1 ⟨rfl, rfl⟩
    go_wp2_with fail
    refine HRG2.out.mono ?_
    rintro e w2 ⟨rfl | ⟨z, rfl, hz1, hz2, hz3, hz4⟩, hb2⟩
    · have HB2 := hide (HB.out.trans (hb2.mono HB.out.size))
      clear hb2
      go_wp2
      go_ret
      exact ⟨⟨_, rfl, .inl ⟨by decide, by decide⟩⟩, HB2.out⟩
    · have HB2 := hide (HB.out.trans (hb2.mono HB.out.size))
      have HF : Hid (fitPm m) := fit_of (n := 1048576 - (m.l.length : Int)) (by omega) (by omega) hz3 hz4
      clear hb2 hz3 hz4
      go_wp2
      go_ret
      exact ⟨⟨_, rfl, .inr ⟨hz1, by omega, HF.out⟩⟩, HB2.out⟩

set_option maxRecDepth 100000 in
set_option maxHeartbeats 2000000 in
theorem toPool_sh (v : Value) (m : Pm) (w : World) (hR : RdPm w.heap.size w v m) (hf : fitPm m) :
    Calls Try.prog 35 #[v] w fun e w' => ∃ v', e = .returned v' ∧ InPm w.heap.size w'.heap.size w' v' m ∧ Below w.heap.size w w' := by
  obtain ⟨vb, vr, rfl, ⟨o, c, rfl, b1⟩, r1⟩ := hR
  obtain ⟨oR, cR, rfl⟩ := RiR.len r1
  obtain ⟨hf1, hf2, hf3, hf4, hf5⟩ := hf
  have HBK := hide (fun W (hb : Below w.heap.size w W) => toBackS_any o c m.l W ((b1.rd.kept hb (Nat.le_refl _)).le hb.size) hf1)
  have HRG := hide (fun W (hb : Below w.heap.size w W) => toIntSSS_in (.slice oR m.ring.length cR) m.ring W (RiR.mon.go (RiR.stp.go r1 (Stp.of (lo := 0) (hi := 0) hb) (.inl (Nat.zero_le _))) (Nat.le_refl _) hb.size) hf2 hf4 hf5)
  clear b1 r1 hf4 hf5
  obtain ⟨W0, hW0⟩ : ∃ W, (((w.alloc (.cells #[.int .i64 m.key, .slice o m.l.length c, .slice oR m.ring.length cR] 66)).alloc (.cells #[.int .i64 0, .slice none 0 0, .slice none 0 0] 26)).alloc (.cells #[.int .i64 0, .slice none 0 0, .slice none 0 0] 26)) = W := ⟨_, rfl⟩
  have hb_W0 : Below w.heap.size w W0 := by rw [← hW0]; exact ((((Below.refl _ _).alloc (Nat.le_refl _) _).alloc (by simp <;> omega) _).alloc (by simp <;> omega) _)
  have HB := hide hb_W0
  clear hb_W0
  have zz : w.heap.size < W0.heap.size := by rw [← hW0]; simp <;> omega
  have z0 : W0.cell? ⟨w.heap.size, 0, none⟩ = some (.int .i64 m.key) := by rw [← hW0]; simp [go_sem]
  have z1 : W0.cell? ⟨w.heap.size, 1, none⟩ = some (.slice o m.l.length c) := by rw [← hW0]; simp [go_sem]
  have z2 : W0.cell? ⟨w.heap.size, 2, none⟩ = some (.slice oR m.ring.length cR) := by rw [← hW0]; simp [go_sem]
  have zr : w.heap.size + 1 < W0.heap.size := by rw [← hW0]; simp <;> omega
  have r0 : W0.cell? ⟨w.heap.size + 1, 0, none⟩ = some (.int .i64 0) := by rw [← hW0]; simp [go_sem]
  have r1 : W0.cell? ⟨w.heap.size + 1, 1, none⟩ = some (.slice none 0 0) := by rw [← hW0]; simp [go_sem]
  have r2 : W0.cell? ⟨w.heap.size + 1, 2, none⟩ = some (.slice none 0 0) := by rw [← hW0]; simp [go_sem]
  have fr0 : W0.frozen? ⟨w.heap.size + 1, 0, none⟩ = false := by rw [← hW0]; simp [go_sem]
  have fr1 : W0.frozen? ⟨w.heap.size + 1, 1, none⟩ = false := by rw [← hW0]; simp [go_sem]
  have fr2 : W0.frozen? ⟨w.heap.size + 1, 2, none⟩ = false := by rw [← hW0]; simp [go_sem]
  have zx : w.heap.size + 1 + 1 < W0.heap.size := by rw [← hW0]; simp
  have x0 : W0.cell? ⟨w.heap.size + 1 + 1, 0, none⟩ = some (.int .i64 0) := by rw [← hW0]; simp [go_sem]
  have x1 : W0.cell? ⟨w.heap.size + 1 + 1, 1, none⟩ = some (.slice none 0 0) := by rw [← hW0]; simp [go_sem]
  have x2 : W0.cell? ⟨w.heap.size + 1 + 1, 2, none⟩ = some (.slice none 0 0) := by rw [← hW0]; simp [go_sem]
  have fx0 : W0.frozen? ⟨w.heap.size + 1 + 1, 0, none⟩ = false := by rw [← hW0]; simp [go_sem]
  have fx1 : W0.frozen? ⟨w.heap.size + 1 + 1, 1, none⟩ = false := by rw [← hW0]; simp [go_sem]
  have fx2 : W0.frozen? ⟨w.heap.size + 1 + 1, 2, none⟩ = false := by rw [← hW0]; simp [go_sem]
  have h0x : W0.heap[w.heap.size + 1 + 1]? = some (.cells #[.int .i64 0, .slice none 0 0, .slice none 0 0] 26 (0, 0)) := by rw [← hW0]; exact box_new3 w _ _ _ _
  have h0r : W0.heap[w.heap.size + 1]? = some (.cells #[.int .i64 0, .slice none 0 0, .slice none 0 0] 26 (0, 0)) := by rw [← hW0]; exact box_mid3 w _ _ _ _
  have hzx := zx
  have hw0 := HB.out.size
  obtain ⟨W1, hW1⟩ : ∃ W, W0.setCell ⟨w.heap.size + 1 + 1, 0, none⟩ (.int .i64 m.key) = W := ⟨_, rfl⟩
  have h1x := box_put h0x 0 (.int .i64 m.key)
  rw [hW1] at h1x
  have h1r : W1.heap[w.heap.size + 1]? = some (.cells #[.int .i64 0, .slice none 0 0, .slice none 0 0] 26 (0, 0)) := by rw [← hW1]; exact (far_block (by omega) _ _).trans h0r
  have hs1 : W1.heap.size = W0.heap.size := by rw [← hW1]; simp
  have hB1 : Below w.heap.size w W1 := by rw [← hW1]; exact HB.out.setCell (p := ⟨w.heap.size + 1 + 1, 0, none⟩) (show w.heap.size ≤ w.heap.size + 1 + 1 by omega) _
  have a0 : W1.cell? ⟨w.heap.size, 0, none⟩ = some (.int .i64 m.key) := by rw [← hW1]; exact (cell_far (by omega)).trans z0
  have a1 : W1.cell? ⟨w.heap.size, 1, none⟩ = some (.slice o m.l.length c) := by rw [← hW1]; exact (cell_far (by omega)).trans z1
  have a2 : W1.cell? ⟨w.heap.size, 2, none⟩ = some (.slice oR m.ring.length cR) := by rw [← hW1]; exact (cell_far (by omega)).trans z2
  have HB1 := hide hB1
  have HS1 := hide hs1
  have H1X := hide h1x
  have H1R := hide h1r
  clear hB1 hs1 h1x h1r h0x h0r z1 z2 r0 r1 r2 fr0 fr1 fr2 HB
  go_enter Try.func35, Try.ntmps35
  go_wp2_with fail
  refine (HBK.out W1 HB1.out).mono ?_
  rintro e v1 ⟨g1, rfl, ow1, hb1⟩
  have hsv := hb1.size
  have hx1 := (hb1.block _ (show w.heap.size + 1 + 1 < W1.heap.size by have := HS1.out; omega)).trans H1X.out
  have hr1 := (hb1.block _ (show w.heap.size + 1 < W1.heap.size by have := HS1.out; omega)).trans H1R.out
  have b0 := bC hb1 a0 (by have := HS1.out; omega)
  have b1 := bC hb1 a1 (by have := HS1.out; omega)
  have b2 := bC hb1 a2 (by have := HS1.out; omega)
  have p1 : v1.cell? ⟨w.heap.size + 1 + 1, 1, none⟩ = some (.slice none 0 0) := bx_cell hx1 1 _ rfl
  have q1 := bx_frozen hx1 1
  obtain ⟨og, hog⟩ : ∃ o : Option Addr, some ⟨g1, 0, none⟩ = o := ⟨_, rfl⟩
  rw [hog] at ow1 ⊢
  clear hog
  obtain ⟨W2, hW2⟩ : ∃ W, v1.setCell ⟨w.heap.size + 1 + 1, 1, none⟩ (.slice og m.l.length m.l.length) = W := ⟨_, rfl⟩
  have h2x := box_put hx1 1 (.slice og m.l.length m.l.length)
  rw [hW2] at h2x
  have h2r : W2.heap[w.heap.size + 1]? = some (.cells #[.int .i64 0, .slice none 0 0, .slice none 0 0] 26 (0, 0)) := by rw [← hW2]; exact (far_block (by omega) _ _).trans hr1
  have hs2 : W2.heap.size = v1.heap.size := by rw [← hW2]; simp
  have hB2 : Below w.heap.size w W2 := by rw [← hW2]; exact (HB1.out.trans (hb1.mono HB1.out.size)).setCell (p := ⟨w.heap.size + 1 + 1, 1, none⟩) (show w.heap.size ≤ w.heap.size + 1 + 1 by omega) _
  have HO2 : Hid (InL layK 39 W0.heap.size W2.heap.size W2 (.slice og m.l.length m.l.length) m.l) := by rw [← hW2]; exact InRow.of (own_low (own_mono ow1 (by have := HS1.out; omega)) hzx 1 _)
  have d0 : W2.cell? ⟨w.heap.size, 0, none⟩ = some (.int .i64 m.key) := by rw [← hW2]; exact (cell_far (by omega)).trans b0
  have d1 : W2.cell? ⟨w.heap.size, 1, none⟩ = some (.slice o m.l.length c) := by rw [← hW2]; exact (cell_far (by omega)).trans b1
  have d2 : W2.cell? ⟨w.heap.size, 2, none⟩ = some (.slice oR m.ring.length cR) := by rw [← hW2]; exact (cell_far (by omega)).trans b2
  have HB2 := hide hB2
  have HS2 := hide hs2
  have H2X := hide h2x
  have H2R := hide h2r
  clear hB2 hs2 h2x h2r hx1 hr1 ow1 hb1
  go_wp2_with fail
  refine (HRG.out W2 HB2.out).mono ?_
  rintro e v3 ⟨vr3, rfl, in3, hb3⟩
  obtain ⟨o3, c3, e3⟩ := RiR.len (InR.ri in3)
  subst e3
  have hsv3 := hb3.size
  have hx3 := (hb3.block _ (show w.heap.size + 1 + 1 < W2.heap.size by have := HS2.out; have := HS1.out; omega)).trans H2X.out
  have hr3 := (hb3.block _ (show w.heap.size + 1 < W2.heap.size by have := HS2.out; have := HS1.out; omega)).trans H2R.out
  have p2 : v3.cell? ⟨w.heap.size + 1 + 1, 2, none⟩ = some (.slice none 0 0) := bx_cell hx3 2 _ rfl
  have q2 := bx_frozen hx3 2
  obtain ⟨W4, hW4⟩ : ∃ W, v3.setCell ⟨w.heap.size + 1 + 1, 2, none⟩ (.slice o3 m.ring.length c3) = W := ⟨_, rfl⟩
  have h4x := box_put hx3 2 (.slice o3 m.ring.length c3)
  rw [hW4] at h4x
  have h4r : W4.heap[w.heap.size + 1]? = some (.cells #[.int .i64 0, .slice none 0 0, .slice none 0 0] 26 (0, 0)) := by rw [← hW4]; exact (far_block (by omega) _ _).trans hr3
  have hB4 : Below w.heap.size w W4 := by rw [← hW4]; exact (HB2.out.trans (hb3.mono HB2.out.size)).setCell (p := ⟨w.heap.size + 1 + 1, 2, none⟩) (show w.heap.size ≤ w.heap.size + 1 + 1 by omega) _
  have hs4 : W4.heap.size = v3.heap.size := by rw [← hW4]; simp
  have HIN : Hid (InPm W0.heap.size W4.heap.size W4 (plv m.key (.slice og m.l.length m.l.length) (.slice o3 m.ring.length c3)) m) := by
    rw [hs4, ← hW4]
    exact ⟨_, _, W2.heap.size, rfl, by have := HS2.out; have := HS1.out; omega, hsv3, InRow.step (InRow.step HO2.out (Stp.of (lo := 0) (hi := 0) hb3) (.inl (Nat.zero_le _))) (stp_set v3 (w.heap.size + 1 + 1) 2 _) (.inl (by omega)), InR.stp.go in3 (stp_set v3 (w.heap.size + 1 + 1) 2 _) (.inl (by have := HS2.out; have := HS1.out; omega))⟩
  obtain ⟨e0, e1, e2, g0, g1', g2⟩ := bx_allP h4x
  obtain ⟨t0, t1, t2, u0, u1, u2⟩ := bx_allP h4r
  have HB4 := hide hB4
  clear hB4 h4x h4r hx3 hr3 in3 hb3 hs4
  go_wp2
  refine bodyPost_ret (v := plv m.key (.slice og m.l.length m.l.length) (.slice o3 m.ring.length c3)) (by simp [results, Try.results35, go_sem, t0, t1, t2]) rfl ⟨_, rfl, ?_, setP_belowT HB4.out (Nat.le_succ _) _ _ _⟩
  rw [setP_sizeT]
  exact in_monoT (HIN.out.step (stp_setT W4 (w.heap.size + 1) _ _ _) (.inl (by omega))) (by omega)

end Go.Proofs.Ytldjaapbkihibaa

/- How a pool that comes in is opened. -/
namespace Go.Proofs.Ytldjaapbkihibaa
open Go.ChangeShapes Go.WideShapes Go.ChangeAt Go.RowKit Go.Joins
set_option linter.unusedVariables false
set_option linter.unusedSimpArgs false


theorem cellsLawsPool : Try.prog.cellsOf 66 = 3 := by kernel_rfl
theorem cellsIntSS : Try.prog.cellsOf 37 = 1 := by kernel_rfl
/-- Rows of rows of ints that came in. -/
theorem open_rows3_cells {H : Type} {enc : TypeId × Value → H} {W : World} {fuel : Nat} {cs : List Value} {x : DataW H × List MemPlace} (h : DataW.trod enc Try.prog W 0 (fun _ => true) true fuel 24 cs = some x) :
    ∃ (o : Option Addr) (cap : Nat) (ll : List (List (List Int))), cs = [.slice o ll.length cap] ∧ ll.length ≤ maxLen ∧ RiR 0 W.heap.size W (.slice o ll.length cap) ll ∧ (∀ i, i < ll.length → (ll.getD i []).length ≤ maxLen) ∧ ∀ i, i < ll.length → ∀ j, j < (ll.getD i []).length → ((ll.getD i []).getD j []).length ≤ maxLen := by
  rcases Go.Deep.open_slice1 Try.underlying24 cellsIntSS h with ⟨hcs, _⟩ | ⟨a, len, cap, m, n, V, D, Pl, hcs, _, hl, hm, hmm, _, hx⟩
  · exact ⟨none, 0, [], hcs, Nat.zero_le _, ⟨[], rfl, ⟨none, 0, rfl, .inl rfl⟩, fun i hi => absurd hi (Nat.not_lt_zero _)⟩, fun i hi => absurd hi (Nat.not_lt_zero _), fun i hi => absurd hi (Nat.not_lt_zero _)⟩
  · have hlm : len ≤ m := by rw [hmm]; split <;> omega
    have ex : ∀ i, i < len → ∃ y : Hd × List (List Int), V i = .slice y.1.1 y.1.2.1 y.1.2.2 ∧ y.1.2.1 = y.2.length ∧ y.2.length ≤ maxLen ∧ RdLL W.heap.size W y.1.1 y.2 ∧ ∀ j, j < y.2.length → (y.2.getD j []).length ≤ maxLen := fun i hi => by
      obtain ⟨o', c', l', e, hl', hr, hj⟩ := open_rows_cells (hx i (by omega)).2
      simp at e
      exact ⟨((o', l'.length, c'), l'), e, rfl, hl', hr, hj⟩
    have hne : Inhabited (Hd × List (List Int)) := ⟨((none, 0, 0), [])⟩
    obtain ⟨f, hf⟩ := Go.Deep.choose_lt ex
    have gd : ∀ i, i < len → ((List.range len).map (fun i => (f i).2)).getD i [] = (f i).2 := fun i hi => by simp [hi]
    have gh : ∀ i, i < len → ((List.range len).map (fun i => (f i).1)).getD i (none, 0, 0) = (f i).1 := fun i hi => by simp [hi]
    refine ⟨some a, cap, (List.range len).map (fun i => (f i).2), by simpa using hcs, by simp; omega, ⟨(List.range len).map (fun i => (f i).1), by simp, ⟨some a, cap, by simp, ?_⟩, fun i hi => ?_⟩, fun i hi => ?_, fun i hi => ?_⟩
    · by_cases h0 : len = 0
      · left; simp [h0]
      · right
        obtain ⟨b, off, spot⟩ := a
        have hc := (hx 0 (by omega)).1
        have hspot : spot = none := by simpa [Addr.add] using World.cell?_spot hc
        subst hspot
        have e2 : ∀ j, (⟨b, off, none⟩ : Addr).add j = ⟨b, off + j, none⟩ := fun j => by by_cases h : j = 0 <;> simp [Addr.add, h]
        refine ⟨b, off, rfl, Nat.zero_le _, ?_, fun i hi j hj => ?_⟩
        · rw [e2] at hc
          rcases Nat.lt_or_ge b W.heap.size with h | h
          · exact h
          · simp [World.cell?, Array.getElem?_eq_none h] at hc
        · have hi' : i < len := by simpa using hi
          have hj' : j = 0 := by have : j < 1 := hj; omega
          subst hj'
          have h1 := (hx i (by omega)).1
          rw [e2] at h1
          rw [show layH.d = (none, 0, 0) from rfl, gh i hi', show layH.k = 1 from rfl, Nat.mul_one, Nat.add_zero, h1, (hf i hi').1]
          rfl
    · have hi' : i < len := by simpa using hi
      have hv' : hv ((List.range len).map (fun i => (f i).1)) i = .slice (f i).1.1 (f i).2.length (f i).1.2.2 := by unfold hv; rw [gh i hi', (hf i hi').2.1]
      rw [gd i hi', hv']
      exact RiT.of (hf i hi').2.2.2.1
    · have hi' : i < len := by simpa using hi
      rw [gd i hi']
      exact (hf i hi').2.2.1
    · have hi' : i < len := by simpa using hi
      rw [gd i hi']
      exact (hf i hi').2.2.2.2
set_option maxRecDepth 100000 in
theorem open_pool {H : Type} {enc : TypeId × Value → H} {W : World} {base : Nat} {v : Value} {d : DataW H} {p : List MemPlace}
    (hv : Value.okWide Try.prog W .any base 66 v) (h : DataW.Trod enc Try.prog W 0 (fun _ => true) true 66 v d p) :
    ∃ (m : Pm) (o : Option Addr) (cap : Nat) (oR : Option Addr) (cR : Nat), v = plv m.key (.slice o m.l.length cap) (.slice oR m.ring.length cR) ∧ lenPm m ∧ RdPm W.heap.size W (plv m.key (.slice o m.l.length cap) (.slice oR m.ring.length cR)) m := by
  obtain ⟨c0, c1, c2, y0, y1, y2, m, rfl, rfl, rfl, hy0, hy1, hy2⟩ := open_agg3 Try.underlying66 (by kernel_rfl) cellsLawsPool hv h
  obtain ⟨a, e0, rfl, wa⟩ := DataW.trod_int Try.underlying3 hy0
  obtain ⟨o, cap, l, e1, r⟩ := open_backs_cells hy1
  obtain ⟨oR, cR, ll, e2, l2, rr, l3, l4⟩ := open_rows3_cells hy2
  simp at e0 e1 e2
  subst e0 e1 e2
  exact ⟨⟨a, l, ll⟩, o, cap, oR, cR, rfl, ⟨r.1, l2, l3, l4⟩, ⟨_, _, rfl, RiV.of r.2, rr⟩⟩

end Go.Proofs.Ytldjaapbkihibaa

/- PoolOk, on both sides. -/
namespace Go.Proofs.Ytldjaapbkihibaa
open Go.ChangeShapes Go.WideShapes Go.ChangeAt Go.RowKit Go.Joins
set_option linter.unusedVariables false
set_option linter.unusedSimpArgs false

theorem pairOk_ids {l : List Int} (h : ∀ j, j < l.length → idB (l.getD j 0) = true) : pairOkB l = (decide (l.length = 0) || decide (l.length = 2)) := by
  unfold pairOkB
  by_cases h2 : l.length = 2
  · rw [h 0 (by omega), h 1 (by omega)]; simp
  · simp [h2]
theorem pairOk_bad {l : List Int} {j : Nat} (hj : j < l.length) (h : idB (l.getD j 0) = false) : pairOkB l = false := by
  unfold pairOkB
  by_cases h2 : l.length = 2
  · have h0 : ¬ (l.length = 0) := by omega
    match j, hj, h with
    | 0, _, h => simp only [h]; simp [h0]
    | 1, _, h => simp only [h]; simp [h0]
    | j + 2, hj, _ => omega
  · have h0 : ¬ (l.length = 0) := by omega
    simp [h2, h0]

set_option maxRecDepth 100000 in
set_option maxHeartbeats 1000000 in
theorem l4pair_any (o : Option Addr) (cap : Nat) (l : List Int) (w : World) (hR : RdI w.heap.size w o l) (hl : l.length ≤ 1048576) :
    Calls Try.prog 69 #[.slice o l.length cap] w fun e w' => e = .returned (.bool (pairOkB l)) ∧ w = w' := by
  obtain ⟨A, hA⟩ : ∃ A, pairOkB l = A := ⟨_, rfl⟩
  rw [hA]
  have HA := hide hA
  clear hA
  go_enter Try.func69, Try.ntmps69
  go_wp2
  go_loop [3] (fun iv => ∃ i : Nat, i ≤ l.length ∧ iv = .int .i64 (i : Int) ∧ Hid (∀ j, j < i → idB (l.getD j 0) = true))
    (fun iv => l.length - (intOf iv).toNat)
  case atStart => exact ⟨0, Nat.zero_le _, rfl, fun j hj => absurd hj (Nat.not_lt_zero _)⟩
  case round =>
    obtain ⟨i, hi, rfl, HI⟩ := hrel
    by_cases hlt : i < l.length
    · rcases hR with hR | ⟨b, off, rfl, hbl, hcell⟩
      · subst hR; simp at hlt
      have hc := RdL.int hcell i hlt
      have z1 : (i : Int) < (l.length : Int) := by omega
      have HX := hide (show idB (l.getD i 0) = (decide (0 ≤ l.getD i 0) && decide (l.getD i 0 < 6)) from rfl)
      have HBD := hide (fun h => pairOk_bad hlt h)
      have HNX := hide (fun (h : idB (l.getD i 0) = true) => fun j (hj : j < i + 1) => (show idB (l.getD j 0) = true from (Nat.lt_succ_iff_lt_or_eq.1 hj).elim (fun h' => HI.out j h') (fun h' => h' ▸ h)))
      clear hcell
      generalize l.getD i 0 = x at *
      by_cases h1 : x < 0
      · have hb : A = false := by rw [← HA.out]; exact HBD.out (by rw [HX.out, decide_eq_false (by omega)]; rfl)
        clear HA
        subst hb
        go_wp2
        go_ret
        exact ⟨rfl, rfl⟩
      · by_cases h2 : 6 ≤ x
        · have hb : A = false := by rw [← HA.out]; exact HBD.out (by rw [HX.out, decide_eq_false (show ¬ x < 6 by omega)]; simp)
          clear HA
          subst hb
          go_wp2
          go_ret
          exact ⟨rfl, rfl⟩
        · have HOK := hide (HNX.out (by rw [HX.out, decide_eq_true (show 0 ≤ x by omega), decide_eq_true (show x < 6 by omega)]; rfl))
          clear HX HNX HBD
          go_wp2
          go_round
          case rel => exact ⟨i + 1, by omega, by go_num, HOK.out⟩
          case measure => simp [intOf]; omega
    · have e : i = l.length := by omega
      subst e
      have hb := pairOk_ids HI.out
      rw [HA.out] at hb
      by_cases h0 : l.length = 0
      · have h0' : (l.length : Int) = 0 := by omega
        have hb' : A = true := by rw [hb, decide_eq_true h0]; rfl
        clear hb HA HI hR
        subst hb'
        go_wp2
        go_ret
        exact ⟨rfl, rfl⟩
      · by_cases h2 : l.length = 2
        · have hb' : A = true := by rw [hb, decide_eq_true h2]; simp
          have H2 := hide h2
          clear hb HA HI hR h0 h2
          subst hb'
          have h2' : (l.length : Int) = 2 := by have := H2.out; omega
          go_wp2
          go_ret
          exact ⟨rfl, rfl⟩
        · have hb' : A = false := by rw [hb, decide_eq_false h0, decide_eq_false h2]; rfl
          have h0' : ((l.length : Int) == 0) = false := beq_eq_false_iff_ne.2 (by omega)
          have h2' : ((l.length : Int) == 2) = false := beq_eq_false_iff_ne.2 (by omega)
          clear hb HA HI hR
          subst hb'
          go_wp2
          go_ret
          exact ⟨rfl, rfl⟩

theorem moved_all {aa bb : List (List Int)} : ∀ k, movedTo aa bb k = 0 → ∀ i, i < k → aa.getD i [] = bb.getD i []
  | 0, _ => fun i hi => absurd hi (Nat.not_lt_zero _)
  | k + 1, h => fun i hi => by
    have hb := (movedTo_bd aa bb k).1
    by_cases e : aa.getD k [] = bb.getD k []
    · have h1 := movedTo_same (aa := aa) (bb := bb) (k := k) rfl rfl e
      rcases Nat.lt_succ_iff_lt_or_eq.1 hi with h' | h'
      · exact moved_all k (by omega) i h'
      · rw [h']; exact e
    · have h1 := movedTo_diff (aa := aa) (bb := bb) (k := k) rfl rfl e
      omega
theorem moved_none {aa bb : List (List Int)} : ∀ k, (∀ i, i < k → aa.getD i [] = bb.getD i []) → movedTo aa bb k = 0
  | 0, _ => rfl
  | k + 1, h => by
    rw [← movedTo_same (aa := aa) (bb := bb) (k := k) rfl rfl (h k (by omega))]
    exact moved_none k (fun i hi => h i (by omega))
theorem tab_pair {ll : List (List Int)} (h : tabOkB ll = true) : ll.length = 8 ∧ ∀ i, i < 8 → pairOkB (ll.getD i []) = true := by
  unfold tabOkB at h
  simp only [Bool.and_eq_true, decide_eq_true_eq, List.all_eq_true, List.mem_range] at h
  exact h
theorem moved_eq {key : Int} {l : List Bk} {ll : List (List Int)} (hl : backsOkB l = true) (h : tabOkB ll = true) : movedI ll (newT key l) = 0 ↔ eqPtB (tabF ll) (newF key l) = true := by
  obtain ⟨h8, hp⟩ := tab_pair h
  have hm : movedI ll (newT key l) = movedTo ll (newT key l) 8 := by rw [movedI, if_pos ⟨h8, newT_len key l⟩]
  rw [hm]
  have hn : ∀ i, i < 8 → (newT key l).getD i [] = pairI key i l := fun i hi => by unfold newT; rw [rowsOf_get _ _ _ hi]
  constructor
  · intro h0
    unfold eqPtB
    rw [List.all_eq_true]
    intro i hi
    have hi' : i < 8 := by simpa using hi
    have h1 := moved_all 8 h0 i hi'
    unfold tabF newF
    rw [h1, hn i hi']
    exact beq_self_eq_true _
  · intro h0
    unfold eqPtB at h0
    rw [List.all_eq_true] at h0
    refine moved_none 8 (fun i hi => ?_)
    have h1 := eq_of_beq (h0 i (by simpa using hi))
    unfold tabF newF at h1
    rw [hn i hi, ← ipList_of (hp i hi), h1, ipList_of (pairI_ok key i hl)]
theorem moved_pool {m : Pm} (h : poolB m = true) : movedI (m.ring.getD 0 []) (newT m.key m.l) = 0 := by
  unfold poolB at h
  simp only [Bool.and_eq_true, decide_eq_true_eq, List.all_eq_true, List.mem_range] at h
  obtain ⟨⟨⟨⟨⟨h1, h2⟩, h3⟩, h4⟩, h5⟩, h6⟩ := h
  exact (moved_eq h2 (h5 0 (by omega))).2 h6
theorem pool_rest {m : Pm} (h1 : keyB m.key = true) (h2 : backsOkB m.l = true) (h3 : 1 ≤ m.ring.length) (h4 : m.ring.length ≤ 3) (h5 : ∀ i, i < m.ring.length → tabOkB (m.ring.getD i []) = true) (h6 : movedI (m.ring.getD 0 []) (newT m.key m.l) = 0) : poolB m = true :=
  poolB_yes h1 h2 h3 h4 h5 ((moved_eq h2 (h5 0 (by omega))).1 h6)

end Go.Proofs.Ytldjaapbkihibaa

/- The model's PoolOk. -/
namespace Go.Proofs.Ytldjaapbkihibaa
open Go.ChangeShapes Go.WideShapes Go.ChangeAt Go.RowKit Go.Joins
set_option linter.unusedVariables false
set_option linter.unusedSimpArgs false


set_option maxRecDepth 100000 in
set_option maxHeartbeats 16000000 in
theorem poolOk_1 (key : Int) (o : Option Addr) (cap : Nat) (l : List Bk) (oR : Option Addr) (cR : Nat) (lll : List (List (List Int))) (hnn : 1 = lll.length) (w : World) (hR : RdK w.heap.size w o l) (hG : RiR 0 w.heap.size w (.slice oR 1 cR) lll) (hf : fitPm ⟨key, l, lll⟩) (A : Bool) (hk : keyB key = true) (hbo : backsOkB l = true)
    (hno : keyB key = false ∨ backsOkB l = false ∨ lll.length < 1 ∨ 3 < lll.length ∨ (∃ i, i < lll.length ∧ tabOkB (lll.getD i []) = false) ∨ eqPtB (tabF (lll.getD 0 [])) (newF key l) = false → A = false) (hmv : A = true → movedI (lll.getD 0 []) (newT key l) = 0)
    (hys : keyB key = true → backsOkB l = true → 1 ≤ lll.length → lll.length ≤ 3 → (∀ i, i < lll.length → tabOkB (lll.getD i []) = true) → movedI (lll.getD 0 []) (newT key l) = 0 → A = true) :
    Calls Try.prog 20 #[plv key (.slice o l.length cap) (.slice oR 1 cR)] w fun e w' => e = .returned (.bool A) ∧ Below w.heap.size w w' := by
  have HNN := hide hnn
  obtain ⟨hf1, hf2, hf3, hf4, hf5⟩ := hf
  dsimp only at hf1 hf2 hf3 hf4 hf5
  have HX := hide hf4
  have HY := hide hf5
  have HNO := hide hno
  have HMV := hide hmv
  have HYS := hide hys
  have HK := hide hk
  have HBK := hide hbo
  clear hnn hf4 hf5 hf3 hf2 hno hmv hys hk hbo
  obtain ⟨W0, hW0⟩ : ∃ W, (w.alloc (.cells #[.int .i64 key, .slice o l.length cap, .slice oR 1 cR] 26)) = W := ⟨_, rfl⟩
  have hb_W0 : Below w.heap.size w W0 := by rw [← hW0]; exact ((Below.refl _ _).alloc (Nat.le_refl _) _)
  have HB := hide hb_W0
  clear hb_W0
  have zz : w.heap.size < W0.heap.size := by rw [← hW0]; simp
  have z0 : W0.cell? ⟨w.heap.size, 0, none⟩ = some (.int .i64 key) := by rw [← hW0]; simp [go_sem]
  have z1 : W0.cell? ⟨w.heap.size, 1, none⟩ = some (.slice o l.length cap) := by rw [← hW0]; simp [go_sem]
  have z2 : W0.cell? ⟨w.heap.size, 2, none⟩ = some (.slice oR 1 cR) := by rw [← hW0]; simp [go_sem]
  have HKE := hide (fun W => HK.out ▸ l3key_any key W)
  have HBO := hide (fun p : Grown W0 => HBK.out ▸ specBacksOk_any o cap l p.v ((hR.kept (HB.out.trans (p.b.mono HB.out.size)) (Nat.le_refl _)).le (Nat.le_trans HB.out.size p.b.size)) hf1)
  have HRK := hide hR
  have HG := hide hG
  clear hR hG
  have hw0 := HB.out.size
  have h1n : 1 ≤ 1 := by omega
  have h3n : 1 ≤ 3 := by omega
  have hln0 : 0 < lll.length := by rw [← HNN.out]; omega
  have hl100 := backs_len HBK.out
  obtain ⟨b, off, o', c', rfl, hbl, hcu0, hru0⟩ := HG.out.at (Nat.le_refl _) 0 hln0
  have hcu := bC HB.out hcu0 hbl
  rw [Nat.add_zero] at hcu
  have HRU := hide hru0
  have HX0 := hide (HX.out 0 hln0)
  have HY0 := hide (HY.out 0 hln0)
  have HTB := hide (fun W (hb : Below W0.heap.size W0 W) => l3table_any key o cap l W ((HRK.out.kept (HB.out.trans (hb.mono HB.out.size)) (Nat.le_refl _)).le (Nat.le_trans HB.out.size hb.size)) (by omega) HK.out HBK.out)
  have HMO := hide (fun W (hb : Below W0.heap.size W0 W) oT cT (hT : RdLL W.heap.size W oT (newT key l)) => (newT_len key l) ▸ specMoved_any o' oT c' cT (lll.getD 0 []) (newT key l) W ((HRU.out.kept (HB.out.trans (hb.mono HB.out.size)) (Nat.le_refl _)).le (Nat.le_trans HB.out.size hb.size)) hT HX0.out (by rw [newT_len]; omega) HY0.out (fun i hi => by have := newT_row key l i; omega))
  clear hcu0 hru0
  obtain ⟨m0, hm0⟩ : ∃ m, (lll.getD 0 []).length = m := ⟨_, rfl⟩
  rw [hm0] at hcu HMO
  clear hm0
  obtain ⟨r, hr⟩ : ∃ r, movedI (lll.getD 0 []) (newT key l) = r := ⟨_, rfl⟩
  rw [hr] at HMO HMV HYS
  clear hr
  have hbl' : b < W0.heap.size := by omega
  by_cases hr0 : r = 0
  · subst hr0
    go_enter Try.func20, Try.ntmps20
    go_wp2
    go_region_held3 (fun w' => w'.cell? ⟨w.heap.size, 0, none⟩ = some (.int .i64 key) ∧ w'.cell? ⟨w.heap.size, 1, none⟩ = some (.slice o l.length cap) ∧ w'.cell? ⟨w.heap.size, 2, none⟩ = some (.slice (some ⟨b, off, none⟩) 1 cR) ∧ w'.cell? ⟨b, off, none⟩ = some (.slice o' m0 c')) (first | with_reducible exact ⟨k3_0, k3_1, k3_2, k3_3⟩ | with_reducible exact ⟨k2_0, k2_1, k2_2, k2_3⟩ | with_reducible exact ⟨k1_0, k1_1, k1_2, k1_3⟩ | with_reducible exact ⟨z0, z1, z2, hcu⟩ | go_keep) (first | (go_at_call 66; refine (HKE.out _).mono ?_; rintro e _ ⟨rfl, rfl⟩) | (go_at_call 67; have hc_ := HBO.out ⟨W0.drew, Below.drew (Below.refl _ _)⟩; refine hc_.mono ?_; clear hc_; rintro e x1 ⟨rfl, hb⟩; have hp1 : Below W0.heap.size W0 x1 := (Below.drew (Below.refl _ _)).trans hb; have k1_0 := bC hp1 z0 zz; have k1_1 := bC hp1 z1 zz; have k1_2 := bC hp1 z2 zz; have k1_3 := bC hp1 hcu hbl'; clear hb) | (go_at_call 68; have hc_ := HTB.out x1 hp1; with_reducible refine hc_.mono ?_; clear hc_; rintro e x2 ⟨vT, rfl, ⟨oT, cT, rfl, hT⟩, hb⟩; have hp2 : Below W0.heap.size W0 x2 := hp1.trans (hb.mono hp1.size); have k2_0 := bC hp2 z0 zz; have k2_1 := bC hp2 z1 zz; have k2_2 := bC hp2 z2 zz; have k2_3 := bC hp2 hcu hbl'; clear hb) | (go_at_call 60; have hc_ := HMO.out x2 hp2 oT cT hT; with_reducible refine hc_.mono ?_; clear hc_; rintro e x3 ⟨rfl, hb⟩; have hp3 : Below W0.heap.size W0 x3 := hp2.trans (hb.mono hp2.size); have k3_0 := bC hp3 z0 zz; have k3_1 := bC hp3 z1 zz; have k3_2 := bC hp3 z2 zz; have k3_3 := bC hp3 hcu hbl'; clear hb))
    have HB3 := hide (HB.out.trans (hp3.mono HB.out.size))
    have HZ3 := hide hp3.size
    clear k1_0 k1_1 k1_2 k1_3 k2_0 k2_1 k2_2 k2_3 hT hp1 hp2 hp3
    go_wp2
    go_loopw [3] (fun iv wr => ∃ i : Nat, i ≤ 1 ∧ iv = .int .i64 (i : Int) ∧ Hid (∀ j, j < i → tabOkB (lll.getD j []) = true) ∧ Hid (Below x3.heap.size x3 wr))
              (fun iv _ => 1 - (intOf iv).toNat)
    case atStart => exact ⟨0, Nat.zero_le _, rfl, fun j hj => absurd hj (Nat.not_lt_zero _), Below.refl _ _⟩
    case round =>
          rename World => wo
          obtain ⟨i, hi', rfl, HOK, HBO1⟩ := hrel
          have hx3 : w.heap.size < x3.heap.size := by have := HZ3.out; omega
          have hbx3 : b < x3.heap.size := by have := HZ3.out; omega
          have y2 := bC HBO1.out k3_2 hx3
          have HBW := hide (HB3.out.trans (HBO1.out.mono HB3.out.size))
          have hso := HBO1.out.size
          by_cases hlt : i < 1
          · skip
            have hlt' : (i : Int) < (1 : Int) := by omega
            have hif : i < lll.length := by rw [← HNN.out]; exact hlt
            obtain ⟨b1, off1, o1, c1, e1, hbl1, hcu1, hru1⟩ := HG.out.at (Nat.le_refl _) i hif
            injection e1 with e1
            injection e1 with e2 e3 e4
            subst e2 e3
            clear e4
            have hci := bC HBW.out hcu1 hbl1
            have HRI := hide hru1
            have HYI := hide (HY.out i hif)
            have HNI := hide (fun h => HNO.out (.inr (.inr (.inr (.inr (.inl ⟨i, hif, h⟩))))))
            have hxi := HX.out i hif
            clear hcu1 hru1
            obtain ⟨ll, hll⟩ : ∃ ll, lll.getD i [] = ll := ⟨_, rfl⟩
            rw [hll] at hci HRI HYI HNI hxi
            have HLL := hide hll
            clear hll
            by_cases h8 : ll.length = 8
            · rw [h8] at hci
              have H8 := hide h8
              clear h8 hxi
              have hbo : b < wo.heap.size := by omega
              have hxo : w.heap.size < wo.heap.size := by omega
              go_wp2
              go_loopw [4] (fun kv wr => ∃ k : Nat, k ≤ 8 ∧ kv = .int .i64 (k : Int) ∧ Hid (∀ q, q < k → pairOkB (ll.getD q []) = true) ∧ wo = wr)
                    (fun kv _ => 8 - (intOf kv).toNat)
              case atStart => exact ⟨0, Nat.zero_le _, rfl, fun j hj => absurd hj (Nat.not_lt_zero _), rfl⟩
              case round =>
                obtain ⟨k, hk', rfl, HPK, rfl⟩ := hrel
                by_cases hlk : k < 8
                · skip
                  have hlk' : (k : Int) < 8 := by omega
                  obtain ⟨b2, off2, o9, c9, rfl, hbl2, hc9, hr9⟩ := ((HRI.out.kept HBW.out (Nat.le_refl _)).le HBW.out.size).at (Nat.le_refl _) k (by rw [H8.out]; exact hlk)
                  have HLP := hide (l4pair_any o9 c9 (ll.getD k []) wo hr9 (HYI.out k (by rw [H8.out]; exact hlk)))
                  have HNK := hide (fun h => HNI.out (tabOk_no hlk h))
                  have HPN := hide (fun (h : pairOkB (ll.getD k []) = true) => fun j (hj : j < k + 1) => (show pairOkB (ll.getD j []) = true from (Nat.lt_succ_iff_lt_or_eq.1 hj).elim (fun h' => HPK.out j h') (fun h' => h' ▸ h)))
                  clear hr9
                  obtain ⟨row, hrow⟩ : ∃ r, ll.getD k [] = r := ⟨_, rfl⟩
                  rw [hrow] at hc9 HLP HNK HPN
                  clear hrow
                  obtain ⟨rl, hrl⟩ : ∃ r, row.length = r := ⟨_, rfl⟩
                  rw [hrl] at hc9 HLP
                  clear hrl
                  cases hp : pairOkB row with
                  | false =>
                    have hAf := HNK.out hp
                    rw [hp] at HLP
                    clear HPN HNK HNI HNO HMV HYS
                    subst hAf
                    go_wp2_with fail
                    refine HLP.out.mono ?_
                    rintro e _ ⟨rfl, rfl⟩
                    go_wp2
                    go_ret
                    exact ⟨rfl, HBW.out⟩
                  | true =>
                    have HPP := hide (HPN.out hp)
                    rw [hp] at HLP
                    clear HPN HNK hp
                    go_wp2_with fail
                    refine HLP.out.mono ?_
                    rintro e _ ⟨rfl, rfl⟩
                    go_wp2
                    go_roundw
                    case rel => exact ⟨k + 1, by omega, by go_num, HPP.out, (by first | rfl | trivial)⟩
                    case measure => simp [intOf]; omega
                · skip
                  have e : k = 8 := by omega
                  subst e
                  have HTO := hide (tabOk_yes H8.out HPK.out)
                  go_wp2
                  go_roundw
                  case rel => exact ⟨i + 1, by omega, by go_num, (fun j hj => (Nat.lt_succ_iff_lt_or_eq.1 hj).elim (fun h' => HOK.out j h') (fun h' => by rw [h', HLL.out]; exact HTO.out)), HBO1.out⟩
                  case measure => simp [intOf]; omega
            · have hAf := HNI.out (show tabOkB ll = false by unfold tabOkB; rw [decide_eq_false h8, Bool.false_and])
              have h8' : ((ll.length : Int) == 8) = false := beq_eq_false_iff_ne.2 (by omega)
              have h8n : ((ll.length : Int) != 8) = true := by simp [bne, h8']
              clear HNI HNO HMV HYS
              subst hAf
              have hbo : b < wo.heap.size := by omega
              generalize ll.length = m at *
              go_wp2
              go_ret
              exact ⟨rfl, HBW.out⟩
          · skip
            have e : i = 1 := by omega
            subst e
            have hAt := HYS.out HK.out HBK.out (by show 1 ≤ lll.length; rw [← HNN.out]; exact h1n) (by show lll.length ≤ 3; rw [← HNN.out]; exact h3n) (fun j hj => HOK.out j (by rw [HNN.out]; exact hj)) (by first | rfl | trivial)
            clear HNO HMV HYS
            subst hAt
            go_wp2
            go_ret
            exact ⟨rfl, HBW.out⟩
  · have hAf : A = false := by (cases A with | false => rfl | true => exact absurd (HMV.out rfl) hr0)
    have hr0' : (r == 0) = false := beq_eq_false_iff_ne.2 hr0
    have hr1' : (r != 0) = true := by simp [bne, hr0']
    clear HMV HNO HYS
    subst hAf
    go_enter Try.func20, Try.ntmps20
    go_wp2
    go_region_held3 (fun w' => w'.cell? ⟨w.heap.size, 0, none⟩ = some (.int .i64 key) ∧ w'.cell? ⟨w.heap.size, 1, none⟩ = some (.slice o l.length cap) ∧ w'.cell? ⟨w.heap.size, 2, none⟩ = some (.slice (some ⟨b, off, none⟩) 1 cR) ∧ w'.cell? ⟨b, off, none⟩ = some (.slice o' m0 c')) (first | with_reducible exact ⟨k3_0, k3_1, k3_2, k3_3⟩ | with_reducible exact ⟨k2_0, k2_1, k2_2, k2_3⟩ | with_reducible exact ⟨k1_0, k1_1, k1_2, k1_3⟩ | with_reducible exact ⟨z0, z1, z2, hcu⟩ | go_keep) (first | (go_at_call 66; refine (HKE.out _).mono ?_; rintro e _ ⟨rfl, rfl⟩) | (go_at_call 67; have hc_ := HBO.out ⟨W0.drew, Below.drew (Below.refl _ _)⟩; refine hc_.mono ?_; clear hc_; rintro e x1 ⟨rfl, hb⟩; have hp1 : Below W0.heap.size W0 x1 := (Below.drew (Below.refl _ _)).trans hb; have k1_0 := bC hp1 z0 zz; have k1_1 := bC hp1 z1 zz; have k1_2 := bC hp1 z2 zz; have k1_3 := bC hp1 hcu hbl'; clear hb) | (go_at_call 68; have hc_ := HTB.out x1 hp1; with_reducible refine hc_.mono ?_; clear hc_; rintro e x2 ⟨vT, rfl, ⟨oT, cT, rfl, hT⟩, hb⟩; have hp2 : Below W0.heap.size W0 x2 := hp1.trans (hb.mono hp1.size); have k2_0 := bC hp2 z0 zz; have k2_1 := bC hp2 z1 zz; have k2_2 := bC hp2 z2 zz; have k2_3 := bC hp2 hcu hbl'; clear hb) | (go_at_call 60; have hc_ := HMO.out x2 hp2 oT cT hT; with_reducible refine hc_.mono ?_; clear hc_; rintro e x3 ⟨rfl, hb⟩; have hp3 : Below W0.heap.size W0 x3 := hp2.trans (hb.mono hp2.size); have k3_0 := bC hp3 z0 zz; have k3_1 := bC hp3 z1 zz; have k3_2 := bC hp3 z2 zz; have k3_3 := bC hp3 hcu hbl'; clear hb))
    have HB3 := hide (HB.out.trans (hp3.mono HB.out.size))
    clear k1_0 k1_1 k1_2 k1_3 k2_0 k2_1 k2_2 k2_3 hT hp1 hp2 hp3
    go_wp2
    go_ret
    exact ⟨rfl, HB3.out⟩

set_option maxRecDepth 100000 in
set_option maxHeartbeats 16000000 in
theorem poolOk_2 (key : Int) (o : Option Addr) (cap : Nat) (l : List Bk) (oR : Option Addr) (cR : Nat) (lll : List (List (List Int))) (hnn : 2 = lll.length) (w : World) (hR : RdK w.heap.size w o l) (hG : RiR 0 w.heap.size w (.slice oR 2 cR) lll) (hf : fitPm ⟨key, l, lll⟩) (A : Bool) (hk : keyB key = true) (hbo : backsOkB l = true)
    (hno : keyB key = false ∨ backsOkB l = false ∨ lll.length < 1 ∨ 3 < lll.length ∨ (∃ i, i < lll.length ∧ tabOkB (lll.getD i []) = false) ∨ eqPtB (tabF (lll.getD 0 [])) (newF key l) = false → A = false) (hmv : A = true → movedI (lll.getD 0 []) (newT key l) = 0)
    (hys : keyB key = true → backsOkB l = true → 1 ≤ lll.length → lll.length ≤ 3 → (∀ i, i < lll.length → tabOkB (lll.getD i []) = true) → movedI (lll.getD 0 []) (newT key l) = 0 → A = true) :
    Calls Try.prog 20 #[plv key (.slice o l.length cap) (.slice oR 2 cR)] w fun e w' => e = .returned (.bool A) ∧ Below w.heap.size w w' := by
  have HNN := hide hnn
  obtain ⟨hf1, hf2, hf3, hf4, hf5⟩ := hf
  dsimp only at hf1 hf2 hf3 hf4 hf5
  have HX := hide hf4
  have HY := hide hf5
  have HNO := hide hno
  have HMV := hide hmv
  have HYS := hide hys
  have HK := hide hk
  have HBK := hide hbo
  clear hnn hf4 hf5 hf3 hf2 hno hmv hys hk hbo
  obtain ⟨W0, hW0⟩ : ∃ W, (w.alloc (.cells #[.int .i64 key, .slice o l.length cap, .slice oR 2 cR] 26)) = W := ⟨_, rfl⟩
  have hb_W0 : Below w.heap.size w W0 := by rw [← hW0]; exact ((Below.refl _ _).alloc (Nat.le_refl _) _)
  have HB := hide hb_W0
  clear hb_W0
  have zz : w.heap.size < W0.heap.size := by rw [← hW0]; simp
  have z0 : W0.cell? ⟨w.heap.size, 0, none⟩ = some (.int .i64 key) := by rw [← hW0]; simp [go_sem]
  have z1 : W0.cell? ⟨w.heap.size, 1, none⟩ = some (.slice o l.length cap) := by rw [← hW0]; simp [go_sem]
  have z2 : W0.cell? ⟨w.heap.size, 2, none⟩ = some (.slice oR 2 cR) := by rw [← hW0]; simp [go_sem]
  have HKE := hide (fun W => HK.out ▸ l3key_any key W)
  have HBO := hide (fun p : Grown W0 => HBK.out ▸ specBacksOk_any o cap l p.v ((hR.kept (HB.out.trans (p.b.mono HB.out.size)) (Nat.le_refl _)).le (Nat.le_trans HB.out.size p.b.size)) hf1)
  have HRK := hide hR
  have HG := hide hG
  clear hR hG
  have hw0 := HB.out.size
  have h1n : 1 ≤ 2 := by omega
  have h3n : 2 ≤ 3 := by omega
  have hln0 : 0 < lll.length := by rw [← HNN.out]; omega
  have hl100 := backs_len HBK.out
  obtain ⟨b, off, o', c', rfl, hbl, hcu0, hru0⟩ := HG.out.at (Nat.le_refl _) 0 hln0
  have hcu := bC HB.out hcu0 hbl
  rw [Nat.add_zero] at hcu
  have HRU := hide hru0
  have HX0 := hide (HX.out 0 hln0)
  have HY0 := hide (HY.out 0 hln0)
  have HTB := hide (fun W (hb : Below W0.heap.size W0 W) => l3table_any key o cap l W ((HRK.out.kept (HB.out.trans (hb.mono HB.out.size)) (Nat.le_refl _)).le (Nat.le_trans HB.out.size hb.size)) (by omega) HK.out HBK.out)
  have HMO := hide (fun W (hb : Below W0.heap.size W0 W) oT cT (hT : RdLL W.heap.size W oT (newT key l)) => (newT_len key l) ▸ specMoved_any o' oT c' cT (lll.getD 0 []) (newT key l) W ((HRU.out.kept (HB.out.trans (hb.mono HB.out.size)) (Nat.le_refl _)).le (Nat.le_trans HB.out.size hb.size)) hT HX0.out (by rw [newT_len]; omega) HY0.out (fun i hi => by have := newT_row key l i; omega))
  clear hcu0 hru0
  obtain ⟨m0, hm0⟩ : ∃ m, (lll.getD 0 []).length = m := ⟨_, rfl⟩
  rw [hm0] at hcu HMO
  clear hm0
  obtain ⟨r, hr⟩ : ∃ r, movedI (lll.getD 0 []) (newT key l) = r := ⟨_, rfl⟩
  rw [hr] at HMO HMV HYS
  clear hr
  have hbl' : b < W0.heap.size := by omega
  by_cases hr0 : r = 0
  · subst hr0
    go_enter Try.func20, Try.ntmps20
    go_wp2
    go_region_held3 (fun w' => w'.cell? ⟨w.heap.size, 0, none⟩ = some (.int .i64 key) ∧ w'.cell? ⟨w.heap.size, 1, none⟩ = some (.slice o l.length cap) ∧ w'.cell? ⟨w.heap.size, 2, none⟩ = some (.slice (some ⟨b, off, none⟩) 2 cR) ∧ w'.cell? ⟨b, off, none⟩ = some (.slice o' m0 c')) (first | with_reducible exact ⟨k3_0, k3_1, k3_2, k3_3⟩ | with_reducible exact ⟨k2_0, k2_1, k2_2, k2_3⟩ | with_reducible exact ⟨k1_0, k1_1, k1_2, k1_3⟩ | with_reducible exact ⟨z0, z1, z2, hcu⟩ | go_keep) (first | (go_at_call 66; refine (HKE.out _).mono ?_; rintro e _ ⟨rfl, rfl⟩) | (go_at_call 67; have hc_ := HBO.out ⟨W0.drew, Below.drew (Below.refl _ _)⟩; refine hc_.mono ?_; clear hc_; rintro e x1 ⟨rfl, hb⟩; have hp1 : Below W0.heap.size W0 x1 := (Below.drew (Below.refl _ _)).trans hb; have k1_0 := bC hp1 z0 zz; have k1_1 := bC hp1 z1 zz; have k1_2 := bC hp1 z2 zz; have k1_3 := bC hp1 hcu hbl'; clear hb) | (go_at_call 68; have hc_ := HTB.out x1 hp1; with_reducible refine hc_.mono ?_; clear hc_; rintro e x2 ⟨vT, rfl, ⟨oT, cT, rfl, hT⟩, hb⟩; have hp2 : Below W0.heap.size W0 x2 := hp1.trans (hb.mono hp1.size); have k2_0 := bC hp2 z0 zz; have k2_1 := bC hp2 z1 zz; have k2_2 := bC hp2 z2 zz; have k2_3 := bC hp2 hcu hbl'; clear hb) | (go_at_call 60; have hc_ := HMO.out x2 hp2 oT cT hT; with_reducible refine hc_.mono ?_; clear hc_; rintro e x3 ⟨rfl, hb⟩; have hp3 : Below W0.heap.size W0 x3 := hp2.trans (hb.mono hp2.size); have k3_0 := bC hp3 z0 zz; have k3_1 := bC hp3 z1 zz; have k3_2 := bC hp3 z2 zz; have k3_3 := bC hp3 hcu hbl'; clear hb))
    have HB3 := hide (HB.out.trans (hp3.mono HB.out.size))
    have HZ3 := hide hp3.size
    clear k1_0 k1_1 k1_2 k1_3 k2_0 k2_1 k2_2 k2_3 hT hp1 hp2 hp3
    go_wp2
    go_loopw [3] (fun iv wr => ∃ i : Nat, i ≤ 2 ∧ iv = .int .i64 (i : Int) ∧ Hid (∀ j, j < i → tabOkB (lll.getD j []) = true) ∧ Hid (Below x3.heap.size x3 wr))
              (fun iv _ => 2 - (intOf iv).toNat)
    case atStart => exact ⟨0, Nat.zero_le _, rfl, fun j hj => absurd hj (Nat.not_lt_zero _), Below.refl _ _⟩
    case round =>
          rename World => wo
          obtain ⟨i, hi', rfl, HOK, HBO1⟩ := hrel
          have hx3 : w.heap.size < x3.heap.size := by have := HZ3.out; omega
          have hbx3 : b < x3.heap.size := by have := HZ3.out; omega
          have y2 := bC HBO1.out k3_2 hx3
          have HBW := hide (HB3.out.trans (HBO1.out.mono HB3.out.size))
          have hso := HBO1.out.size
          by_cases hlt : i < 2
          · skip
            have hlt' : (i : Int) < (2 : Int) := by omega
            have hif : i < lll.length := by rw [← HNN.out]; exact hlt
            obtain ⟨b1, off1, o1, c1, e1, hbl1, hcu1, hru1⟩ := HG.out.at (Nat.le_refl _) i hif
            injection e1 with e1
            injection e1 with e2 e3 e4
            subst e2 e3
            clear e4
            have hci := bC HBW.out hcu1 hbl1
            have HRI := hide hru1
            have HYI := hide (HY.out i hif)
            have HNI := hide (fun h => HNO.out (.inr (.inr (.inr (.inr (.inl ⟨i, hif, h⟩))))))
            have hxi := HX.out i hif
            clear hcu1 hru1
            obtain ⟨ll, hll⟩ : ∃ ll, lll.getD i [] = ll := ⟨_, rfl⟩
            rw [hll] at hci HRI HYI HNI hxi
            have HLL := hide hll
            clear hll
            by_cases h8 : ll.length = 8
            · rw [h8] at hci
              have H8 := hide h8
              clear h8 hxi
              have hbo : b < wo.heap.size := by omega
              have hxo : w.heap.size < wo.heap.size := by omega
              go_wp2
              go_loopw [4] (fun kv wr => ∃ k : Nat, k ≤ 8 ∧ kv = .int .i64 (k : Int) ∧ Hid (∀ q, q < k → pairOkB (ll.getD q []) = true) ∧ wo = wr)
                    (fun kv _ => 8 - (intOf kv).toNat)
              case atStart => exact ⟨0, Nat.zero_le _, rfl, fun j hj => absurd hj (Nat.not_lt_zero _), rfl⟩
              case round =>
                obtain ⟨k, hk', rfl, HPK, rfl⟩ := hrel
                by_cases hlk : k < 8
                · skip
                  have hlk' : (k : Int) < 8 := by omega
                  obtain ⟨b2, off2, o9, c9, rfl, hbl2, hc9, hr9⟩ := ((HRI.out.kept HBW.out (Nat.le_refl _)).le HBW.out.size).at (Nat.le_refl _) k (by rw [H8.out]; exact hlk)
                  have HLP := hide (l4pair_any o9 c9 (ll.getD k []) wo hr9 (HYI.out k (by rw [H8.out]; exact hlk)))
                  have HNK := hide (fun h => HNI.out (tabOk_no hlk h))
                  have HPN := hide (fun (h : pairOkB (ll.getD k []) = true) => fun j (hj : j < k + 1) => (show pairOkB (ll.getD j []) = true from (Nat.lt_succ_iff_lt_or_eq.1 hj).elim (fun h' => HPK.out j h') (fun h' => h' ▸ h)))
                  clear hr9
                  obtain ⟨row, hrow⟩ : ∃ r, ll.getD k [] = r := ⟨_, rfl⟩
                  rw [hrow] at hc9 HLP HNK HPN
                  clear hrow
                  obtain ⟨rl, hrl⟩ : ∃ r, row.length = r := ⟨_, rfl⟩
                  rw [hrl] at hc9 HLP
                  clear hrl
                  cases hp : pairOkB row with
                  | false =>
                    have hAf := HNK.out hp
                    rw [hp] at HLP
                    clear HPN HNK HNI HNO HMV HYS
                    subst hAf
                    go_wp2_with fail
                    refine HLP.out.mono ?_
                    rintro e _ ⟨rfl, rfl⟩
                    go_wp2
                    go_ret
                    exact ⟨rfl, HBW.out⟩
                  | true =>
                    have HPP := hide (HPN.out hp)
                    rw [hp] at HLP
                    clear HPN HNK hp
                    go_wp2_with fail
                    refine HLP.out.mono ?_
                    rintro e _ ⟨rfl, rfl⟩
                    go_wp2
                    go_roundw
                    case rel => exact ⟨k + 1, by omega, by go_num, HPP.out, (by first | rfl | trivial)⟩
                    case measure => simp [intOf]; omega
                · skip
                  have e : k = 8 := by omega
                  subst e
                  have HTO := hide (tabOk_yes H8.out HPK.out)
                  go_wp2
                  go_roundw
                  case rel => exact ⟨i + 1, by omega, by go_num, (fun j hj => (Nat.lt_succ_iff_lt_or_eq.1 hj).elim (fun h' => HOK.out j h') (fun h' => by rw [h', HLL.out]; exact HTO.out)), HBO1.out⟩
                  case measure => simp [intOf]; omega
            · have hAf := HNI.out (show tabOkB ll = false by unfold tabOkB; rw [decide_eq_false h8, Bool.false_and])
              have h8' : ((ll.length : Int) == 8) = false := beq_eq_false_iff_ne.2 (by omega)
              have h8n : ((ll.length : Int) != 8) = true := by simp [bne, h8']
              clear HNI HNO HMV HYS
              subst hAf
              have hbo : b < wo.heap.size := by omega
              generalize ll.length = m at *
              go_wp2
              go_ret
              exact ⟨rfl, HBW.out⟩
          · skip
            have e : i = 2 := by omega
            subst e
            have hAt := HYS.out HK.out HBK.out (by show 1 ≤ lll.length; rw [← HNN.out]; exact h1n) (by show lll.length ≤ 3; rw [← HNN.out]; exact h3n) (fun j hj => HOK.out j (by rw [HNN.out]; exact hj)) (by first | rfl | trivial)
            clear HNO HMV HYS
            subst hAt
            go_wp2
            go_ret
            exact ⟨rfl, HBW.out⟩
  · have hAf : A = false := by (cases A with | false => rfl | true => exact absurd (HMV.out rfl) hr0)
    have hr0' : (r == 0) = false := beq_eq_false_iff_ne.2 hr0
    have hr1' : (r != 0) = true := by simp [bne, hr0']
    clear HMV HNO HYS
    subst hAf
    go_enter Try.func20, Try.ntmps20
    go_wp2
    go_region_held3 (fun w' => w'.cell? ⟨w.heap.size, 0, none⟩ = some (.int .i64 key) ∧ w'.cell? ⟨w.heap.size, 1, none⟩ = some (.slice o l.length cap) ∧ w'.cell? ⟨w.heap.size, 2, none⟩ = some (.slice (some ⟨b, off, none⟩) 2 cR) ∧ w'.cell? ⟨b, off, none⟩ = some (.slice o' m0 c')) (first | with_reducible exact ⟨k3_0, k3_1, k3_2, k3_3⟩ | with_reducible exact ⟨k2_0, k2_1, k2_2, k2_3⟩ | with_reducible exact ⟨k1_0, k1_1, k1_2, k1_3⟩ | with_reducible exact ⟨z0, z1, z2, hcu⟩ | go_keep) (first | (go_at_call 66; refine (HKE.out _).mono ?_; rintro e _ ⟨rfl, rfl⟩) | (go_at_call 67; have hc_ := HBO.out ⟨W0.drew, Below.drew (Below.refl _ _)⟩; refine hc_.mono ?_; clear hc_; rintro e x1 ⟨rfl, hb⟩; have hp1 : Below W0.heap.size W0 x1 := (Below.drew (Below.refl _ _)).trans hb; have k1_0 := bC hp1 z0 zz; have k1_1 := bC hp1 z1 zz; have k1_2 := bC hp1 z2 zz; have k1_3 := bC hp1 hcu hbl'; clear hb) | (go_at_call 68; have hc_ := HTB.out x1 hp1; with_reducible refine hc_.mono ?_; clear hc_; rintro e x2 ⟨vT, rfl, ⟨oT, cT, rfl, hT⟩, hb⟩; have hp2 : Below W0.heap.size W0 x2 := hp1.trans (hb.mono hp1.size); have k2_0 := bC hp2 z0 zz; have k2_1 := bC hp2 z1 zz; have k2_2 := bC hp2 z2 zz; have k2_3 := bC hp2 hcu hbl'; clear hb) | (go_at_call 60; have hc_ := HMO.out x2 hp2 oT cT hT; with_reducible refine hc_.mono ?_; clear hc_; rintro e x3 ⟨rfl, hb⟩; have hp3 : Below W0.heap.size W0 x3 := hp2.trans (hb.mono hp2.size); have k3_0 := bC hp3 z0 zz; have k3_1 := bC hp3 z1 zz; have k3_2 := bC hp3 z2 zz; have k3_3 := bC hp3 hcu hbl'; clear hb))
    have HB3 := hide (HB.out.trans (hp3.mono HB.out.size))
    clear k1_0 k1_1 k1_2 k1_3 k2_0 k2_1 k2_2 k2_3 hT hp1 hp2 hp3
    go_wp2
    go_ret
    exact ⟨rfl, HB3.out⟩

set_option maxRecDepth 100000 in
set_option maxHeartbeats 16000000 in
theorem poolOk_3 (key : Int) (o : Option Addr) (cap : Nat) (l : List Bk) (oR : Option Addr) (cR : Nat) (lll : List (List (List Int))) (hnn : 3 = lll.length) (w : World) (hR : RdK w.heap.size w o l) (hG : RiR 0 w.heap.size w (.slice oR 3 cR) lll) (hf : fitPm ⟨key, l, lll⟩) (A : Bool) (hk : keyB key = true) (hbo : backsOkB l = true)
    (hno : keyB key = false ∨ backsOkB l = false ∨ lll.length < 1 ∨ 3 < lll.length ∨ (∃ i, i < lll.length ∧ tabOkB (lll.getD i []) = false) ∨ eqPtB (tabF (lll.getD 0 [])) (newF key l) = false → A = false) (hmv : A = true → movedI (lll.getD 0 []) (newT key l) = 0)
    (hys : keyB key = true → backsOkB l = true → 1 ≤ lll.length → lll.length ≤ 3 → (∀ i, i < lll.length → tabOkB (lll.getD i []) = true) → movedI (lll.getD 0 []) (newT key l) = 0 → A = true) :
    Calls Try.prog 20 #[plv key (.slice o l.length cap) (.slice oR 3 cR)] w fun e w' => e = .returned (.bool A) ∧ Below w.heap.size w w' := by
  have HNN := hide hnn
  obtain ⟨hf1, hf2, hf3, hf4, hf5⟩ := hf
  dsimp only at hf1 hf2 hf3 hf4 hf5
  have HX := hide hf4
  have HY := hide hf5
  have HNO := hide hno
  have HMV := hide hmv
  have HYS := hide hys
  have HK := hide hk
  have HBK := hide hbo
  clear hnn hf4 hf5 hf3 hf2 hno hmv hys hk hbo
  obtain ⟨W0, hW0⟩ : ∃ W, (w.alloc (.cells #[.int .i64 key, .slice o l.length cap, .slice oR 3 cR] 26)) = W := ⟨_, rfl⟩
  have hb_W0 : Below w.heap.size w W0 := by rw [← hW0]; exact ((Below.refl _ _).alloc (Nat.le_refl _) _)
  have HB := hide hb_W0
  clear hb_W0
  have zz : w.heap.size < W0.heap.size := by rw [← hW0]; simp
  have z0 : W0.cell? ⟨w.heap.size, 0, none⟩ = some (.int .i64 key) := by rw [← hW0]; simp [go_sem]
  have z1 : W0.cell? ⟨w.heap.size, 1, none⟩ = some (.slice o l.length cap) := by rw [← hW0]; simp [go_sem]
  have z2 : W0.cell? ⟨w.heap.size, 2, none⟩ = some (.slice oR 3 cR) := by rw [← hW0]; simp [go_sem]
  have HKE := hide (fun W => HK.out ▸ l3key_any key W)
  have HBO := hide (fun p : Grown W0 => HBK.out ▸ specBacksOk_any o cap l p.v ((hR.kept (HB.out.trans (p.b.mono HB.out.size)) (Nat.le_refl _)).le (Nat.le_trans HB.out.size p.b.size)) hf1)
  have HRK := hide hR
  have HG := hide hG
  clear hR hG
  have hw0 := HB.out.size
  have h1n : 1 ≤ 3 := by omega
  have h3n : 3 ≤ 3 := by omega
  have hln0 : 0 < lll.length := by rw [← HNN.out]; omega
  have hl100 := backs_len HBK.out
  obtain ⟨b, off, o', c', rfl, hbl, hcu0, hru0⟩ := HG.out.at (Nat.le_refl _) 0 hln0
  have hcu := bC HB.out hcu0 hbl
  rw [Nat.add_zero] at hcu
  have HRU := hide hru0
  have HX0 := hide (HX.out 0 hln0)
  have HY0 := hide (HY.out 0 hln0)
  have HTB := hide (fun W (hb : Below W0.heap.size W0 W) => l3table_any key o cap l W ((HRK.out.kept (HB.out.trans (hb.mono HB.out.size)) (Nat.le_refl _)).le (Nat.le_trans HB.out.size hb.size)) (by omega) HK.out HBK.out)
  have HMO := hide (fun W (hb : Below W0.heap.size W0 W) oT cT (hT : RdLL W.heap.size W oT (newT key l)) => (newT_len key l) ▸ specMoved_any o' oT c' cT (lll.getD 0 []) (newT key l) W ((HRU.out.kept (HB.out.trans (hb.mono HB.out.size)) (Nat.le_refl _)).le (Nat.le_trans HB.out.size hb.size)) hT HX0.out (by rw [newT_len]; omega) HY0.out (fun i hi => by have := newT_row key l i; omega))
  clear hcu0 hru0
  obtain ⟨m0, hm0⟩ : ∃ m, (lll.getD 0 []).length = m := ⟨_, rfl⟩
  rw [hm0] at hcu HMO
  clear hm0
  obtain ⟨r, hr⟩ : ∃ r, movedI (lll.getD 0 []) (newT key l) = r := ⟨_, rfl⟩
  rw [hr] at HMO HMV HYS
  clear hr
  have hbl' : b < W0.heap.size := by omega
  by_cases hr0 : r = 0
  · subst hr0
    go_enter Try.func20, Try.ntmps20
    go_wp2
    go_region_held3 (fun w' => w'.cell? ⟨w.heap.size, 0, none⟩ = some (.int .i64 key) ∧ w'.cell? ⟨w.heap.size, 1, none⟩ = some (.slice o l.length cap) ∧ w'.cell? ⟨w.heap.size, 2, none⟩ = some (.slice (some ⟨b, off, none⟩) 3 cR) ∧ w'.cell? ⟨b, off, none⟩ = some (.slice o' m0 c')) (first | with_reducible exact ⟨k3_0, k3_1, k3_2, k3_3⟩ | with_reducible exact ⟨k2_0, k2_1, k2_2, k2_3⟩ | with_reducible exact ⟨k1_0, k1_1, k1_2, k1_3⟩ | with_reducible exact ⟨z0, z1, z2, hcu⟩ | go_keep) (first | (go_at_call 66; refine (HKE.out _).mono ?_; rintro e _ ⟨rfl, rfl⟩) | (go_at_call 67; have hc_ := HBO.out ⟨W0.drew, Below.drew (Below.refl _ _)⟩; refine hc_.mono ?_; clear hc_; rintro e x1 ⟨rfl, hb⟩; have hp1 : Below W0.heap.size W0 x1 := (Below.drew (Below.refl _ _)).trans hb; have k1_0 := bC hp1 z0 zz; have k1_1 := bC hp1 z1 zz; have k1_2 := bC hp1 z2 zz; have k1_3 := bC hp1 hcu hbl'; clear hb) | (go_at_call 68; have hc_ := HTB.out x1 hp1; with_reducible refine hc_.mono ?_; clear hc_; rintro e x2 ⟨vT, rfl, ⟨oT, cT, rfl, hT⟩, hb⟩; have hp2 : Below W0.heap.size W0 x2 := hp1.trans (hb.mono hp1.size); have k2_0 := bC hp2 z0 zz; have k2_1 := bC hp2 z1 zz; have k2_2 := bC hp2 z2 zz; have k2_3 := bC hp2 hcu hbl'; clear hb) | (go_at_call 60; have hc_ := HMO.out x2 hp2 oT cT hT; with_reducible refine hc_.mono ?_; clear hc_; rintro e x3 ⟨rfl, hb⟩; have hp3 : Below W0.heap.size W0 x3 := hp2.trans (hb.mono hp2.size); have k3_0 := bC hp3 z0 zz; have k3_1 := bC hp3 z1 zz; have k3_2 := bC hp3 z2 zz; have k3_3 := bC hp3 hcu hbl'; clear hb))
    have HB3 := hide (HB.out.trans (hp3.mono HB.out.size))
    have HZ3 := hide hp3.size
    clear k1_0 k1_1 k1_2 k1_3 k2_0 k2_1 k2_2 k2_3 hT hp1 hp2 hp3
    go_wp2
    go_loopw [3] (fun iv wr => ∃ i : Nat, i ≤ 3 ∧ iv = .int .i64 (i : Int) ∧ Hid (∀ j, j < i → tabOkB (lll.getD j []) = true) ∧ Hid (Below x3.heap.size x3 wr))
              (fun iv _ => 3 - (intOf iv).toNat)
    case atStart => exact ⟨0, Nat.zero_le _, rfl, fun j hj => absurd hj (Nat.not_lt_zero _), Below.refl _ _⟩
    case round =>
          rename World => wo
          obtain ⟨i, hi', rfl, HOK, HBO1⟩ := hrel
          have hx3 : w.heap.size < x3.heap.size := by have := HZ3.out; omega
          have hbx3 : b < x3.heap.size := by have := HZ3.out; omega
          have y2 := bC HBO1.out k3_2 hx3
          have HBW := hide (HB3.out.trans (HBO1.out.mono HB3.out.size))
          have hso := HBO1.out.size
          by_cases hlt : i < 3
          · skip
            have hlt' : (i : Int) < (3 : Int) := by omega
            have hif : i < lll.length := by rw [← HNN.out]; exact hlt
            obtain ⟨b1, off1, o1, c1, e1, hbl1, hcu1, hru1⟩ := HG.out.at (Nat.le_refl _) i hif
            injection e1 with e1
            injection e1 with e2 e3 e4
            subst e2 e3
            clear e4
            have hci := bC HBW.out hcu1 hbl1
            have HRI := hide hru1
            have HYI := hide (HY.out i hif)
            have HNI := hide (fun h => HNO.out (.inr (.inr (.inr (.inr (.inl ⟨i, hif, h⟩))))))
            have hxi := HX.out i hif
            clear hcu1 hru1
            obtain ⟨ll, hll⟩ : ∃ ll, lll.getD i [] = ll := ⟨_, rfl⟩
            rw [hll] at hci HRI HYI HNI hxi
            have HLL := hide hll
            clear hll
            by_cases h8 : ll.length = 8
            · rw [h8] at hci
              have H8 := hide h8
              clear h8 hxi
              have hbo : b < wo.heap.size := by omega
              have hxo : w.heap.size < wo.heap.size := by omega
              go_wp2
              go_loopw [4] (fun kv wr => ∃ k : Nat, k ≤ 8 ∧ kv = .int .i64 (k : Int) ∧ Hid (∀ q, q < k → pairOkB (ll.getD q []) = true) ∧ wo = wr)
                    (fun kv _ => 8 - (intOf kv).toNat)
              case atStart => exact ⟨0, Nat.zero_le _, rfl, fun j hj => absurd hj (Nat.not_lt_zero _), rfl⟩
              case round =>
                obtain ⟨k, hk', rfl, HPK, rfl⟩ := hrel
                by_cases hlk : k < 8
                · skip
                  have hlk' : (k : Int) < 8 := by omega
                  obtain ⟨b2, off2, o9, c9, rfl, hbl2, hc9, hr9⟩ := ((HRI.out.kept HBW.out (Nat.le_refl _)).le HBW.out.size).at (Nat.le_refl _) k (by rw [H8.out]; exact hlk)
                  have HLP := hide (l4pair_any o9 c9 (ll.getD k []) wo hr9 (HYI.out k (by rw [H8.out]; exact hlk)))
                  have HNK := hide (fun h => HNI.out (tabOk_no hlk h))
                  have HPN := hide (fun (h : pairOkB (ll.getD k []) = true) => fun j (hj : j < k + 1) => (show pairOkB (ll.getD j []) = true from (Nat.lt_succ_iff_lt_or_eq.1 hj).elim (fun h' => HPK.out j h') (fun h' => h' ▸ h)))
                  clear hr9
                  obtain ⟨row, hrow⟩ : ∃ r, ll.getD k [] = r := ⟨_, rfl⟩
                  rw [hrow] at hc9 HLP HNK HPN
                  clear hrow
                  obtain ⟨rl, hrl⟩ : ∃ r, row.length = r := ⟨_, rfl⟩
                  rw [hrl] at hc9 HLP
                  clear hrl
                  cases hp : pairOkB row with
                  | false =>
                    have hAf := HNK.out hp
                    rw [hp] at HLP
                    clear HPN HNK HNI HNO HMV HYS
                    subst hAf
                    go_wp2_with fail
                    refine HLP.out.mono ?_
                    rintro e _ ⟨rfl, rfl⟩
                    go_wp2
                    go_ret
                    exact ⟨rfl, HBW.out⟩
                  | true =>
                    have HPP := hide (HPN.out hp)
                    rw [hp] at HLP
                    clear HPN HNK hp
                    go_wp2_with fail
                    refine HLP.out.mono ?_
                    rintro e _ ⟨rfl, rfl⟩
                    go_wp2
                    go_roundw
                    case rel => exact ⟨k + 1, by omega, by go_num, HPP.out, (by first | rfl | trivial)⟩
                    case measure => simp [intOf]; omega
                · skip
                  have e : k = 8 := by omega
                  subst e
                  have HTO := hide (tabOk_yes H8.out HPK.out)
                  go_wp2
                  go_roundw
                  case rel => exact ⟨i + 1, by omega, by go_num, (fun j hj => (Nat.lt_succ_iff_lt_or_eq.1 hj).elim (fun h' => HOK.out j h') (fun h' => by rw [h', HLL.out]; exact HTO.out)), HBO1.out⟩
                  case measure => simp [intOf]; omega
            · have hAf := HNI.out (show tabOkB ll = false by unfold tabOkB; rw [decide_eq_false h8, Bool.false_and])
              have h8' : ((ll.length : Int) == 8) = false := beq_eq_false_iff_ne.2 (by omega)
              have h8n : ((ll.length : Int) != 8) = true := by simp [bne, h8']
              clear HNI HNO HMV HYS
              subst hAf
              have hbo : b < wo.heap.size := by omega
              generalize ll.length = m at *
              go_wp2
              go_ret
              exact ⟨rfl, HBW.out⟩
          · skip
            have e : i = 3 := by omega
            subst e
            have hAt := HYS.out HK.out HBK.out (by show 1 ≤ lll.length; rw [← HNN.out]; exact h1n) (by show lll.length ≤ 3; rw [← HNN.out]; exact h3n) (fun j hj => HOK.out j (by rw [HNN.out]; exact hj)) (by first | rfl | trivial)
            clear HNO HMV HYS
            subst hAt
            go_wp2
            go_ret
            exact ⟨rfl, HBW.out⟩
  · have hAf : A = false := by (cases A with | false => rfl | true => exact absurd (HMV.out rfl) hr0)
    have hr0' : (r == 0) = false := beq_eq_false_iff_ne.2 hr0
    have hr1' : (r != 0) = true := by simp [bne, hr0']
    clear HMV HNO HYS
    subst hAf
    go_enter Try.func20, Try.ntmps20
    go_wp2
    go_region_held3 (fun w' => w'.cell? ⟨w.heap.size, 0, none⟩ = some (.int .i64 key) ∧ w'.cell? ⟨w.heap.size, 1, none⟩ = some (.slice o l.length cap) ∧ w'.cell? ⟨w.heap.size, 2, none⟩ = some (.slice (some ⟨b, off, none⟩) 3 cR) ∧ w'.cell? ⟨b, off, none⟩ = some (.slice o' m0 c')) (first | with_reducible exact ⟨k3_0, k3_1, k3_2, k3_3⟩ | with_reducible exact ⟨k2_0, k2_1, k2_2, k2_3⟩ | with_reducible exact ⟨k1_0, k1_1, k1_2, k1_3⟩ | with_reducible exact ⟨z0, z1, z2, hcu⟩ | go_keep) (first | (go_at_call 66; refine (HKE.out _).mono ?_; rintro e _ ⟨rfl, rfl⟩) | (go_at_call 67; have hc_ := HBO.out ⟨W0.drew, Below.drew (Below.refl _ _)⟩; refine hc_.mono ?_; clear hc_; rintro e x1 ⟨rfl, hb⟩; have hp1 : Below W0.heap.size W0 x1 := (Below.drew (Below.refl _ _)).trans hb; have k1_0 := bC hp1 z0 zz; have k1_1 := bC hp1 z1 zz; have k1_2 := bC hp1 z2 zz; have k1_3 := bC hp1 hcu hbl'; clear hb) | (go_at_call 68; have hc_ := HTB.out x1 hp1; with_reducible refine hc_.mono ?_; clear hc_; rintro e x2 ⟨vT, rfl, ⟨oT, cT, rfl, hT⟩, hb⟩; have hp2 : Below W0.heap.size W0 x2 := hp1.trans (hb.mono hp1.size); have k2_0 := bC hp2 z0 zz; have k2_1 := bC hp2 z1 zz; have k2_2 := bC hp2 z2 zz; have k2_3 := bC hp2 hcu hbl'; clear hb) | (go_at_call 60; have hc_ := HMO.out x2 hp2 oT cT hT; with_reducible refine hc_.mono ?_; clear hc_; rintro e x3 ⟨rfl, hb⟩; have hp3 : Below W0.heap.size W0 x3 := hp2.trans (hb.mono hp2.size); have k3_0 := bC hp3 z0 zz; have k3_1 := bC hp3 z1 zz; have k3_2 := bC hp3 z2 zz; have k3_3 := bC hp3 hcu hbl'; clear hb))
    have HB3 := hide (HB.out.trans (hp3.mono HB.out.size))
    clear k1_0 k1_1 k1_2 k1_3 k2_0 k2_1 k2_2 k2_3 hT hp1 hp2 hp3
    go_wp2
    go_ret
    exact ⟨rfl, HB3.out⟩

set_option maxRecDepth 100000 in
set_option maxHeartbeats 16000000 in
theorem specPoolOk_go (key : Int) (o : Option Addr) (cap : Nat) (l : List Bk) (oR : Option Addr) (cR : Nat) (lll : List (List (List Int))) (n : Nat) (hnn : n = lll.length) (w : World) (hR : RdK w.heap.size w o l) (hG : RiR 0 w.heap.size w (.slice oR n cR) lll) (hf : fitPm ⟨key, l, lll⟩) :
    Calls Try.prog 20 #[plv key (.slice o l.length cap) (.slice oR n cR)] w fun e w' => e = .returned (.bool (poolB ⟨key, l, lll⟩)) ∧ Below w.heap.size w w' := by
  have HNN := hide hnn
  have HFIT := hide hf
  obtain ⟨hf1, hf2, hf3, hf4, hf5⟩ := hf
  dsimp only at hf1 hf2 hf3 hf4 hf5
  rw [← hnn] at hf2
  have HX := hide hf4
  have HY := hide hf5
  clear hnn hf4 hf5 hf3
  have HNO := hide (fun h => poolB_no (m := ⟨key, l, lll⟩) h)
  have HMV := hide (fun h => moved_pool (m := ⟨key, l, lll⟩) h)
  have HYS := hide (fun h1 h2 h3 h4 h5 h6 => pool_rest (m := ⟨key, l, lll⟩) h1 h2 h3 h4 h5 h6)
  obtain ⟨A, hA⟩ : ∃ A, poolB ⟨key, l, lll⟩ = A := ⟨_, rfl⟩
  rw [hA] at HNO HMV HYS ⊢
  dsimp only at HNO HMV HYS
  clear hA
  obtain ⟨W0, hW0⟩ : ∃ W, (w.alloc (.cells #[.int .i64 key, .slice o l.length cap, .slice oR n cR] 26)) = W := ⟨_, rfl⟩
  have hb_W0 : Below w.heap.size w W0 := by rw [← hW0]; exact ((Below.refl _ _).alloc (Nat.le_refl _) _)
  have HB := hide hb_W0
  clear hb_W0
  have zz : w.heap.size < W0.heap.size := by rw [← hW0]; simp
  have z0 : W0.cell? ⟨w.heap.size, 0, none⟩ = some (.int .i64 key) := by rw [← hW0]; simp [go_sem]
  have z1 : W0.cell? ⟨w.heap.size, 1, none⟩ = some (.slice o l.length cap) := by rw [← hW0]; simp [go_sem]
  have z2 : W0.cell? ⟨w.heap.size, 2, none⟩ = some (.slice oR n cR) := by rw [← hW0]; simp [go_sem]
  have G0 := Grown.cell z0 zz
  have G1 := Grown.cell z1 zz
  have G2 := Grown.cell z2 zz
  have HKE := hide (fun W => l3key_any key W)
  have HBO := hide (fun p : Grown W0 => specBacksOk_any o cap l p.v ((hR.kept (HB.out.trans (p.b.mono HB.out.size)) (Nat.le_refl _)).le (Nat.le_trans HB.out.size p.b.size)) hf1)
  have HRK := hide hR
  have HG := hide hG
  clear hR hG
  have hw0 := HB.out.size
  cases hk : keyB key with
  | false =>
    rw [hk] at HKE
    have hAf := HNO.out (.inl hk)
    subst hAf
    go_enter Try.func20, Try.ntmps20
    go_wp2
    (refine wp_region_grown (by kernel_rfl) (by kernel_rfl) ?_; intro hne9; (repeat (go_big_quiet_step (first | (go_at_call 66; exact grown_same _ (HKE.out _)) | (go_at_call 67; exact grown_of _ (HBO.out _))))); (with_reducible refine wpQuiet_nil ?_); intro _ hw9; obtain ⟨pq, hw8⟩ := hw9; subst hw8)
    go_wp2
    go_ret
    exact ⟨rfl, HB.out.trans (pq.b.mono HB.out.size)⟩
  | true =>
    have HK := hide hk
    rw [hk] at HKE
    clear hk
    cases hbo : backsOkB l with
    | false =>
      rw [hbo] at HBO
      have hAf := HNO.out (.inr (.inl hbo))
      subst hAf
      go_enter Try.func20, Try.ntmps20
      go_wp2
      (refine wp_region_grown (by kernel_rfl) (by kernel_rfl) ?_; intro hne9; (repeat (go_big_quiet_step (first | (go_at_call 66; exact grown_same _ (HKE.out _)) | (go_at_call 67; exact grown_of _ (HBO.out _))))); (with_reducible refine wpQuiet_nil ?_); intro _ hw9; obtain ⟨pq, hw8⟩ := hw9; subst hw8)
      go_wp2
      go_ret
      exact ⟨rfl, HB.out.trans (pq.b.mono HB.out.size)⟩
    | true =>
      have HBK := hide hbo
      rw [hbo] at HBO
      clear hbo
      by_cases h1 : (n : Int) < 1
      · skip
        have hAf := HNO.out (.inr (.inr (.inl (show lll.length < 1 by have := HNN.out; omega))))
        subst hAf
        go_enter Try.func20, Try.ntmps20
        go_wp2
        (refine wp_region_grown (by kernel_rfl) (by kernel_rfl) ?_; intro hne9; (repeat (go_big_quiet_step (first | (go_at_call 66; exact grown_same _ (HKE.out _)) | (go_at_call 67; exact grown_of _ (HBO.out _))))); (with_reducible refine wpQuiet_nil ?_); intro _ hw9; obtain ⟨pq, hw8⟩ := hw9; subst hw8)
        go_wp2
        go_ret
        exact ⟨rfl, HB.out.trans (pq.b.mono HB.out.size)⟩
      have hd1 : decide ((n : Int) < 1) = false := decide_eq_false h1
      by_cases h3 : (3 : Int) < (n : Int)
      · skip
        have hAf := HNO.out (.inr (.inr (.inr (.inl (show 3 < lll.length by have := HNN.out; omega)))))
        subst hAf
        go_enter Try.func20, Try.ntmps20
        go_wp2
        (refine wp_region_grown (by kernel_rfl) (by kernel_rfl) ?_; intro hne9; (repeat (go_big_quiet_step (first | (go_at_call 66; exact grown_same _ (HKE.out _)) | (go_at_call 67; exact grown_of _ (HBO.out _))))); (with_reducible refine wpQuiet_nil ?_); intro _ hw9; obtain ⟨pq, hw8⟩ := hw9; subst hw8)
        go_wp2
        go_ret
        exact ⟨rfl, HB.out.trans (pq.b.mono HB.out.size)⟩
      have h1n : 1 ≤ n := by omega
      have h3n : n ≤ 3 := by omega
      have hfit : fitPm ⟨key, l, lll⟩ := HFIT.out
      have hcase : n = 1 ∨ n = 2 ∨ n = 3 := by omega
      rcases hcase with rfl | rfl | rfl
      · exact poolOk_1 key o cap l oR cR lll HNN.out w HRK.out HG.out hfit A HK.out HBK.out HNO.out HMV.out HYS.out
      · exact poolOk_2 key o cap l oR cR lll HNN.out w HRK.out HG.out hfit A HK.out HBK.out HNO.out HMV.out HYS.out
      · exact poolOk_3 key o cap l oR cR lll HNN.out w HRK.out HG.out hfit A HK.out HBK.out HNO.out HMV.out HYS.out

end Go.Proofs.Ytldjaapbkihibaa

/- The program's PoolOk; both by their shape. -/
namespace Go.Proofs.Ytldjaapbkihibaa
open Go.ChangeShapes Go.WideShapes Go.ChangeAt Go.RowKit Go.Joins
set_option linter.unusedVariables false
set_option linter.unusedSimpArgs false


set_option maxRecDepth 100000 in
set_option maxHeartbeats 2000000 in
theorem implPoolOk_go (key : Int) (o : Option Addr) (cap : Nat) (l : List Bk) (oR : Option Addr) (cR : Nat) (lll : List (List (List Int))) (w : World) (hR : RdK w.heap.size w o l) (hG : RiR 0 w.heap.size w (.slice oR lll.length cR) lll) (hf : fitPm ⟨key, l, lll⟩) :
    Calls Try.prog 16 #[plv key (.slice o l.length cap) (.slice oR lll.length cR)] w fun e w' => e = .returned (.bool (poolB ⟨key, l, lll⟩)) ∧ Below w.heap.size w w' := by
  obtain ⟨W0, hW0⟩ : ∃ W, (w.alloc (.cells #[.int .i64 key, .slice o l.length cap, .slice oR lll.length cR] 26)) = W := ⟨_, rfl⟩
  have hb_W0 : Below w.heap.size w W0 := by rw [← hW0]; exact ((Below.refl _ _).alloc (Nat.le_refl _) _)
  have HB := hide hb_W0
  clear hb_W0
  have zz : w.heap.size < W0.heap.size := by rw [← hW0]; simp
  have z0 : W0.cell? ⟨w.heap.size, 0, none⟩ = some (.int .i64 key) := by rw [← hW0]; simp [go_sem]
  have z1 : W0.cell? ⟨w.heap.size, 1, none⟩ = some (.slice o l.length cap) := by rw [← hW0]; simp [go_sem]
  have z2 : W0.cell? ⟨w.heap.size, 2, none⟩ = some (.slice oR lll.length cR) := by rw [← hW0]; simp [go_sem]
  obtain ⟨A, hA⟩ : ∃ A, poolB ⟨key, l, lll⟩ = A := ⟨_, rfl⟩
  rw [hA]
  have HA := hide hA
  clear hA
  have HPF := hide (poolFrom_go key o cap l oR cR lll lll.length rfl W0 ((hR.kept HB.out (Nat.le_refl _)).le HB.out.size) (RiR.mon.go (RiR.stp.go hG (Stp.of (lo := 0) (hi := 0) HB.out) (.inl (Nat.zero_le _))) (Nat.le_refl _) HB.out.size) hf)
  clear hR hG
  go_enter Try.func16, Try.ntmps16
  go_wp2_with fail
  refine HPF.out.mono ?_
  rintro e v1 ⟨vP, rfl, h1, h2, hb⟩
  have HB1 := hide (HB.out.trans (hb.mono HB.out.size))
  clear hb HPF
  dsimp only at h1 h2
  rw [HA.out] at h1 h2 ⊢
  clear HA
  obtain ⟨ky, ob, nb, cb, oq, nq, cq, e9⟩ : ∃ ky ob nb cb oq nq cq, vP = polv ky (.slice ob nb cb) (.slice oq nq cq) := by (cases A with | true => (obtain ⟨o2, c2, e, _⟩ := h1 rfl; exact ⟨_, _, _, _, _, _, _, e⟩) | false => exact ⟨_, _, _, _, _, _, _, h2 rfl⟩)
  subst e9
  clear h1 h2
  go_wp2
  go_ret
  exact ⟨rfl, HB1.out.alloc HB1.out.size _⟩

theorem specPoolOk_sh (v : Value) (m : Pm) (w : World) (hR : RdPm w.heap.size w v m) (hf : fitPm m) :
    Calls Try.prog 20 #[v] w fun e w' => e = .returned (.bool (poolB m)) ∧ Below w.heap.size w w' := by
  obtain ⟨vb, vr, rfl, hb, rr⟩ := hR
  obtain ⟨o, c, rfl, r⟩ := hb.open
  obtain ⟨oR, cR, rfl⟩ := RiR.len rr
  exact specPoolOk_go m.key o c m.l oR cR m.ring m.ring.length rfl w r rr hf

theorem implPoolOk_sh (v : Value) (m : Pm) (w : World) (hR : RdPm w.heap.size w v m) (hf : fitPm m) :
    Calls Try.prog 16 #[v] w fun e w' => e = .returned (.bool (poolB m)) ∧ Below w.heap.size w w' := by
  obtain ⟨vb, vr, rfl, hb, rr⟩ := hR
  obtain ⟨o, c, rfl, r⟩ := hb.open
  obtain ⟨oR, cR, rfl⟩ := RiR.len rr
  exact implPoolOk_go m.key o c m.l oR cR m.ring w r rr hf

end Go.Proofs.Ytldjaapbkihibaa

