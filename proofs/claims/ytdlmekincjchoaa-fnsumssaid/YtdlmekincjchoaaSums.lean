/- For all bytes the law FnSums answers true, and the bytes read as they did: the sum of bytes whose pairs are changed over is the same, and it is sixteen bits. No conditions. -/
import Derived.Test.YtdlmekincjchoaaSDraw2
import Derived.Test.YtdlmekincjchoaaSumMath
import Derived.Test.YtdlmekincjchoaaWires
import Derived.Test.YtdlmekincjchoaaAppL
import Derived.Test.YtdlmekincjchoaaApp
import Derived.Test.YtdlmekincjchoaaAppZ
namespace Go.Proofs.Ytdlmekincjchoaa
open Go.ChangeShapes Go.WideShapes Go.ChangeAt Go.RowKit Go.Joins
set_option linter.unusedVariables false
set_option linter.unusedSimpArgs false

/-- The list with the pairs of its first k fours changed over. -/
def swF (L : List Int) (k i : Nat) : Int := if i < 4 * k then L.getD (if i % 4 < 2 then i + 2 else i - 2) 0 else L.getD i 0
def swL (L : List Int) (k : Nat) : List Int := (List.range L.length).map (swF L k)
theorem swL_length (L : List Int) (k : Nat) : (swL L k).length = L.length := by simp [swL]
theorem swL_get (L : List Int) (k i : Nat) (h : i < L.length) : (swL L k).getD i 0 = swF L k i := by simp [swL, h]
theorem swL_none (L : List Int) (k i : Nat) (h : L.length ≤ i) : (swL L k).getD i 0 = 0 := by simp [swL, h]
theorem swL_zero (L : List Int) : swL L 0 = L := by
  apply List.ext_getElem?
  intro i
  by_cases h : i < L.length
  · simp [swL, swF, h]
  · simp [swL, h]
theorem swL_step (L : List Int) (k : Nat) (h : 4 * k + 3 < L.length) :
    ((((swL L k).set (4 * k) (L.getD (4 * k + 2) 0)).set (4 * k + 1) (L.getD (4 * k + 3) 0)).set (4 * k + 2) (L.getD (4 * k) 0)).set (4 * k + 3) (L.getD (4 * k + 1) 0) = swL L (k + 1) := by
  apply List.ext_getElem?
  intro i
  by_cases hi : i < L.length
  · have e0 : (swL L k)[i]? = some (swF L k i) := by simp [swL, hi]
    have e1 : (swL L (k + 1))[i]? = some (swF L (k + 1) i) := by simp [swL, hi]
    rw [e1]
    simp only [List.getElem?_set, List.length_set, swL_length]
    unfold swF
    by_cases h3 : 4 * k + 3 = i
    · subst h3
      rw [if_pos rfl, if_pos hi, if_pos (by omega), if_neg (by omega), show 4 * k + 3 - 2 = 4 * k + 1 by omega]
    · rw [if_neg h3]
      by_cases h2 : 4 * k + 2 = i
      · subst h2
        rw [if_pos rfl, if_pos hi, if_pos (by omega), if_neg (by omega), show 4 * k + 2 - 2 = 4 * k by omega]
      · rw [if_neg h2]
        by_cases h1 : 4 * k + 1 = i
        · subst h1
          rw [if_pos rfl, if_pos hi, if_pos (by omega), if_pos (by omega)]
        · rw [if_neg h1]
          by_cases h0 : 4 * k = i
          · subst h0
            rw [if_pos rfl, if_pos hi, if_pos (by omega), if_pos (by omega)]
          · rw [if_neg h0, e0]
            by_cases hk : i < 4 * k
            · have hk' : i < 4 * (k + 1) := by omega
              simp only [swF, hk, hk', if_true]
            · have hk' : ¬ i < 4 * (k + 1) := by omega
              simp only [swF, hk, hk', if_false]
  · rw [List.getElem?_eq_none (by simp [swL_length]; omega), List.getElem?_eq_none (by rw [swL_length]; omega)]
theorem getD_isB {L : List Int} (h : isB L) (i : Nat) : 0 ≤ L.getD i 0 ∧ L.getD i 0 ≤ 255 := h.get i
theorem swL_isB {L : List Int} (h : isB L) (k : Nat) : isB (swL L k) := by
  intro n hn
  obtain ⟨i, _, rfl⟩ := List.mem_map.1 hn
  unfold swF
  split <;> exact h.get _
theorem swL_sum {L : List Int} (h : isB L) : checkL (swL L (L.length / 4)) = checkL L := by
  refine checkL_swap h (swL_isB h _) (swL_length _ _) (fun j hj => ?_) (fun i hi => ?_)
  · have hq : 4 * j + 3 < 4 * (L.length / 4) := by omega
    have a0 : swF L (L.length / 4) (4 * j) = L.getD (4 * j + 2) 0 := by unfold swF; rw [if_pos (by omega), if_pos (by omega)]
    have a1 : swF L (L.length / 4) (4 * j + 1) = L.getD (4 * j + 2 + 1) 0 := by unfold swF; rw [if_pos (by omega), if_pos (by omega)]
    have a2 : swF L (L.length / 4) (4 * j + 2) = L.getD (4 * j) 0 := by unfold swF; rw [if_pos (by omega), if_neg (by omega), show 4 * j + 2 - 2 = 4 * j by omega]
    have a3 : swF L (L.length / 4) (4 * j + 2 + 1) = L.getD (4 * j + 1) 0 := by unfold swF; rw [if_pos (by omega), if_neg (by omega), show 4 * j + 2 + 1 - 2 = 4 * j + 1 by omega]
    unfold pairL
    rw [swL_get _ _ _ (by omega), swL_get _ _ _ (by omega), swL_get _ _ _ (by omega), swL_get _ _ _ (by omega), a0, a1, a2, a3]
    exact ⟨rfl, rfl⟩
  · by_cases hl : i < L.length
    · rw [swL_get _ _ _ hl]; unfold swF; rw [if_neg (by omega)]
    · rw [swL_none _ _ _ (by omega)]; simp [List.getElem?_eq_none (Nat.le_of_not_lt hl)]

/-- Four stores into a row of bytes. -/
theorem sw_own {w wr : World} {base g c n : Nat} {L : List Int} {k : Nat} (h : 4 * k + 3 < L.length) (hn : n = L.length) (hown : wr.ownsRow base 5 1 (.slice (some ⟨g, 0, none⟩) n c) n ((swL L k).map (Value.int .u8))) (hb : Below base w wr) (hg : base ≤ g) :
    ((((wr.setCell ⟨g, 4 * k, none⟩ (.int .u8 (L.getD (4 * k + 2) 0))).setCell ⟨g, 4 * k + 1, none⟩ (.int .u8 (L.getD (4 * k + 3) 0))).setCell ⟨g, 4 * k + 2, none⟩ (.int .u8 (L.getD (4 * k) 0))).setCell ⟨g, 4 * k + 3, none⟩ (.int .u8 (L.getD (4 * k + 1) 0))).ownsRow base 5 1 (.slice (some ⟨g, 0, none⟩) n c) n ((swL L (k + 1)).map (Value.int .u8)) ∧
      Below base w ((((wr.setCell ⟨g, 4 * k, none⟩ (.int .u8 (L.getD (4 * k + 2) 0))).setCell ⟨g, 4 * k + 1, none⟩ (.int .u8 (L.getD (4 * k + 3) 0))).setCell ⟨g, 4 * k + 2, none⟩ (.int .u8 (L.getD (4 * k) 0))).setCell ⟨g, 4 * k + 3, none⟩ (.int .u8 (L.getD (4 * k + 1) 0))) := by
  have h4 := ((((hown.stored (4 * k) (.int .u8 (L.getD (4 * k + 2) 0))).1.stored (4 * k + 1) (.int .u8 (L.getD (4 * k + 3) 0))).1.stored (4 * k + 2) (.int .u8 (L.getD (4 * k) 0))).1.stored (4 * k + 3) (.int .u8 (L.getD (4 * k + 1) 0))).1
  rw [← List.map_set, ← List.map_set, ← List.map_set, ← List.map_set, swL_step L k h] at h4
  exact ⟨h4, (((hb.setCell (p := ⟨g, 4 * k, none⟩) hg _).setCell (p := ⟨g, 4 * k + 1, none⟩) hg _).setCell (p := ⟨g, 4 * k + 2, none⟩) hg _).setCell (p := ⟨g, 4 * k + 3, none⟩) hg _⟩

theorem sw_own' {w wr : World} {base g c n q : Nat} {L : List Int} {k : Nat} (hq : q = 4 * k) (h : q + 3 < L.length) (hn : n = L.length) (hown : wr.ownsRow base 5 1 (.slice (some ⟨g, 0, none⟩) n c) n ((swL L k).map (Value.int .u8))) (hb : Below base w wr) (hg : base ≤ g) :
    ((((wr.setCell ⟨g, q, none⟩ (.int .u8 (L.getD (q + 2) 0))).setCell ⟨g, q + 1, none⟩ (.int .u8 (L.getD (q + 3) 0))).setCell ⟨g, q + 2, none⟩ (.int .u8 (L.getD q 0))).setCell ⟨g, q + 3, none⟩ (.int .u8 (L.getD (q + 1) 0))).ownsRow base 5 1 (.slice (some ⟨g, 0, none⟩) n c) n ((swL L (k + 1)).map (Value.int .u8)) ∧
      Below base w ((((wr.setCell ⟨g, q, none⟩ (.int .u8 (L.getD (q + 2) 0))).setCell ⟨g, q + 1, none⟩ (.int .u8 (L.getD (q + 3) 0))).setCell ⟨g, q + 2, none⟩ (.int .u8 (L.getD q 0))).setCell ⟨g, q + 3, none⟩ (.int .u8 (L.getD (q + 1) 0))) := by
  subst hq
  exact sw_own h hn hown hb hg
theorem sw_cell {wr : World} {base g c n q : Nat} {L : List Int} {k : Nat} (hq : q = 4 * k) (hn : n = L.length) (hown : wr.ownsRow base 5 1 (.slice (some ⟨g, 0, none⟩) n c) n ((swL L k).map (Value.int .u8))) (j : Nat) (h : q + j < L.length) : wr.cell? ⟨g, q + j, none⟩ = some (.int .u8 (L.getD (q + j) 0)) := by
  have e := hown.cellAt (q + j) (by omega)
  have e2 : ((swL L k).map (Value.int .u8))[q + j]? = some (.int .u8 (swF L k (q + j))) := by simp [swL, h]
  rw [e, e2]
  unfold swF
  rw [if_neg (by omega)]

set_option maxRecDepth 100000 in
set_option maxHeartbeats 4000000 in
theorem lawSums (o : Option Addr) (cap : Nat) (l : List Int) (w : World) (hm : l.length ≤ maxLen) (hR : Rd w o l) (hB8 : isB l) :
    Calls Try.prog 3 #[.slice o l.length cap] w fun e w' => e = .returned (.bool true) ∧ Below w.heap.size w w' := by
  go_enter Try.func3, Try.ntmps3
  go_wp2_with fail
  refine (drawCheckSum_any o cap l _ hR hB8 hm).mono ?_
  rintro e wa ⟨va, L, rfl, hva, hL, hn, hBa⟩
  obtain ⟨oa, ca, hvae, hRa⟩ := hva.open
  have hna : oa = none → ca = 0 := by
    intro h; subst h; rcases hva.2 with ⟨h1, _⟩ | ⟨g, c, cur, h1, _⟩
    · rw [hvae] at h1; simp at h1; exact h1.2
    · rw [hvae] at h1; simp at h1
  rw [hvae] at hva ⊢
  have HCS := hide (fun (X : List Int) (hX : isB X) (hl : X.length ≤ 30) (hc : checkL X = checkL L) w o cap (h : Rd w o X) => (by
    have := implCheckSum_any o cap X w h hX (by omega)
    rw [sumL, if_neg (by omega), hc] at this
    exact this : Calls Try.prog 12 #[.slice o X.length cap] w fun e w' => e = .returned (.int .i64 (checkL L)) ∧ w = w'))
  have hcl : 0 ≤ checkL L ∧ checkL L ≤ 65535 := by have := sumTo_bd hL ((L.length + 1) / 2); unfold checkL; omega
  have HSW := hide (swL_sum hL)
  have HZ := hide (checkL_zeros hL)
  obtain ⟨n, hcn⟩ : ∃ n, checkL L = n := ⟨_, rfl⟩
  have HC0 := hide hcn
  rw [hcn] at hcl HSW
  simp only [hcn] at HCS HZ
  clear hcn
  clear hvae
  have HBa := hide hBa
  have HRa := hide hRa
  clear hBa hva
  go_wp2_with fail
  refine (HCS.out L hL (by omega) HC0.out _ _ _ hRa).mono ?_
  rintro e wb ⟨rfl, rfl⟩
  have F1 : ownB (wa.alloc (.cells #[] 5)) wa.heap.size (.slice (some ⟨wa.heap.size, 0, none⟩) 0 0) [] := own_none1 wa 5 1
  have bA : Below wa.heap.size wa (wa.alloc (.cells #[] 5)) := (Below.refl _ _).alloc (Nat.le_refl _) _
  go_wp2_with (at_builtin; refine wpList_append_bytes rfl _ _ rfl wa.heap.size _ [] rfl F1 oa ca L rfl hna (hRa.kept bA) ?e5 ?e6 ?_)
  case e5 => simp; omega
  case e6 => simp
  intro vx wx hvx _ hbx
  replace hvx : ownB wx wa.heap.size vx L := hvx
  have hBx := bA.trans hbx
  obtain ⟨ox, cx, hvxe, _⟩ := hvx.open
  subst hvxe
  have hv0 : wx.ownsRow wa.heap.size 5 1 (.slice ox L.length cx) L.length ((swL L 0).map (Value.int .u8)) := by rw [swL_zero]; exact hvx
  clear hvx F1 bA hbx hR hB8 hm
  go_wp2
  go_loopw [6] (fun iv wr => ∃ k q : Nat, Hid (q = 4 * k) ∧ q ≤ L.length ∧ iv = .int .i64 q ∧ wr.ownsRow wa.heap.size 5 1 (.slice ox L.length cx) L.length ((swL L k).map (Value.int .u8)) ∧ Below wa.heap.size wa wr)
    (fun iv _ => L.length - (intOf iv).toNat)
  case atStart => exact ⟨0, 0, rfl, Nat.zero_le _, rfl, hv0, hBx⟩
  case round =>
    obtain ⟨k, q, HQ, hq, rfl, hown, hBr⟩ := hrel
    by_cases hlt : q + 3 < L.length
    · rcases hown.2 with ⟨_, h0⟩ | ⟨g, c', cur, hge, hbg, _⟩
      · omega
      injection hge with h1 _ h3
      subst h1 h3
      have z3 : (q : Int) + 3 < (L.length : Int) := by omega
      have z2 : (q : Int) + 2 < (L.length : Int) := by omega
      have z1 : (q : Int) + 1 < (L.length : Int) := by omega
      have z0 : (q : Int) < (L.length : Int) := by omega
      obtain ⟨y0, hy0⟩ : ∃ y, L.getD q 0 = y := ⟨_, rfl⟩
      obtain ⟨y1, hy1⟩ : ∃ y, L.getD (q + 1) 0 = y := ⟨_, rfl⟩
      obtain ⟨y2, hy2⟩ : ∃ y, L.getD (q + 2) 0 = y := ⟨_, rfl⟩
      obtain ⟨y3, hy3⟩ : ∃ y, L.getD (q + 3) 0 = y := ⟨_, rfl⟩
      have HC : Hid (∀ W : World, W.ownsRow wa.heap.size 5 1 (.slice (some ⟨g, 0, none⟩) L.length cx) L.length ((swL L k).map (Value.int .u8)) → W.cell? ⟨g, q, none⟩ = some (.int .u8 y0) ∧ W.cell? ⟨g, q + 1, none⟩ = some (.int .u8 y1) ∧ W.cell? ⟨g, q + 2, none⟩ = some (.int .u8 y2) ∧ W.cell? ⟨g, q + 3, none⟩ = some (.int .u8 y3)) := fun W h =>
        ⟨hy0 ▸ sw_cell HQ.out rfl h 0 (by omega), hy1 ▸ sw_cell HQ.out rfl h 1 (by omega), hy2 ▸ sw_cell HQ.out rfl h 2 (by omega), hy3 ▸ sw_cell HQ.out rfl h 3 (by omega)⟩
      have HS := hide (fun W (h : W.ownsRow wa.heap.size 5 1 (.slice (some ⟨g, 0, none⟩) L.length cx) L.length ((swL L k).map (Value.int .u8))) (hb : Below wa.heap.size wa W) => sw_own' HQ.out hlt rfl h hb hbg)
      rw [hy0, hy1, hy2, hy3] at HS
      clear hy0 hy1 hy2 hy3
      obtain ⟨c0, c1, c2, c3⟩ := HC.out wr hown
      have HO := hide hown
      have HBr := hide hBr
      clear hown hBr hv0 hBx c2 c3
      go_wp2
      go_quiet (fail)
      clear c0 c1
      have hown : (wr.drewN nq).ownsRow wa.heap.size 5 1 (.slice (some ⟨g, 0, none⟩) L.length cx) L.length ((swL L k).map (Value.int .u8)) := HO.out
      have hBr : Below wa.heap.size wa (wr.drewN nq) := below_drewN HBr.out _
      generalize wr.drewN nq = wq at *
      obtain ⟨c0, c1, c2, c3⟩ := HC.out wq hown
      have f0 := hown.frozenAt q
      have f1 := hown.frozenAt (q + 1)
      have f2 := hown.frozenAt (q + 2)
      have f3 := hown.frozenAt (q + 3)
      have R := hide (HS.out wq hown hBr)
      clear hown hBr HO HBr HC HS
      go_wp2
      go_roundw
      case rel => exact ⟨k + 1, q + 4, by have := HQ.out; show _ = _; omega, by omega, by go_num, R.out.1, R.out.2⟩
      case measure => simp [intOf]; omega
    · have hk : k = L.length / 4 := by have := HQ.out; omega
      subst hk
      have hRx : Rd wr ox (swL L (L.length / 4)) := by
        have h' : ownB wr wa.heap.size (.slice ox L.length cx) (swL L (L.length / 4)) := by unfold ownB; rw [swL_length]; exact hown
        exact h'.rdo
      have HX := hide (HCS.out (swL L (L.length / 4)) (swL_isB hL _) (by rw [swL_length]; omega) HSW.out wr ox cx hRx)
      rw [swL_length] at HX
      have d1 : decide (n < 0) = false := by simp; omega
      have d2 : decide (0 ≤ n) = true := by simp; omega
      have d3 : decide (n < 65536) = true := by simp; omega
      have HBr := hide hBr
      have HQ3 : Hid (¬ (q + 3 < L.length)) := hlt
      have z3 : ¬ ((q : Int) + 3 < (L.length : Int)) := by omega
      clear hBr hown hRx hBx hv0 hlt
      go_wp2_with fail
      refine HX.out.mono ?_
      rintro e _ ⟨rfl, rfl⟩
      have bA : Below wr.heap.size wr (wr.alloc (.cells #[] 5)) := (Below.refl _ _).alloc (Nat.le_refl _) _
      have F1 : ownB (wr.alloc (.cells #[] 5)) wr.heap.size (.slice (some ⟨wr.heap.size, 0, none⟩) 0 0) [] := own_none1 wr 5 1
      have hRr : Rd wr oa L := by
        rcases hRa with h | ⟨b, off, ho, hb, r⟩
        · exact .inl h
        · exact .inr ⟨b, off, ho, Nat.lt_of_lt_of_le hb HBr.out.size, fun i hi => (HBr.out.cell (p := ⟨b, off + i, none⟩) hb).trans (r i hi)⟩
      have HRr := hide hRr
      clear hRr
      go_wp2_with (at_builtin; refine wpList_append_bytes_g (by kernel_rfl) _ _ rfl wr.heap.size _ [] rfl F1 oa ca L rfl hna (HRr.out.kept bA) ?e5 ?e6 ?_)
      case e5 => simp; omega
      case e6 => simp
      intro v1 w1 hv1 hb1
      have HB1 := hide (bA.trans hb1)
      have HV1 : Hid (ownB w1 wr.heap.size v1 L) := hv1
      clear hv1 hb1 bA F1
      have hr0 : 0 ≤ (L.length : Int) % 2 := by omega
      have hr1 : (L.length : Int) % 2 < 2 := by omega
      go_wp2_with (at_builtin; refine wpList_append_zeros_g (by kernel_rfl) _ _ rfl wr.heap.size v1 L rfl HV1.out (L.length % 2 + 2) _ ?e4 rfl ?e5 ?e6 ?e7 ?_)
      case e4 => omega
      case e5 => omega
      case e6 => omega
      case e7 => exact HB1.out.size
      intro v2 w2 hv2 hb2
      have hl2 : (L ++ List.replicate (L.length % 2 + 2) 0).length ≤ 30 := by simp; omega
      have hB2 : isB (L ++ List.replicate (L.length % 2 + 2) 0) := by
        intro x hx
        rcases List.mem_append.1 hx with h | h
        · exact hL x h
        · rw [List.eq_of_mem_replicate h]; decide
      have hz2 := HZ.out (L.length % 2 + 2)
      generalize L ++ List.replicate (L.length % 2 + 2) 0 = X at *
      obtain ⟨o2, c2, hv2e, hR2⟩ := hv2.open
      subst hv2e
      have HB2 := hide (HB1.out.trans hb2)
      have HX2 := hide (HCS.out X hB2 hl2 hz2 w2 o2 c2 hR2)
      have hnil := implCheckSum_any none 0 [] w2 (.inl rfl) (by intro x hx; cases hx) (by decide)
      have hs0 : sumL [] = 65535 := by decide
      rw [hs0] at hnil
      have HN := hide hnil
      clear hv2 hb2 HB1 HV1 hnil hs0 hR2 hB2 hz2 hr0 hr1
      go_wp2_with fail
      refine HX2.out.mono ?_
      rintro e _ ⟨rfl, rfl⟩
      go_wp2_with fail
      refine HN.out.mono ?_
      rintro e _ ⟨rfl, rfl⟩
      go_wp2_with fail
      refine (wires_any _).mono ?_
      rintro e w3 ⟨rfl, hb3⟩
      have HB3 := hide (HBa.out.trans ((HBr.out.trans ((HB2.out.trans (hb3.mono HB2.out.size)).mono HBr.out.size)).mono HBa.out.size))
      go_wp2
      go_ret
      exact ⟨rfl, HB3.out⟩

set_option maxRecDepth 100000 in
theorem fnSums_lifted (os : Os) (started : os.Started) (H : Type) (enc : TypeId × Value → H) :
    ReturnsInHanded {} Try.checked os 3 .any (Rows.fnSumsSpec.pre6 enc Try.prog Try.f3 Rows.fnSumsRow.domain false) (Rows.fnSumsSpec.post enc Try.prog Try.f3 false true false false) := by
  refine returnsInHanded_of_change (C := Try.checked) own started (by kernel_rfl) Try.func3
    (ChangeSpec.witness6 (enc := enc) (C := Try.checked) false ⟨#[], #[.slice none 0 0], []⟩ 8 (by kernel_rfl) (by kernel_rfl) (by kernel_rfl) (by kernel_rfl)) ?_
  intro W base args ds gs before hval0 hW hcnd _
  have hval : ∀ (j : Nat) t v, Try.f3.params[j]? = some t → args[j]? = some v → Value.okWide Try.prog W .any base t v := hval0
  have hW' := hW
  obtain ⟨p, q, hA0, hV, rfl, hfz, hnd⟩ := hW
  have hA : DataW.TrodAll enc Try.prog W 0 (fun _ => true) true Try.f3.params.toList args.toList ds p := hA0
  rw [Try.params3] at hA hval
  obtain ⟨v0, vs0, d0, ds0, p0, q0, hargs, rfl, rfl, h0, r0⟩ := trodAll_cons hA
  obtain ⟨rfl, rfl, rfl⟩ := trodAll_nil r0
  obtain rfl : args = #[v0] := by cases args; simp_all
  obtain ⟨rfl, rfl⟩ := trodVars_none hV
  have k0 := h0
  have lt0 : ∀ x ∈ p0, x.block < W.heap.size := by obtain ⟨m, hm⟩ := k0; exact DataW.trod_lt m _ _ _ hm
  obtain ⟨o0, cap0, l0, rfl, hm0, hR0, hB80⟩ := open_bytes (hval 0 22 v0 rfl rfl) h0
  clear hA0 hval0
  refine (lawSums o0 cap0 l0 W hm0 hR0 hB80 ).mono fun e W' ⟨he, bel⟩ => ?_
  subst he
  exact ⟨_, rfl, _, _, _, [], _, [], hW', trodAll_mk1 (shut_bool Try.underlying4 _), (trodAll_cons_mk (Below.trod laidOut (by kernel_rfl) (of_decide_eq_true (by kernel_rfl)) k0 bel lt0) trodAll_mk0), rfl, bel.frame _, fun h => by cases h⟩

theorem fnSums_over : Rows.fnSumsRow.holds Try.pinned (OpenSpec.ofChange Rows.fnSumsSpec) :=
  OpenClaim.holds_of_wide 3 Try.f3 rfl rfl rfl rfl rfl rfl rfl ⟨rfl, rfl, rfl, rfl, rfl⟩ rfl rfl rfl rfl rfl (by kernel_rfl) Try.func3 (by kernel_rfl)
    (of_decide_eq_true (by kernel_rfl)) (by unfold Func.isWrapper; first | (rw [if_pos (by decide +kernel)]; kernel_rfl) | (rw [if_neg (by decide +kernel)]; exact ⟨rfl, rfl⟩))
    (fun os started H enc _ => fnSums_lifted os started H enc)

theorem fnSums_holds : Rows.FnSumsSaid := fnSums_over

end Go.Proofs.Ytdlmekincjchoaa
