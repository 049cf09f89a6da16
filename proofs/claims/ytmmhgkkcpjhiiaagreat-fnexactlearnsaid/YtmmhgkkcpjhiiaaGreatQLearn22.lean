/- Several texts in one: LRing2, LMarkB, PlaceMath. -/
import Derived.Deep.RegionHeld3
import Derived.Test.YtmmhgkkcpjhiiaaGreatQLearn21
import Derived.Test.YtmmhgkkcpjhiiaaGreatQLearn08
import Derived.Test.YtmmhgkkcpjhiiaaGreatQLearn04
import Derived.Test.YtmmhgkkcpjhiiaaGreatQLearn10
namespace Go.Proofs.YtmmhgkkcpjhiiaaGreat
open Go.ChangeShapes Go.WideShapes Go.ChangeAt Go.RowKit Go.Joins
set_option linter.unusedVariables false
set_option linter.unusedSimpArgs false

set_option maxRecDepth 100000 in
set_option maxHeartbeats 1000000 in
theorem markIntSSS_in (lo hi : Nat) (v : Value) (ll : List (List (List Int))) (k : Int) (w : World) (h : InR lo hi w v ll) (h0 : 0 ≤ k) (h1 : k + (szR ll : Int) ≤ 10000000) (hn : ll.length ≤ 1048576) (hz : szR ll ≤ 1048576) (hx : ∀ i, i < ll.length → (ll.getD i []).length ≤ 1048576) :
  Calls Tryz.prog 265 #[v, .int .i64 k] w fun e w' => e = .returned (.int .i64 (k + (szR ll : Int))) ∧ InR lo hi w' v (mkR k ll) ∧ Stp lo hi w w' := by
 obtain ⟨hs, L, H, i0, i1, i2⟩ := h
 have hl := i1.len
 obtain ⟨o, c, e, r⟩ := InL.rd (L := layH) i0
 subst e
 rw [hl] at i0 i2 ⊢
 have HOUT := hide i2
 have HBD := hide i1.bd
 have I0 := hide i0
 have I1 := hide (show Rw InT [] (mk2To (mkRf k ll) ll [] 0) lo hi w hs L H by rw [mk2To_zero]; exact i1)
 have HL := hide hl
 clear i0 i1 i2 r hl
 go_enter Tryz.func265, Tryz.ntmps265
 go_wp2
 go_loopw [1, 5] (fun m j wr => ∃ i : Nat, i ≤ ll.length ∧ j = .int .i64 (i : Int) ∧ m = .int .i64 (k + (sumN (lenR ll) i : Int)) ∧ Hid (InL layH 51 lo hi wr (.slice o ll.length c) hs) ∧ Hid (Rw InT [] (mk2To (mkRf k ll) ll [] i) lo hi wr hs L H) ∧ Hid (Stp lo hi w wr))
  (fun _ j _ => ll.length - (intOf j).toNat)
 case atStart => exact ⟨0, Nat.zero_le _, rfl, by simp [sumN], I0.out, I1.out, Stp.refl _⟩
 case round =>
  obtain ⟨i, hi', rfl, rfl, HI, HR, HS⟩ := hrel
  clear I0 I1
  have hsm := sumN_le (lenR ll) hi'
  have hsz : sumN (lenR ll) ll.length = szR ll := rfl
  rw [hsz] at hsm
  clear hsz
  by_cases hlt : i < ll.length
  ·obtain ⟨o', c', e', r⟩ := InL.rd (L := layH) HI.out
   injection e' with e1 e2 e3
   rw [← e1] at r
   rcases r with r | ⟨b, off, rfl, hb, r⟩
   ·have := HL.out; rw [r] at this; simp at this; omega
   have hc := RdL.head r i (by rw [HL.out]; exact hlt)
   have hrow := HR.out.row i (by rw [mk2To_len]; exact hlt)
   rw [mk2To_get _ _ _ _ hlt] at hrow
   have hsa := sumN_at (lenR ll) hlt
   rw [show sumN (lenR ll) ll.length = szR ll from rfl] at hsa
   have hsq : szT (ll.getD i []) = lenR ll i := rfl
   have hm := markIntSS_in (L i) (H i) (hv hs i) (ll.getD i []) (k + (sumN (lenR ll) i : Int)) wr hrow (by omega) (by omega) (hx i hlt) (by omega)
   rw [hsq] at hm
   clear hsq
   have HSU := hide (show k + (sumN (lenR ll) i : Int) + (lenR ll i : Int) = k + (sumN (lenR ll) (i + 1) : Int) by rw [show sumN (lenR ll) (i + 1) = sumN (lenR ll) i + lenR ll i from rfl]; omega)
   have HNX := hide (fun w2 (s : Stp (L i) (H i) wr w2) q => Rw.mark InT.stp HR.out (i := i) (by rw [mk2To_len]; exact hlt) s (y := mkRf k ll i) q)
   have HBI := hide (HBD.out i hlt)
   have z1 : (i : Int) < (ll.length : Int) := by omega
   change wr.cell? ⟨b, off + i, none⟩ = some (hv hs i) at hc
   obtain ⟨q, hq⟩ : ∃ q, lenR ll i = q := ⟨_, rfl⟩
   rw [hq] at hm HSU
   have HQ := hide hq
   clear hq
   clear hrow r hsa HR e1 e2 e3
   generalize hv hs i = rv at *
   generalize hst : sumN (lenR ll) i = s0 at *
   have HST := hide hst
   clear hst
   go_wp2_with fail
   refine hm.mono ?_
   rintro e w2 ⟨rfl, ho2, hg2⟩
   have HS2 : Hid (Stp (L i) (H i) wr w2) := hg2
   have HO2 := hide (HNX.out w2 HS2.out (by unfold mkRf; rw [HST.out]; exact ho2))
   have HI2 := hide (InRow.steps HI.out HS2.out (fun g e => HOUT.out i hlt g e))
   clear ho2 hg2 hm hc HNX
   go_wp2
   go_roundw
   case rel => exact ⟨i + 1, by omega, by go_num, by rw [HSU.out], HI2.out, by rw [← mk2To_set]; exact HO2.out, HS.out.trans (HS2.out.wide2 HBI.out.1 HBI.out.2)⟩
   case measure => simp [intOf]; omega
  ·have e : i = ll.length := by omega
   subst e
   go_wp2
   go_ret
   exact ⟨rfl, ⟨hs, L, H, HI.out, by unfold mkR; rw [← mk2To_all]; exact HR.out, by rw [mkR_len]; exact HOUT.out⟩, HS.out⟩

set_option maxRecDepth 100000 in
set_option maxHeartbeats 1000000 in
theorem heldIntSS_in (v : Value) (ll : List (List Int)) (k : Int) (w : World) (hT : RiT 0 w.heap.size w v (mkT k ll)) (h0 : 0 ≤ k) (h1 : k + (szT ll : Int) ≤ 10000000) (hn : ll.length ≤ 1048576) (hz : szT ll ≤ 1048576) :
  Calls Tryz.prog 348 #[v, .int .i64 k] w fun e w' => e = .returned (.int .i64 (k + (szT ll : Int))) ∧ w = w' := by
 obtain ⟨o, c, e, hR⟩ := RiT.rd hT
 subst e
 rw [mkT_len]
 clear hT
 go_enter Tryz.func348, Tryz.ntmps348
 go_wp2
 go_loop [1, 5] (fun m j => ∃ i : Nat, i ≤ ll.length ∧ j = .int .i64 (i : Int) ∧ m = .int .i64 (k + (sumN (lenT ll) i : Int)))
  (fun _ j => ll.length - (intOf j).toNat)
 case atStart => exact ⟨0, Nat.zero_le _, rfl, by simp [sumN]⟩
 case round =>
  obtain ⟨i, hi', rfl, rfl⟩ := hrel
  have hsm := sumN_le (lenT ll) hi'
  rw [show sumN (lenT ll) ll.length = szT ll from rfl] at hsm
  by_cases hlt : i < ll.length
  ·obtain ⟨b, off, o', c', rfl, hb, hc, hr⟩ := hR.at (Nat.le_refl _) i (by rw [mkT_len]; exact hlt)
   rw [mkT_get _ _ _ hlt] at hc hr
   unfold mkTf at hc hr
   rw [markI_length] at hc
   have hsa := sumN_at (lenT ll) hlt
   rw [show sumN (lenT ll) ll.length = szT ll from rfl] at hsa
   have hh := heldIntS_any o' c' (lenT ll i) w.heap.size (k + (sumN (lenT ll) i : Int)) w hr (by omega) (by omega) (by omega)
   have HS := hide (show k + (sumN (lenT ll) i : Int) + (lenT ll i : Int) = k + (sumN (lenT ll) (i + 1) : Int) by rw [show sumN (lenT ll) (i + 1) = sumN (lenT ll) i + lenT ll i from rfl]; omega)
   have z1 : (i : Int) < (ll.length : Int) := by omega
   clear hr hR
   generalize lenT ll i = q at *
   generalize hst : sumN (lenT ll) i = s0 at *
   clear hst
   go_wp2_with fail
   refine hh.mono ?_
   rintro e w2 ⟨rfl, rfl⟩
   clear hh
   go_wp2
   go_round
   case rel => exact ⟨i + 1, by omega, by go_num, by rw [HS.out]⟩
   case measure => simp [intOf]; omega
  ·have e : i = ll.length := by omega
   subst e
   go_wp2
   go_ret
   exact ⟨rfl, rfl⟩

set_option maxRecDepth 100000 in
set_option maxHeartbeats 1000000 in
theorem heldIntSSS_in (v : Value) (ll : List (List (List Int))) (k : Int) (w : World) (hT : RiR 0 w.heap.size w v (mkR k ll)) (h0 : 0 ≤ k) (h1 : k + (szR ll : Int) ≤ 10000000) (hn : ll.length ≤ 1048576) (hz : szR ll ≤ 1048576) (hx : ∀ i, i < ll.length → (ll.getD i []).length ≤ 1048576) :
  Calls Tryz.prog 269 #[v, .int .i64 k] w fun e w' => e = .returned (.int .i64 (k + (szR ll : Int))) ∧ w = w' := by
 obtain ⟨o, c, e, hle⟩ : ∃ o c, v = .slice o ll.length c ∧ True := by
  obtain ⟨hs, h0, ⟨o, c, e, _⟩, _⟩ := hT
  exact ⟨o, c, by rw [e, h0, mkR_len], trivial⟩
 subst e
 go_enter Tryz.func269, Tryz.ntmps269
 go_wp2
 go_loop [1, 5] (fun m j => ∃ i : Nat, i ≤ ll.length ∧ j = .int .i64 (i : Int) ∧ m = .int .i64 (k + (sumN (lenR ll) i : Int)))
  (fun _ j => ll.length - (intOf j).toNat)
 case atStart => exact ⟨0, Nat.zero_le _, rfl, by simp [sumN]⟩
 case round =>
  obtain ⟨i, hi', rfl, rfl⟩ := hrel
  have hsm := sumN_le (lenR ll) hi'
  rw [show sumN (lenR ll) ll.length = szR ll from rfl] at hsm
  by_cases hlt : i < ll.length
  ·obtain ⟨b, off, o', c', rfl, hb, hc, hr⟩ := hT.at (Nat.le_refl _) i (by rw [mkR_len]; exact hlt)
   rw [mkR_get _ _ _ hlt] at hc hr
   unfold mkRf at hc hr
   have hsa := sumN_at (lenR ll) hlt
   rw [show sumN (lenR ll) ll.length = szR ll from rfl] at hsa
   have hsq : szT (ll.getD i []) = lenR ll i := rfl
   have hh := heldIntSS_in (.slice o' (mkT (k + (sumN (lenR ll) i : Int)) (ll.getD i [])).length c') (ll.getD i []) (k + (sumN (lenR ll) i : Int)) w (RiT.of hr) (by omega) (by omega) (hx i hlt) (by omega)
   rw [hsq] at hh
   have HS := hide (show k + (sumN (lenR ll) i : Int) + (lenR ll i : Int) = k + (sumN (lenR ll) (i + 1) : Int) by rw [show sumN (lenR ll) (i + 1) = sumN (lenR ll) i + lenR ll i from rfl]; omega)
   have z1 : (i : Int) < (ll.length : Int) := by omega
   clear hr hT hsq
   generalize (mkT (k + (sumN (lenR ll) i : Int)) (ll.getD i [])).length = t at *
   generalize lenR ll i = q at *
   generalize hst : sumN (lenR ll) i = s0 at *
   clear hst
   go_wp2_with fail
   refine hh.mono ?_
   rintro e w2 ⟨rfl, rfl⟩
   clear hh
   go_wp2
   go_round
   case rel => exact ⟨i + 1, by omega, by go_num, by rw [HS.out]⟩
   case measure => simp [intOf]; omega
  ·have e : i = ll.length := by omega
   subst e
   go_wp2
   go_ret
   exact ⟨rfl, rfl⟩

set_option maxRecDepth 100000 in
set_option maxHeartbeats 1000000 in
theorem eqIntSSS_same (v1 v2 : Value) (ll : List (List (List Int))) (w : World) (h1 : RiR 0 w.heap.size w v1 ll) (h2 : RiR 0 w.heap.size w v2 ll) (hl : ll.length ≤ 1048576) (hx : ∀ i, i < ll.length → (ll.getD i []).length ≤ 1048576) (hy : ∀ i, i < ll.length → ∀ j, j < (ll.getD i []).length → ((ll.getD i []).getD j []).length ≤ 1048576) :
  Calls Tryz.prog 261 #[v1, v2] w fun e w' => e = .returned (.bool true) ∧ Below w.heap.size w w' := by
 obtain ⟨o1, c1, e1⟩ : ∃ o c, v1 = .slice o ll.length c := by
  obtain ⟨hs, h0, ⟨o, c, e, _⟩, _⟩ := h1
  exact ⟨o, c, by rw [e, h0]⟩
 obtain ⟨o2, c2, e2⟩ : ∃ o c, v2 = .slice o ll.length c := by
  obtain ⟨hs, h0, ⟨o, c, e, _⟩, _⟩ := h2
  exact ⟨o, c, by rw [e, h0]⟩
 subst e1 e2
 go_enter Tryz.func261, Tryz.ntmps261
 go_wp2
 go_loopw [5] (fun i wr => ∃ k : Nat, k ≤ ll.length ∧ i = .int .i64 (k : Int) ∧ Below w.heap.size w wr)
  (fun i _ => ll.length - (intOf i).toNat)
 case atStart => exact ⟨0, Nat.zero_le _, rfl, Below.refl _ _⟩
 case round =>
  obtain ⟨k, hk, rfl, hBr⟩ := hrel
  by_cases hlt : k < ll.length
  ·obtain ⟨b1, off1, o1', c1', rfl, hb1, hc1, hr1⟩ := (RiR.mon.go (RiR.stp.go h1 (Stp.of (lo := 0) (hi := 0) hBr) (.inl (Nat.zero_le _))) (Nat.le_refl _) hBr.size).at (Nat.le_refl _) k hlt
   obtain ⟨b2, off2, o2', c2', rfl, hb2, hc2, hr2⟩ := (RiR.mon.go (RiR.stp.go h2 (Stp.of (lo := 0) (hi := 0) hBr) (.inl (Nat.zero_le _))) (Nat.le_refl _) hBr.size).at (Nat.le_refl _) k hlt
   have hxk := hx k hlt
   have HYK := hide (hy k hlt)
   have HB := hide hBr
   have G1 := Grown.cell hc1 hb1
   have G2 := Grown.cell hc2 hb2
   have HE := hide (fun p : Grown wr => eqIntSS_same o1' o2' c1' c2' (ll.getD k []) p.v ((hr1.kept p.b (Nat.le_refl _)).le p.b.size) ((hr2.kept p.b (Nat.le_refl _)).le p.b.size) hxk HYK.out)
   clear hBr hr1 hr2 hx hy h1 h2 hc1 hc2 HYK
   have i1 : (k : Int) < (ll.length : Int) := by omega
   generalize ll.getD k [] = row at *
   go_wp2
   (refine wp_region_grown (by kernel_rfl) (by kernel_rfl) ?_; intro hne9; (repeat (go_big_quiet_step ((go_at_call 345; exact grown_of _ (HE.out _))))); (with_reducible refine wpQuiet_nil ?_); intro _ hw9; obtain ⟨pq, hw8⟩ := hw9; subst hw8)
   go_wp2
   go_roundw
   case rel => exact ⟨k + 1, by omega, by go_num, HB.out.trans (pq.b.mono HB.out.size)⟩
   case measure => simp [intOf]; omega
  ·have e : k = ll.length := by omega
   subst e
   go_wp2
   go_ret
   exact ⟨rfl, hBr⟩

end Go.Proofs.YtmmhgkkcpjhiiaaGreat

namespace Go.Proofs.YtmmhgkkcpjhiiaaGreat
open Go.ChangeShapes Go.WideShapes Go.ChangeAt Go.RowKit Go.Joins
set_option linter.unusedVariables false
set_option linter.unusedSimpArgs false

def mkBk (k : Int) : Bk := (k, k + 1, (k + 1 + 1) % 3 == 0)

set_option maxHeartbeats 2000000 in
theorem markBackSm_any (base : Nat) (v : Value) (l : List _) (k : Int) (w : World) (hv : ownL layK 178 w base v l) (h0 : 0 ≤ k) (h1 : k ≤ 1073741824) (hlen : l.length ≤ 1048576) :
  Calls Tryz.prog 264 #[v, .int .i64 k] w fun e w' => e = .returned (.int .i64 (k + 3 * l.length)) ∧ ownL layK 178 w' base v (mkL mkBk 3 k l.length) ∧ w.grownBy w' v.ownBlock := by
 rcases hv.2 with ⟨rfl, h2⟩ | ⟨g, cap, cur, rfl, hg, _⟩
 ·have e : l = [] := List.eq_nil_of_length_eq_zero h2
  subst e
  go_enter Tryz.func264, Tryz.ntmps264
  go_wp2
  refine wp_loop_rounds 1 ?_
  rw [rounds_succ]
  go_wp2
  go_ret
  exact ⟨by simp, by simpa [mkL] using hv, World.grownBy.refl _ _⟩
 ·have hv0 : w.ownsRow base 178 3 (.slice (some ⟨g, 0, none⟩) l.length cap) l.length ((mkTo mkBk 3 l k 0).flatMap layK.cs) := by rw [mkTo_zero]; exact hv
  go_enter Tryz.func264, Tryz.ntmps264
  go_wp2
  go_loopw [1, 5] (fun q j wr => ∃ i : Nat, i ≤ l.length ∧ j = .int .i64 i ∧ q = .int .i64 (k + 3 * (i : Int)) ∧ wr.ownsRow base 178 3 (.slice (some ⟨g, 0, none⟩) l.length cap) l.length ((mkTo mkBk 3 l k i).flatMap layK.cs) ∧ w.grownBy wr (some g))
   (fun _ j _ => l.length - (intOf j).toNat)
  case atStart => exact ⟨0, Nat.zero_le _, rfl, by simp, hv0, World.grownBy.refl _ _⟩
  case round =>
   obtain ⟨i, hi, rfl, rfl, hown, hgr⟩ := hrel
   by_cases hlt : i < l.length
   ·have hxl : ((mkTo mkBk 3 l k i).flatMap layK.cs).length = l.length * 3 := by rw [flat_length, mkTo_length _ _ _ _ _ hi]; rfl
    have E := flat_set3 layK rfl (a := mkBk (k + 3 * (i : Int))) rfl (mkTo mkBk 3 l k i) i
    have E2 := mkTo_set mkBk 3 l k i hlt
    generalize hxs : (mkTo mkBk 3 l k i).flatMap layK.cs = xs at *
    have s1 := grown_set1 (j := i * 3) (u := .int .i64 (k + 3 * (i : Int))) hown hgr
    have s2 := grown_set1 (j := i * 3 + 1) (u := .int .i64 (k + 3 * (i : Int) + 1)) s1.1 s1.2
    have s3 := grown_set1 (j := i * 3 + 2) (u := .bool ((k + 3 * (i : Int) + 1 + 1) % 3 == 0)) s2.1 s2.2
    have f0 := hown.frozenAt (i * 3)
    obtain ⟨q0, hq0⟩ : ∃ z, wr.cell? ⟨g, i * 3, none⟩ = some z := ⟨_, (hown.cellAt (i * 3) (by omega)).trans (List.getElem?_eq_getElem (by (try simp) <;> omega))⟩
    have f1 := s1.1.frozenAt (i * 3 + 1)
    obtain ⟨q1, hq1⟩ : ∃ z, (wr.setCell ⟨g, i * 3, none⟩ (.int .i64 (k + 3 * (i : Int)))).cell? ⟨g, i * 3 + 1, none⟩ = some z := ⟨_, (s1.1.cellAt (i * 3 + 1) (by omega)).trans (List.getElem?_eq_getElem (by (try simp) <;> omega))⟩
    have f2 := s2.1.frozenAt (i * 3 + 2)
    obtain ⟨q2, hq2⟩ : ∃ z, ((wr.setCell ⟨g, i * 3, none⟩ (.int .i64 (k + 3 * (i : Int)))).setCell ⟨g, i * 3 + 1, none⟩ (.int .i64 (k + 3 * (i : Int) + 1))).cell? ⟨g, i * 3 + 2, none⟩ = some z := ⟨_, (s2.1.cellAt (i * 3 + 2) (by omega)).trans (List.getElem?_eq_getElem (by (try simp) <;> omega))⟩
    have S := hide s3
    have HE := hide (E.trans (congrArg (fun z => List.flatMap layK.cs z) E2))
    have z1 : (i : Int) < (l.length : Int) := by omega
    clear s1 s2 s3 hown hgr hv hv0 E E2 hxl
    go_wp2
    go_roundw
    case rel =>
     refine ⟨i + 1, by omega, by go_num, by go_num, ?_, S.out.2⟩
     have h := S.out.1
     rw [← HE.out]
     exact h
    case measure => simp [intOf]; omega
   ·have e : i = l.length := by omega
    subst e
    rw [mkTo_all] at hown
    have HO := hide hown
    clear hown
    go_wp2
    go_ret
    exact ⟨rfl, (by have := HO.out; unfold ownL; rw [mkL_length]; exact this), hgr⟩

set_option maxHeartbeats 2000000 in
theorem heldBackSm_any (o : Option Addr) (cap n C : Nat) (k : Int) (w : World) (hR : RdL layK C w o (mkL mkBk 3 k n)) (h0 : 0 ≤ k) (h1 : k ≤ 1073741824) (hlen : n ≤ 1048576) :
  Calls Tryz.prog 268 #[.slice o n cap, .int .i64 k] w fun e w' => e = .returned (.int .i64 (k + 3 * n)) ∧ w = w' := by
 go_enter Tryz.func268, Tryz.ntmps268
 go_wp2
 go_loop [1, 5] (fun q j => ∃ i : Nat, i ≤ n ∧ j = .int .i64 i ∧ q = .int .i64 (k + 3 * (i : Int)))
  (fun _ j => n - (intOf j).toNat)
 case atStart => exact ⟨0, Nat.zero_le _, rfl, by simp⟩
 case round =>
  obtain ⟨i, hi, rfl, rfl⟩ := hrel
  by_cases hlt : i < n
  ·rcases hR with hR | ⟨b, off, rfl, hbl, hcell⟩
   ·have := mkL_length mkBk 3 k n; rw [hR] at this; simp at this; omega
   have hc := hcell i (by rw [mkL_length]; exact hlt)
   rw [mkL_get _ _ _ _ _ _ hlt] at hc
   have c0 : w.cell? ⟨b, off + i * 3, none⟩ = some (.int .i64 (k + 3 * (i : Int))) := hc 0 (by decide)
   have c1 : w.cell? ⟨b, off + i * 3 + 1, none⟩ = some (.int .i64 (k + 3 * (i : Int) + 1)) := hc 1 (by decide)
   have c2 : w.cell? ⟨b, off + i * 3 + 2, none⟩ = some (.bool ((k + 3 * (i : Int) + 1 + 1) % 3 == 0)) := hc 2 (by decide)
   clear hcell hc
   go_wp2
   go_round
   case rel => exact ⟨i + 1, by omega, by go_num, by go_num⟩
   case measure => simp [intOf]; omega
  ·have e : i = n := by omega
   subst e
   go_wp2
   go_ret
   exact ⟨rfl, rfl⟩

end Go.Proofs.YtmmhgkkcpjhiiaaGreat

namespace Go.Proofs.YtmmhgkkcpjhiiaaGreat
open Go.ChangeShapes Go.WideShapes Go.ChangeAt Go.RowKit Go.Joins
set_option linter.unusedVariables false
set_option linter.unusedSimpArgs false

def placeN (l : List Bk) (id : Int) : Nat := (l.takeWhile (fun b => decide (b.1 < id))).length
theorem placeN_le (l : List Bk) (id : Int) : placeN l id ≤ l.length := by
 unfold placeN; exact (List.takeWhile_sublist _).length_le
theorem placeN_lt : ∀ (l : List Bk) (id : Int) (k : Nat), k < placeN l id → (l.getD k (0, 0, false)).1 < id
 | [], id, k, h => by simp [placeN] at h
 | b :: l, id, k, h => by
  unfold placeN at h
  rw [List.takeWhile_cons] at h
  by_cases hb : b.1 < id
  ·simp [hb] at h
   cases k with
   | zero => simpa using hb
   | succ k => simpa using placeN_lt l id k (by unfold placeN; omega)
  ·simp [hb] at h
theorem placeN_at : ∀ (l : List Bk) (id : Int), placeN l id < l.length → ¬ (l.getD (placeN l id) (0, 0, false)).1 < id
 | [], id, h => by simp at h
 | b :: l, id, h => by
  by_cases hb : b.1 < id
  ·have e : placeN (b :: l) id = placeN l id + 1 := by unfold placeN; rw [List.takeWhile_cons]; simp [hb]
   rw [e] at h ⊢
   simpa using placeN_at l id (by simpa using h)
  ·have e : placeN (b :: l) id = 0 := by unfold placeN; rw [List.takeWhile_cons]; simp [hb]
   rw [e]
   simpa using hb
theorem placeN_eq {l : List Bk} {id : Int} {k : Nat} (hk : k ≤ l.length) (h1 : ∀ j, j < k → (l.getD j (0, 0, false)).1 < id) (h2 : k = l.length ∨ ¬ (l.getD k (0, 0, false)).1 < id) : placeN l id = k := by
 rcases Nat.lt_trichotomy (placeN l id) k with h | h | h
 ·exact absurd (h1 _ h) (placeN_at l id (by omega))
 ·exact h
 ·have := placeN_lt l id k h
  have := placeN_le l id
  rcases h2 with h2 | h2
  ·omega
  ·exact absurd ‹_› h2
def thereB (l : List Bk) (id : Int) : Bool := decide (placeN l id < l.length) && ((l.getD (placeN l id) (0, 0, false)).1 == id)

def doL (l : List Bk) (k i g : Int) : Option (List Bk) :=
 if thereB l i = (k == 0) then none
 else some (
  if k = 0 then l.take (placeN l i) ++ (i, g, false) :: l.drop (placeN l i)
  else if k = 1 then l.set (placeN l i) (i, g, (l.getD (placeN l i) (0, 0, false)).2.2)
  else if k = 2 then l.set (placeN l i) (i, (l.getD (placeN l i) (0, 0, false)).2.1, true)
  else l.take (placeN l i) ++ l.drop (placeN l i + 1))

set_option maxHeartbeats 2000000 in
theorem placeOf_any (o : Option Addr) (cap : Nat) (l : List Bk) (id : Int) (w : World) (hR : RdK w.heap.size w o l) (hl : l.length ≤ 1048576) :
  Calls Tryz.prog 333 #[.slice o l.length cap, .int .i64 id] w fun e w' => e = .returned (.tuple #[.int .i64 (placeN l id), .bool (thereB l id)]) ∧ Below w.heap.size w w' := by
 go_enter Tryz.func333, Tryz.ntmps333
 go_wp2
 go_loop [6] (fun av => ∃ k : Nat, k ≤ l.length ∧ av = .int .i64 k ∧ Hid (∀ j, j < k → (l.getD j (0, 0, false)).1 < id))
  (fun av => l.length - (intOf av).toNat)
 case atStart => exact ⟨0, Nat.zero_le _, rfl, fun j hj => absurd hj (Nat.not_lt_zero _)⟩
 case round =>
  obtain ⟨k, hk, rfl, HJ⟩ := hrel
  by_cases hlt : k < l.length
  ·rcases hR with hR | ⟨b, off, rfl, hbl, hcell⟩
   ·subst hR; simp at hlt
   obtain ⟨x, y, z, hxy⟩ : ∃ x y z, l.getD k (0, 0, false) = (x, y, z) := ⟨_, _, _, rfl⟩
   have hcx := (RdL.back (C := w.heap.size) hcell k hlt).1
   rw [hxy] at hcx
   dsimp only at hcx
   have z1 : (k : Int) < (l.length : Int) := by omega
   by_cases hx : x < id
   ·have HJ2 : Hid (∀ j, j < k + 1 → (l.getD j (0, 0, false)).1 < id) := fun j hj => by
     rcases Nat.lt_succ_iff_lt_or_eq.1 hj with h | h
     ·exact HJ.out j h
     ·rw [h, hxy]; exact hx
    clear hxy hcell
    go_wp2
    go_round
    case rel => exact ⟨k + 1, by omega, by go_num, HJ2⟩
    case measure => simp [intOf]; omega
   ·have hp : placeN l id = k := placeN_eq (Nat.le_of_lt hlt) HJ.out (.inr (by rw [hxy]; exact hx))
    have HT := hide (show thereB l id = (x == id) by unfold thereB; rw [hp, hxy]; simp [hlt])
    have HP := hide hp
    have G0 := Grown.cell hcx hbl
    clear hxy hcell hp HJ
    go_wp2
    (refine wp_region_grown (by kernel_rfl) (by kernel_rfl) ?_; intro hne9; (repeat (go_big_quiet_step ((fail)))); (with_reducible refine wpQuiet_nil ?_); intro _ hw9; obtain ⟨pq, hw8⟩ := hw9; subst hw8)
    have HB := hide pq.b
    go_wp2
    go_ret2
    exact ⟨by rw [HP.out, HT.out]; rfl, HB.out⟩
  ·have e : k = l.length := by omega
   have hp : placeN l id = l.length := placeN_eq (Nat.le_refl _) (e ▸ HJ.out) (.inl rfl)
   have HT := hide (show thereB l id = false by unfold thereB; rw [hp]; simp)
   have HP := hide hp
   subst e
   clear hp HJ
   go_wp2
   (refine wp_region_grown (by kernel_rfl) (by kernel_rfl) ?_; intro hne9; (repeat (go_big_quiet_step ((fail)))); (with_reducible refine wpQuiet_nil ?_); intro _ hw9; obtain ⟨pq, hw8⟩ := hw9; subst hw8)
   have HB := hide pq.b
   go_wp2
   go_ret2
   exact ⟨by rw [HP.out, HT.out]; rfl, HB.out⟩

end Go.Proofs.YtmmhgkkcpjhiiaaGreat

