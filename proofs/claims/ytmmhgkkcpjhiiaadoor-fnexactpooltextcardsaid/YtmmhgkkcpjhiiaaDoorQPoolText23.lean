/- Several texts in one: LRing2, LMarkB, ShP, SPl, SPw. -/
import Derived.Deep.RegionHeld3
import Derived.Test.YtmmhgkkcpjhiiaaDoorQPoolText22
import Derived.Test.YtmmhgkkcpjhiiaaDoorQPoolText04
import Derived.Test.YtmmhgkkcpjhiiaaDoorQPoolText19
import Derived.Test.YtmmhgkkcpjhiiaaDoorQPoolText21
/- The laws' own helpers over rows of rows of rows: marks, what is held, sameness. -/
namespace Go.Proofs.YtmmhgkkcpjhiiaaDoor
open Go.ChangeShapes Go.WideShapes Go.ChangeAt Go.RowKit Go.Joins
set_option linter.unusedVariables false
set_option linter.unusedSimpArgs false

set_option maxRecDepth 100000 in
set_option maxHeartbeats 1000000 in
theorem markIntSSS_in (lo hi : Nat) (v : Value) (ll : List (List (List Int))) (k : Int) (w : World) (h : InR lo hi w v ll) (h0 : 0 ≤ k) (h1 : k + (szR ll : Int) ≤ 10000000) (hn : ll.length ≤ 1048576) (hz : szR ll ≤ 1048576) (hx : ∀ i, i < ll.length → (ll.getD i []).length ≤ 1048576) :
  Calls Tryd.prog 43 #[v, .int .i64 k] w fun e w' => e = .returned (.int .i64 (k + (szR ll : Int))) ∧ InR lo hi w' v (mkR k ll) ∧ Stp lo hi w w' := by
 obtain ⟨hs, L, H, i0, i1, i2⟩ := h
 have hl := i1.len
 obtain ⟨o, c, e, r⟩ := InL.rd (L := layH) i0
 subst e
 rw [hl] at i0 i2 ⊢
 have HOUT := hide i2
 have HBD := hide i1.bd
 have I0 := hide i0
 have I1 := hide (show Rw InT [] (mk2To (mkRf k ll) ll [] 0) lo hi w hs L H by rw [mk2To_zero]; exact i1)
 have HL := hide hl
 clear i0 i1 i2 r hl
 go_enter Tryd.func43, Tryd.ntmps43
 go_wp2
 go_loopw [1, 5] (fun m j wr => ∃ i : Nat, i ≤ ll.length ∧ j = .int .i64 (i : Int) ∧ m = .int .i64 (k + (sumN (lenR ll) i : Int)) ∧ Hid (InL layH 71 lo hi wr (.slice o ll.length c) hs) ∧ Hid (Rw InT [] (mk2To (mkRf k ll) ll [] i) lo hi wr hs L H) ∧ Hid (Stp lo hi w wr))
  (fun _ j _ => ll.length - (intOf j).toNat)
 case atStart => exact ⟨0, Nat.zero_le _, rfl, by simp [sumN], I0.out, I1.out, Stp.refl _⟩
 case round =>
  obtain ⟨i, hi', rfl, rfl, HI, HR, HS⟩ := hrel
  clear I0 I1
  have hsm := sumN_le (lenR ll) hi'
  have hsz : sumN (lenR ll) ll.length = szR ll := rfl
  rw [hsz] at hsm
  clear hsz
  by_cases hlt : i < ll.length
  ·obtain ⟨o', c', e', r⟩ := InL.rd (L := layH) HI.out
   injection e' with e1 e2 e3
   rw [← e1] at r
   rcases r with r | ⟨b, off, rfl, hb, r⟩
   ·have := HL.out; rw [r] at this; simp at this; omega
   have hc := RdL.head r i (by rw [HL.out]; exact hlt)
   have hrow := HR.out.row i (by rw [mk2To_len]; exact hlt)
   rw [mk2To_get _ _ _ _ hlt] at hrow
   have hsa := sumN_at (lenR ll) hlt
   rw [show sumN (lenR ll) ll.length = szR ll from rfl] at hsa
   have hsq : szT (ll.getD i []) = lenR ll i := rfl
   have hm := markIntSS_in (L i) (H i) (hv hs i) (ll.getD i []) (k + (sumN (lenR ll) i : Int)) wr hrow (by omega) (by omega) (hx i hlt) (by omega)
   rw [hsq] at hm
   clear hsq
   have HSU := hide (show k + (sumN (lenR ll) i : Int) + (lenR ll i : Int) = k + (sumN (lenR ll) (i + 1) : Int) by rw [show sumN (lenR ll) (i + 1) = sumN (lenR ll) i + lenR ll i from rfl]; omega)
   have HNX := hide (fun w2 (s : Stp (L i) (H i) wr w2) q => Rw.mark InT.stp HR.out (i := i) (by rw [mk2To_len]; exact hlt) s (y := mkRf k ll i) q)
   have HBI := hide (HBD.out i hlt)
   have z1 : (i : Int) < (ll.length : Int) := by omega
   change wr.cell? ⟨b, off + i, none⟩ = some (hv hs i) at hc
   obtain ⟨q, hq⟩ : ∃ q, lenR ll i = q := ⟨_, rfl⟩
   rw [hq] at hm HSU
   have HQ := hide hq
   clear hq
   clear hrow r hsa HR e1 e2 e3
   generalize hv hs i = rv at *
   generalize hst : sumN (lenR ll) i = s0 at *
   have HST := hide hst
   clear hst
   go_wp2_with fail
   refine hm.mono ?_
   rintro e w2 ⟨rfl, ho2, hg2⟩
   have HS2 : Hid (Stp (L i) (H i) wr w2) := hg2
   have HO2 := hide (HNX.out w2 HS2.out (by unfold mkRf; rw [HST.out]; exact ho2))
   have HI2 := hide (InRow.steps HI.out HS2.out (fun g e => HOUT.out i hlt g e))
   clear ho2 hg2 hm hc HNX
   go_wp2
   go_roundw
   case rel => exact ⟨i + 1, by omega, by go_num, by rw [HSU.out], HI2.out, by rw [← mk2To_set]; exact HO2.out, HS.out.trans (HS2.out.wide2 HBI.out.1 HBI.out.2)⟩
   case measure => simp [intOf]; omega
  ·have e : i = ll.length := by omega
   subst e
   go_wp2
   go_ret
   exact ⟨rfl, ⟨hs, L, H, HI.out, by unfold mkR; rw [← mk2To_all]; exact HR.out, by rw [mkR_len]; exact HOUT.out⟩, HS.out⟩

set_option maxRecDepth 100000 in
set_option maxHeartbeats 1000000 in
theorem eqIntSSS_same (v1 v2 : Value) (ll : List (List (List Int))) (w : World) (h1 : RiR 0 w.heap.size w v1 ll) (h2 : RiR 0 w.heap.size w v2 ll) (hl : ll.length ≤ 1048576) (hx : ∀ i, i < ll.length → (ll.getD i []).length ≤ 1048576) (hy : ∀ i, i < ll.length → ∀ j, j < (ll.getD i []).length → ((ll.getD i []).getD j []).length ≤ 1048576) :
  Calls Tryd.prog 41 #[v1, v2] w fun e w' => e = .returned (.bool true) ∧ Below w.heap.size w w' := by
 obtain ⟨o1, c1, e1⟩ : ∃ o c, v1 = .slice o ll.length c := by
  obtain ⟨hs, h0, ⟨o, c, e, _⟩, _⟩ := h1
  exact ⟨o, c, by rw [e, h0]⟩
 obtain ⟨o2, c2, e2⟩ : ∃ o c, v2 = .slice o ll.length c := by
  obtain ⟨hs, h0, ⟨o, c, e, _⟩, _⟩ := h2
  exact ⟨o, c, by rw [e, h0]⟩
 subst e1 e2
 go_enter Tryd.func41, Tryd.ntmps41
 go_wp2
 go_loopw [5] (fun i wr => ∃ k : Nat, k ≤ ll.length ∧ i = .int .i64 (k : Int) ∧ Below w.heap.size w wr)
  (fun i _ => ll.length - (intOf i).toNat)
 case atStart => exact ⟨0, Nat.zero_le _, rfl, Below.refl _ _⟩
 case round =>
  obtain ⟨k, hk, rfl, hBr⟩ := hrel
  by_cases hlt : k < ll.length
  ·obtain ⟨b1, off1, o1', c1', rfl, hb1, hc1, hr1⟩ := (RiR.mon.go (RiR.stp.go h1 (Stp.of (lo := 0) (hi := 0) hBr) (.inl (Nat.zero_le _))) (Nat.le_refl _) hBr.size).at (Nat.le_refl _) k hlt
   obtain ⟨b2, off2, o2', c2', rfl, hb2, hc2, hr2⟩ := (RiR.mon.go (RiR.stp.go h2 (Stp.of (lo := 0) (hi := 0) hBr) (.inl (Nat.zero_le _))) (Nat.le_refl _) hBr.size).at (Nat.le_refl _) k hlt
   have hxk := hx k hlt
   have HYK := hide (hy k hlt)
   have HB := hide hBr
   have G1 := Grown.cell hc1 hb1
   have G2 := Grown.cell hc2 hb2
   have HE := hide (fun p : Grown wr => eqIntSS_same o1' o2' c1' c2' (ll.getD k []) p.v ((hr1.kept p.b (Nat.le_refl _)).le p.b.size) ((hr2.kept p.b (Nat.le_refl _)).le p.b.size) hxk HYK.out)
   clear hBr hr1 hr2 hx hy h1 h2 hc1 hc2 HYK
   have i1 : (k : Int) < (ll.length : Int) := by omega
   generalize ll.getD k [] = row at *
   go_wp2
   (refine wp_region_grown (by kernel_rfl) (by kernel_rfl) ?_; intro hne9; (repeat (go_big_quiet_step ((go_at_call 66; exact grown_of _ (HE.out _))))); (with_reducible refine wpQuiet_nil ?_); intro _ hw9; obtain ⟨pq, hw8⟩ := hw9; subst hw8)
   go_wp2
   go_roundw
   case rel => exact ⟨k + 1, by omega, by go_num, HB.out.trans (pq.b.mono HB.out.size)⟩
   case measure => simp [intOf]; omega
  ·have e : k = ll.length := by omega
   subst e
   go_wp2
   go_ret
   exact ⟨rfl, hBr⟩

end Go.Proofs.YtmmhgkkcpjhiiaaDoor

/- The laws' marks in a row of backs, and what stands there behind them. -/
namespace Go.Proofs.YtmmhgkkcpjhiiaaDoor
open Go.ChangeShapes Go.WideShapes Go.ChangeAt Go.RowKit Go.Joins
set_option linter.unusedVariables false
set_option linter.unusedSimpArgs false

def mkBk (k : Int) : Bk := (k, k + 1, (k + 1 + 1) % 3 == 0)

set_option maxHeartbeats 2000000 in
theorem markBackSm_any (base : Nat) (v : Value) (l : List _) (k : Int) (w : World) (hv : ownL layK 70 w base v l) (h0 : 0 ≤ k) (h1 : k ≤ 1073741824) (hlen : l.length ≤ 1048576) :
  Calls Tryd.prog 42 #[v, .int .i64 k] w fun e w' => e = .returned (.int .i64 (k + 3 * l.length)) ∧ ownL layK 70 w' base v (mkL mkBk 3 k l.length) ∧ w.grownBy w' v.ownBlock := by
 rcases hv.2 with ⟨rfl, h2⟩ | ⟨g, cap, cur, rfl, hg, _⟩
 ·have e : l = [] := List.eq_nil_of_length_eq_zero h2
  subst e
  go_enter Tryd.func42, Tryd.ntmps42
  go_wp2
  refine wp_loop_rounds 1 ?_
  rw [rounds_succ]
  go_wp2
  go_ret
  exact ⟨by simp, by simpa [mkL] using hv, World.grownBy.refl _ _⟩
 ·have hv0 : w.ownsRow base 70 3 (.slice (some ⟨g, 0, none⟩) l.length cap) l.length ((mkTo mkBk 3 l k 0).flatMap layK.cs) := by rw [mkTo_zero]; exact hv
  go_enter Tryd.func42, Tryd.ntmps42
  go_wp2
  go_loopw [1, 5] (fun q j wr => ∃ i : Nat, i ≤ l.length ∧ j = .int .i64 i ∧ q = .int .i64 (k + 3 * (i : Int)) ∧ wr.ownsRow base 70 3 (.slice (some ⟨g, 0, none⟩) l.length cap) l.length ((mkTo mkBk 3 l k i).flatMap layK.cs) ∧ w.grownBy wr (some g))
   (fun _ j _ => l.length - (intOf j).toNat)
  case atStart => exact ⟨0, Nat.zero_le _, rfl, by simp, hv0, World.grownBy.refl _ _⟩
  case round =>
   obtain ⟨i, hi, rfl, rfl, hown, hgr⟩ := hrel
   by_cases hlt : i < l.length
   ·have hxl : ((mkTo mkBk 3 l k i).flatMap layK.cs).length = l.length * 3 := by rw [flat_length, mkTo_length _ _ _ _ _ hi]; rfl
    have E := flat_set3 layK rfl (a := mkBk (k + 3 * (i : Int))) rfl (mkTo mkBk 3 l k i) i
    have E2 := mkTo_set mkBk 3 l k i hlt
    generalize hxs : (mkTo mkBk 3 l k i).flatMap layK.cs = xs at *
    have s1 := grown_set1 (j := i * 3) (u := .int .i64 (k + 3 * (i : Int))) hown hgr
    have s2 := grown_set1 (j := i * 3 + 1) (u := .int .i64 (k + 3 * (i : Int) + 1)) s1.1 s1.2
    have s3 := grown_set1 (j := i * 3 + 2) (u := .bool ((k + 3 * (i : Int) + 1 + 1) % 3 == 0)) s2.1 s2.2
    have f0 := hown.frozenAt (i * 3)
    obtain ⟨q0, hq0⟩ : ∃ z, wr.cell? ⟨g, i * 3, none⟩ = some z := ⟨_, (hown.cellAt (i * 3) (by omega)).trans (List.getElem?_eq_getElem (by (try simp) <;> omega))⟩
    have f1 := s1.1.frozenAt (i * 3 + 1)
    obtain ⟨q1, hq1⟩ : ∃ z, (wr.setCell ⟨g, i * 3, none⟩ (.int .i64 (k + 3 * (i : Int)))).cell? ⟨g, i * 3 + 1, none⟩ = some z := ⟨_, (s1.1.cellAt (i * 3 + 1) (by omega)).trans (List.getElem?_eq_getElem (by (try simp) <;> omega))⟩
    have f2 := s2.1.frozenAt (i * 3 + 2)
    obtain ⟨q2, hq2⟩ : ∃ z, ((wr.setCell ⟨g, i * 3, none⟩ (.int .i64 (k + 3 * (i : Int)))).setCell ⟨g, i * 3 + 1, none⟩ (.int .i64 (k + 3 * (i : Int) + 1))).cell? ⟨g, i * 3 + 2, none⟩ = some z := ⟨_, (s2.1.cellAt (i * 3 + 2) (by omega)).trans (List.getElem?_eq_getElem (by (try simp) <;> omega))⟩
    have S := hide s3
    have HE := hide (E.trans (congrArg (fun z => List.flatMap layK.cs z) E2))
    have z1 : (i : Int) < (l.length : Int) := by omega
    clear s1 s2 s3 hown hgr hv hv0 E E2 hxl
    go_wp2
    go_roundw
    case rel =>
     refine ⟨i + 1, by omega, by go_num, by go_num, ?_, S.out.2⟩
     have h := S.out.1
     rw [← HE.out]
     exact h
    case measure => simp [intOf]; omega
   ·have e : i = l.length := by omega
    subst e
    rw [mkTo_all] at hown
    have HO := hide hown
    clear hown
    go_wp2
    go_ret
    exact ⟨rfl, (by have := HO.out; unfold ownL; rw [mkL_length]; exact this), hgr⟩

end Go.Proofs.YtmmhgkkcpjhiiaaDoor

/- Pools, as a shape: how they read, what owns its memory, and the laws' own helpers over them. -/
namespace Go.Proofs.YtmmhgkkcpjhiiaaDoor
open Go.ChangeShapes Go.WideShapes Go.ChangeAt Go.RowKit Go.Joins
set_option linter.unusedVariables false
set_option linter.unusedSimpArgs false

/-- A pool, as the model has it. -/
structure Pm where
 key : Int
 l : List Bk
 ring : List (List (List Int))
def RiPm (lo hi : Nat) (w : World) (v : Value) (m : Pm) : Prop := ∃ vb vr, v = plv m.key vb vr ∧ RiV layK lo hi w vb m.l ∧ RiR lo hi w vr m.ring
abbrev RdPm (C : Nat) (w : World) (v : Value) (m : Pm) : Prop := RiPm 0 C w v m
def InPm (lo hi : Nat) (w : World) (v : Value) (m : Pm) : Prop := ∃ vb vr mid, v = plv m.key vb vr ∧ lo ≤ mid ∧ mid ≤ hi ∧ InL layK 70 lo mid w vb m.l ∧ InR mid hi w vr m.ring
theorem RiPm.step {a b lo hi : Nat} {w w' : World} {v : Value} {m : Pm} (h : RiPm a b w v m) (s : Stp lo hi w w') (hd : hi ≤ a ∨ b ≤ lo) : RiPm a b w' v m := by
 obtain ⟨vb, vr, e, h1, h2⟩ := h
 exact ⟨vb, vr, e, h1.step s hd, RiR.stp.go h2 s hd⟩
theorem RiPm.mono {a b a' b' : Nat} {w : World} {v : Value} {m : Pm} (h : RiPm a b w v m) (k1 : a' ≤ a) (k2 : b ≤ b') : RiPm a' b' w v m := by
 obtain ⟨vb, vr, e, h1, h2⟩ := h
 exact ⟨vb, vr, e, h1.mono k1 k2, RiR.mon.go h2 k1 k2⟩
theorem RiPm.rd {lo hi : Nat} {w : World} {v : Value} {m : Pm} (h : RiPm lo hi w v m) : RdPm hi w v m := h.mono (Nat.zero_le _) (Nat.le_refl _)
theorem RiPm.le {lo C D : Nat} {w : World} {v : Value} {m : Pm} (h : RiPm lo C w v m) (hc : C ≤ D) : RiPm lo D w v m := h.mono (Nat.le_refl _) hc
theorem RiPm.kept {lo C D : Nat} {w w' : World} {v : Value} {m : Pm} (h : RiPm lo C w v m) (hb : Below D w w') (hc : C ≤ D) : RiPm lo C w' v m :=
 h.step (lo := C) (hi := w.heap.size + C) ⟨hb.os, hb.tape, hb.output, hb.size, fun k hk hn => hb.block k (by omega)⟩ (.inr (Nat.le_refl _))
theorem InPm.step {a b lo hi : Nat} {w w' : World} {v : Value} {m : Pm} (h : InPm a b w v m) (s : Stp lo hi w w') (hd : hi ≤ a ∨ b ≤ lo) : InPm a b w' v m := by
 obtain ⟨vb, vr, mid, e, k1, k2, h1, h2⟩ := h
 exact ⟨vb, vr, mid, e, k1, k2, InRow.step h1 s (by omega), InR.stp.go h2 s (by omega)⟩
theorem InPm.ri {lo hi : Nat} {w : World} {v : Value} {m : Pm} (h : InPm lo hi w v m) : RiPm lo hi w v m := by
 obtain ⟨vb, vr, mid, e, k1, k2, h1, h2⟩ := h
 exact ⟨vb, vr, e, (InRow.ri h1).mono (Nat.le_refl _) k2, RiR.mon.go (InR.ri h2) k1 (Nat.le_refl _)⟩
theorem InPm.rd {lo hi : Nat} {w : World} {v : Value} {m : Pm} (h : InPm lo hi w v m) : RdPm hi w v m := h.ri.rd
theorem RiR.len {lo hi : Nat} {w : World} {v : Value} {lll : List (List (List Int))} (h : RiR lo hi w v lll) : ∃ o c, v = .slice o lll.length c := by
 obtain ⟨hs, h0, ⟨o, c, e, _⟩, _⟩ := h
 exact ⟨o, c, by rw [e, h0]⟩
theorem RiPm.opn {lo hi : Nat} {w : World} {v : Value} {m : Pm} (h : RiPm lo hi w v m) : ∃ (o : Option Addr) (c : Nat) (oR : Option Addr) (cR : Nat), v = plv m.key (.slice o m.l.length c) (.slice oR m.ring.length cR) := by
 obtain ⟨vb, vr, e, ⟨o, c, e1, _⟩, h2⟩ := h
 obtain ⟨oR, cR, e2⟩ := RiR.len h2
 exact ⟨o, c, oR, cR, by rw [e, e1, e2]⟩
theorem InPm.opn {lo hi : Nat} {w : World} {v : Value} {m : Pm} (h : InPm lo hi w v m) : ∃ (o : Option Addr) (c : Nat) (oR : Option Addr) (cR : Nat), v = plv m.key (.slice o m.l.length c) (.slice oR m.ring.length cR) := h.ri.opn
/-- No more than the laws look at. -/
def fitPm (m : Pm) : Prop := m.l.length ≤ 1048576 ∧ m.ring.length ≤ 1048576 ∧ szR m.ring ≤ 1048576 ∧ (∀ i, i < m.ring.length → (m.ring.getD i []).length ≤ 1048576) ∧ ∀ i, i < m.ring.length → ∀ j, j < (m.ring.getD i []).length → ((m.ring.getD i []).getD j []).length ≤ 1048576
/-- How many marks. -/
def nPm (m : Pm) : Int := 3 * (m.l.length : Int) + (szR m.ring : Int)
theorem nPm_bd {m : Pm} (h : fitPm m) : 0 ≤ nPm m ∧ nPm m ≤ 4194304 := by
 obtain ⟨h1, h2, h3, _⟩ := h
 unfold nPm; omega
def mkPm (k : Int) (m : Pm) : Pm := ⟨m.key, mkL mkBk 3 k m.l.length, mkR (k + 3 * (m.l.length : Int)) m.ring⟩

set_option maxRecDepth 100000 in
set_option maxHeartbeats 1000000 in
theorem eqPool_sh (v1 v2 : Value) (m : Pm) (w : World) (h1 : RdPm w.heap.size w v1 m) (h2 : RdPm w.heap.size w v2 m) (hf : fitPm m) :
  Calls Tryd.prog 18 #[v1, v2] w fun e w' => e = .returned (.bool true) ∧ Below w.heap.size w w' := by
 obtain ⟨vb1, vr1, rfl, ⟨o1, c1, rfl, b1⟩, r1⟩ := h1
 obtain ⟨vb2, vr2, rfl, ⟨o2, c2, rfl, b2⟩, r2⟩ := h2
 obtain ⟨oR1, cR1, rfl⟩ := RiR.len r1
 obtain ⟨oR2, cR2, rfl⟩ := RiR.len r2
 obtain ⟨hf1, hf2, hf3, hf4, hf5⟩ := hf
 have HBK := hide (fun W (hb : Below w.heap.size w W) => eqBackS_same o1 o2 c1 c2 m.l W ((b1.rd.kept hb (Nat.le_refl _)).le hb.size) ((b2.rd.kept hb (Nat.le_refl _)).le hb.size) hf1)
 have HRG := hide (fun W (hb : Below w.heap.size w W) => eqIntSSS_same (.slice oR1 m.ring.length cR1) (.slice oR2 m.ring.length cR2) m.ring W (RiR.mon.go (RiR.stp.go r1 (Stp.of (lo := 0) (hi := 0) hb) (.inl (Nat.zero_le _))) (Nat.le_refl _) hb.size) (RiR.mon.go (RiR.stp.go r2 (Stp.of (lo := 0) (hi := 0) hb) (.inl (Nat.zero_le _))) (Nat.le_refl _) hb.size) hf2 hf4 hf5)
 clear b1 b2 r1 r2 hf4 hf5
 obtain ⟨W0, hW0⟩ : ∃ W, ((w.alloc (.cells #[.int .i64 m.key, .slice o1 m.l.length c1, .slice oR1 m.ring.length cR1] 49)).alloc (.cells #[.int .i64 m.key, .slice o2 m.l.length c2, .slice oR2 m.ring.length cR2] 49)) = W := ⟨_, rfl⟩
 have hb_W0 : Below w.heap.size w W0 := by rw [← hW0]; exact (((Below.refl _ _).alloc (Nat.le_refl _) _).alloc (by simp <;> omega) _)
 have HB := hide hb_W0
 clear hb_W0
 have zz : w.heap.size < W0.heap.size := by rw [← hW0]; simp <;> omega
 have z0 : W0.cell? ⟨w.heap.size, 0, none⟩ = some (.int .i64 m.key) := by rw [← hW0]; simp [go_sem]
 have z1 : W0.cell? ⟨w.heap.size, 1, none⟩ = some (.slice o1 m.l.length c1) := by rw [← hW0]; simp [go_sem]
 have z2 : W0.cell? ⟨w.heap.size, 2, none⟩ = some (.slice oR1 m.ring.length cR1) := by rw [← hW0]; simp [go_sem]
 have zu : w.heap.size + 1 < W0.heap.size := by rw [← hW0]; simp
 have u0 : W0.cell? ⟨w.heap.size + 1, 0, none⟩ = some (.int .i64 m.key) := by rw [← hW0]; simp [go_sem]
 have u1 : W0.cell? ⟨w.heap.size + 1, 1, none⟩ = some (.slice o2 m.l.length c2) := by rw [← hW0]; simp [go_sem]
 have u2 : W0.cell? ⟨w.heap.size + 1, 2, none⟩ = some (.slice oR2 m.ring.length cR2) := by rw [← hW0]; simp [go_sem]
 go_enter Tryd.func18, Tryd.ntmps18
 go_wp2_with fail
 refine (HBK.out W0 HB.out).mono ?_
 rintro e v1 ⟨rfl, hb⟩
 replace z0 := bC hb z0 zz
 replace z1 := bC hb z1 zz
 replace z2 := bC hb z2 zz
 replace zz := Nat.lt_of_lt_of_le zz hb.size
 replace u0 := bC hb u0 zu
 replace u1 := bC hb u1 zu
 replace u2 := bC hb u2 zu
 replace zu := Nat.lt_of_lt_of_le zu hb.size
 replace HB := hide (HB.out.trans (hb.mono HB.out.size))
 clear hb
 go_wp2_with fail
 refine (HRG.out v1 HB.out).mono ?_
 rintro e v2 ⟨rfl, hb⟩
 replace z0 := bC hb z0 zz
 replace z1 := bC hb z1 zz
 replace z2 := bC hb z2 zz
 replace zz := Nat.lt_of_lt_of_le zz hb.size
 replace u0 := bC hb u0 zu
 replace u1 := bC hb u1 zu
 replace u2 := bC hb u2 zu
 replace zu := Nat.lt_of_lt_of_le zu hb.size
 replace HB := hide (HB.out.trans (hb.mono HB.out.size))
 clear hb
 go_wp2
 go_ret
 exact ⟨rfl, HB.out⟩

set_option maxRecDepth 100000 in
set_option maxHeartbeats 1000000 in
theorem markPool_sh (lo hi : Nat) (v : Value) (m : Pm) (k : Int) (w : World) (hv : InPm lo hi w v m) (h0 : 0 ≤ k) (h1 : k ≤ 5000000) (hf : fitPm m) :
  Calls Tryd.prog 19 #[v, .int .i64 k] w fun e w' => e = .returned (.int .i64 (k + nPm m)) ∧ InPm lo hi w' v (mkPm k m) ∧ Stp lo hi w w' := by
 obtain ⟨vb, vr, mid, rfl, k1, k2, ib, ir⟩ := hv
 obtain ⟨o, c, e1, _⟩ := InRow.ri ib
 subst e1
 obtain ⟨oR, cR, e2⟩ := RiR.len (InR.ri ir)
 subst e2
 obtain ⟨hf1, hf2, hf3, hf4, hf5⟩ := hf
 obtain ⟨W0, hW0⟩ : ∃ W, (w.alloc (.cells #[.int .i64 m.key, .slice o m.l.length c, .slice oR m.ring.length cR] 49)) = W := ⟨_, rfl⟩
 have hb0 : Below w.heap.size w W0 := by rw [← hW0]; exact (Below.refl _ _).alloc (Nat.le_refl _) _
 have z0 : W0.heap[w.heap.size]? = some (.cells #[.int .i64 m.key, .slice o m.l.length c, .slice oR m.ring.length cR] 49 (0, 0)) := by rw [← hW0]; exact World.alloc_heap_new w _
 have s0 : Hid (Stp lo hi w W0) := Stp.of hb0
 have hhi : Hid (∀ b, (Value.slice o m.l.length c).ownBlock = some b → b < w.heap.size) := fun b e => (ib.1.lt b e).2
 replace ib := InRow.step ib (Stp.of (lo := 0) (hi := 0) hb0) (.inl (Nat.zero_le _))
 replace ir := InR.stp.go ir (Stp.of (lo := 0) (hi := 0) hb0) (.inl (Nat.zero_le _))
 have HM := hide (markBackSm_any lo (.slice o m.l.length c) m.l k W0 ib.1 h0 (by omega) hf1)
 have HB := hide ib.2
 have HLO := hide (fun b e => (ib.1.lt b e).1)
 have HR := hide ir
 have p1 : W0.cell? ⟨w.heap.size, 1, none⟩ = some (.slice o m.l.length c) := bx_cell z0 1 _ rfl
 have p2 : W0.cell? ⟨w.heap.size, 2, none⟩ = some (.slice oR m.ring.length cR) := bx_cell z0 2 _ rfl
 have HZ := hide z0
 clear ib ir hb0 z0
 go_enter Tryd.func19, Tryd.ntmps19
 go_wp2_with fail
 refine HM.out.mono ?_
 rintro e v1 ⟨rfl, hown, hgr⟩
 have s1 : Hid (Stp lo mid W0 v1) := Stp.grown hgr (fun b e => ⟨HLO.out b e, HB.out b e⟩)
 have hz1 : v1.heap[w.heap.size]? = some (.cells #[.int .i64 m.key, .slice o m.l.length c, .slice oR m.ring.length cR] 49 (0, 0)) := (hgr.block _ (Array.getElem?_eq_some_iff.1 HZ.out).1 (fun e => by have := hhi.out _ e.symm; omega)).trans HZ.out
 have HO := hide hown
 have HMR := hide (markIntSSS_in mid hi (.slice oR m.ring.length cR) m.ring (k + 3 * (m.l.length : Int)) v1 (InR.stp.go HR.out s1.out (.inl (Nat.le_refl _))) (by omega) (by omega) hf2 hf3 hf4)
 have q2 : v1.cell? ⟨w.heap.size, 2, none⟩ = some (.slice oR m.ring.length cR) := bx_cell hz1 2 _ rfl
 clear hown hgr p1 p2 hz1 HR hf4 hf5
 go_wp2_with fail
 refine HMR.out.mono ?_
 rintro e v2 ⟨rfl, hir, hsp⟩
 have H : Hid (InPm lo hi v2 (plv m.key (.slice o m.l.length c) (.slice oR m.ring.length cR)) (mkPm k m) ∧ Stp lo hi w v2) := ⟨⟨_, _, mid, rfl, k1, k2, InRow.step ⟨HO.out, HB.out⟩ hsp (.inr (Nat.le_refl _)), hir⟩, s0.out.trans ((s1.out.wide2 (Nat.le_refl _) k2).trans (hsp.wide2 k1 (Nat.le_refl _)))⟩
 have HN := hide (show k + 3 * (m.l.length : Int) + (szR m.ring : Int) = k + nPm m by unfold nPm; omega)
 clear hir hsp HO s0 s1 HMR
 go_wp2
 go_ret
 exact ⟨by rw [HN.out]; rfl, H.out.1, H.out.2⟩

end Go.Proofs.YtmmhgkkcpjhiiaaDoor

/- The program's tables of pairs as lists; the newest table. -/
namespace Go.Proofs.YtmmhgkkcpjhiiaaDoor
open Go.ChangeShapes Go.WideShapes Go.ChangeAt Go.RowKit Go.Joins
set_option linter.unusedVariables false
set_option linter.unusedSimpArgs false

theorem stp_set (w : World) (B j : Nat) (u : Value) : Stp B (B + 1) w (w.setCell ⟨B, j, none⟩ u) := Stp.grown (grown_set w B j u) (fun b e => by injection e with e; omega)

end Go.Proofs.YtmmhgkkcpjhiiaaDoor

/- The program's newest table, and a pool with those who serve. -/
namespace Go.Proofs.YtmmhgkkcpjhiiaaDoor
open Go.ChangeShapes Go.WideShapes Go.ChangeAt Go.RowKit Go.Joins
set_option linter.unusedVariables false
set_option linter.unusedSimpArgs false

def okI (x : Sc) : Prop := 0 ≤ x.1 ∧ x.1 < 6
def okO (p : Option Sc × Option Sc) : Prop := (∀ o, p.1 = some o → okI o) ∧ ∀ o, p.2 = some o → okI o
theorem pickStep_ok {p : Option Sc × Option Sc} {x : Sc} (h : okO p) (hx : okI x) : okO (pickStep p x) := by
 obtain ⟨a, t⟩ := p
 cases a with
 | none => exact ⟨fun o e => by cases e; exact hx, fun o e => by cases e⟩
 | some o =>
  have ho := h.1 o rfl
  unfold pickStep
  dsimp only
  split
  ·exact ⟨fun q e => by cases e; exact hx, fun q e => by cases e; exact ho⟩
  ·cases t with
   | none => exact ⟨fun q e => by cases e; exact ho, fun q e => by cases e; exact hx⟩
   | some u =>
    have hu := h.2 u rfl
    dsimp only
    split
    ·exact ⟨fun q e => by cases e; exact ho, fun q e => by cases e; exact hx⟩
    ·exact ⟨fun q e => by cases e; exact ho, fun q e => by cases e; exact hu⟩
theorem pick_okI : ∀ (l : List Sc) (p : Option Sc × Option Sc), okO p → (∀ x ∈ l, okI x) → okO (l.foldl pickStep p)
 | [], p, h, _ => h
 | x :: l, p, h, hl => pick_okI l (pickStep p x) (pickStep_ok h (hl x (by simp))) (fun y hy => hl y (by simp [hy]))
theorem backs_id {l : List Bk} (h : backsOkB l = true) : ∀ x ∈ l, 0 ≤ x.1 ∧ x.1 < 6 := fun x hx => by
 obtain ⟨i, hi, e⟩ := List.getElem_of_mem hx
 have h1 := backsOkB_iff.1 h i hi
 unfold okAt at h1
 simp only [Bool.and_eq_true] at h1
 have h2 := backB_iff.1 h1.1
 have e2 : l.getD i (0, 0, false) = x := by rw [List.getD_eq_getElem?_getD, List.getElem?_eq_getElem hi, ← e]; rfl
 rw [e2] at h2
 exact ⟨h2.1, h2.2.1⟩
theorem pairI_ok (key b : Int) {l : List Bk} (h : backsOkB l = true) : pairOkB (pairI key b l) = true := by
 unfold pairI
 split
 ·have h1 : okO (pick (scL key b l)) := pick_okI _ (none, none) ⟨fun o e => (nomatch e), fun o e => (nomatch e)⟩ (fun x hx => by
   unfold scL at hx
   simp only [List.mem_map, List.mem_filter] at hx
   obtain ⟨y, ⟨hy, _⟩, rfl⟩ := hx
   exact backs_id h y hy)
  generalize pick (scL key b l) = p at *
  obtain ⟨a, t⟩ := p
  cases a with
  | none => rfl
  | some o =>
   have ho := h1.1 o rfl
   unfold okI at ho
   cases t with
   | none => simp [pairL, pairOkB, idB, ho.1, ho.2]
   | some u =>
    have hu := h1.2 u rfl
    unfold okI at hu
    simp [pairL, pairOkB, idB, ho.1, ho.2, hu.1, hu.2]
 ·rfl
/-- The table of these, as a value. -/
def newF (key : Int) (l : List Bk) : Pt := fun b => ipOf (pairI key b l)
theorem tabOk_new (key : Int) {l : List Bk} (h : backsOkB l = true) : tabOkB (rowsOf (fun b => pairI key b l) 8) = true :=
 tabOk_yes (rowsOf_length _ _) (fun i hi => by rw [rowsOf_get _ _ _ hi]; exact pairI_ok key i h)
theorem tabF_new (key : Int) (l : List Bk) : ptA (tabF (rowsOf (fun b => pairI key b l) 8)) = ptA (newF key l) :=
 ptA_congr (fun i hi => by unfold tabF newF; rw [rowsOf_get _ _ _ hi])
theorem results_pt1 {fn : Func} {p : Tmp} (h : fn.results = #[.cell p 148]) (tmps : Array Value) (w : World) (g : Nat) (f : Pt) (hp : tmps.getD p undef = .pointer (some ⟨g, 0, none⟩)) (hg : w.heap[g]? = some (.cells (ptA f) 148 (0, 0))) :
  (results fn tmps).run Tryd.prog w = .ok (ptv f) w := results_cell_row h tmps w g _ (ptA f) (0, 0) _ hp hg ptU rfl (ptIf f)

set_option maxRecDepth 100000 in
set_option maxHeartbeats 2000000 in
theorem newestTable_any (key : Int) (o : Option Addr) (cap : Nat) (l : List Bk) (w : World) (hR : RdK w.heap.size w o l) (hlen : l.length ≤ 1048576) (hk : keyB key = true) (hl : backsOkB l = true) :
  Calls Tryd.prog 90 #[.int .i64 key, .slice o l.length cap] w fun e w' => e = .returned (ptv (newF key l)) ∧ Below w.heap.size w w' := by
 obtain ⟨W0, hW0⟩ : ∃ W, (w.alloc (.cells #[.bool false, .int .i64 0, .int .i64 0, .bool false, .int .i64 0, .int .i64 0, .bool false, .int .i64 0, .int .i64 0, .bool false, .int .i64 0, .int .i64 0, .bool false, .int .i64 0, .int .i64 0, .bool false, .int .i64 0, .int .i64 0, .bool false, .int .i64 0, .int .i64 0, .bool false, .int .i64 0, .int .i64 0] 148)) = W := ⟨_, rfl⟩
 have hb0 : Below w.heap.size w W0 := by rw [← hW0]; exact (Below.refl _ _).alloc (Nat.le_refl _) _
 have z0 : W0.heap[w.heap.size]? = some (.cells (ptA ptZ) 148 (0, 0)) := by rw [← hW0]; exact World.alloc_heap_new w _
 have HT := hide (implTableOf_any key o cap l W0 ((hR.kept hb0 (Nat.le_refl _)).le hb0.size) hlen)
 have HN := hide (show tabN key l = 8 by rw [tabN, if_pos ⟨hk, hl⟩])
 have HOK := hide (tabOk_new key hl)
 have HF := hide (tabF_new key l)
 have HZ := hide z0
 have HB0 := hide hb0
 clear z0 hb0 hR
 go_enter Tryd.func90, Tryd.ntmps90
 go_wp2_with fail
 refine HT.out.mono ?_
 rintro e v1 ⟨v, rfl, hv, hb1⟩
 obtain ⟨o1, c1, rfl, hr1⟩ := hv.open
 rw [HN.out] at hr1 ⊢
 have hp := pairTableFrom_any o1 c1 (rowsOf (fun b => pairI key b l) 8) v1 hr1 (by rw [rowsOf_length]; omega) (fun i hi => by rw [rowsOf_length] at hi; rw [rowsOf_get _ _ _ hi]; have := pairI_len key i l; omega)
 rw [HOK.out, if_pos rfl, rowsOf_length] at hp
 unfold ptv at hp
 rw [HF.out] at hp
 have HP := hide hp
 have HB1 := hide (HB0.out.trans (hb1.mono HB0.out.size))
 have HZ1 := hide ((hb1.block _ (Array.getElem?_eq_some_iff.1 HZ.out).1).trans HZ.out)
 clear hv hb1 hr1 hp HT
 go_wp2_with fail
 refine HP.out.mono ?_
 rintro e v2 ⟨rfl, hb2⟩
 have HB2 := hide (HB1.out.trans (hb2.mono HB1.out.size))
 have hz2 := (hb2.block _ (Array.getElem?_eq_some_iff.1 HZ1.out).1).trans HZ1.out
 obtain ⟨W3, hW3⟩ : ∃ W, (v2.alloc (.cells #[.bool false, .int .i64 0, .int .i64 0, .bool false, .int .i64 0, .int .i64 0, .bool false, .int .i64 0, .int .i64 0, .bool false, .int .i64 0, .int .i64 0, .bool false, .int .i64 0, .int .i64 0, .bool false, .int .i64 0, .int .i64 0, .bool false, .int .i64 0, .int .i64 0, .bool false, .int .i64 0, .int .i64 0] 148)) = W := ⟨_, rfl⟩
 have z3 : Hid (W3.heap[v2.heap.size]? = some (.cells (ptA ptZ) 148 (0, 0))) := by rw [← hW3]; exact World.alloc_heap_new v2 _
 have z4 : Hid (W3.heap[w.heap.size]? = some (.cells (ptA ptZ) 148 (0, 0))) := by rw [← hW3]; exact (Below.heap_alloc _ _ _ (Array.getElem?_eq_some_iff.1 hz2).1).trans hz2
 have HNE : Hid (w.heap.size ≠ v2.heap.size) := Nat.ne_of_lt (Array.getElem?_eq_some_iff.1 hz2).1
 have HB3 : Hid (Below w.heap.size w W3) := by rw [← hW3]; exact HB2.out.alloc HB2.out.size _
 have hle : w.heap.size ≤ v2.heap.size := HB2.out.size
 clear hb2 hz2 HB2 HP HB1 HZ1 HB0 HZ
 go_wp2_with (first | (refine wpList_store_pt rfl (.tmp 5) (.tmp 12) rfl v2.heap.size (newF key l) ptZ rfl rfl z3.out ?_) | (refine wpList_load_pt rfl (.tmp 5) rfl v2.heap.size rfl (newF key l) (setRow_heap _ _ _ _ _ _ z3.out) ?_) | (refine wpList_store_pt rfl (.tmp 4) (.tmp 14) rfl w.heap.size (newF key l) ptZ rfl rfl ((setRow_other _ _ _ _ HNE.out).trans z4.out) ?_))
 refine bodyPost_ret (results_pt1 rfl _ _ w.heap.size (newF key l) rfl (setRow_heap _ _ _ _ _ _ ((setRow_other _ _ _ _ HNE.out).trans z4.out))) rfl ⟨rfl, below_row (below_row HB3.out hle _) (Nat.le_refl _) _⟩

end Go.Proofs.YtmmhgkkcpjhiiaaDoor

