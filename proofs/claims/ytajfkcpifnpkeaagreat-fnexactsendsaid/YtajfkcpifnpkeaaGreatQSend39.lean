/- Several texts in one: LSegs, LBytes, Boxes, SPacket, LPacket, LCarr, SOpens, SCarr, SRouteS, SCan2, SRouteI, NoteMath, BalMath, OpenP, ShBal2, ShBal3, BalIn, SRouteOf. -/
import Derived.Deep.RegionHeld3
import Derived.Test.YtajfkcpifnpkeaaGreatQSend29
import Derived.Test.YtajfkcpifnpkeaaGreatQSend02
import Derived.Test.YtajfkcpifnpkeaaGreatQSend14
import Derived.Test.YtajfkcpifnpkeaaGreatQSend15
import Derived.Test.YtajfkcpifnpkeaaGreatQSend06
import Derived.Test.YtajfkcpifnpkeaaGreatQSend38
import Derived.Test.YtajfkcpifnpkeaaGreatQSend37
import Derived.Test.YtajfkcpifnpkeaaGreatQSend28
import Derived.Test.YtajfkcpifnpkeaaGreatQSend27
import Derived.Test.YtajfkcpifnpkeaaGreatQSend35
import Derived.Test.YtajfkcpifnpkeaaGreatQSend34
/- Contracts of the laws' own helpers over slices of segs: szSegS, toSegS, eqSegS. -/
namespace Go.Proofs.YtajfkcpifnpkeaaGreat
open Go.ChangeShapes Go.WideShapes Go.ChangeAt Go.RowKit Go.Joins
set_option linter.unusedVariables false
set_option linter.unusedSimpArgs false

set_option maxHeartbeats 1000000 in
theorem eqSegS_same (o1 o2 : Option Addr) (c1 c2 : Nat) (l : List (Int × Int)) (w : World) (h1 : RdG w o1 l) (h2 : RdG w o2 l) (hl : l.length ≤ 1048576) :
  Calls Tryz.prog 25 #[.slice o1 l.length c1, .slice o2 l.length c2] w fun e w' => e = .returned (.bool true) ∧ Below w.heap.size w w' := by
 go_enter Tryz.func25, Tryz.ntmps25
 go_wp2
 go_loopw [5] (fun i wr => ∃ k : Nat, k ≤ l.length ∧ i = .int .i64 k ∧ Below w.heap.size w wr)
  (fun i _ => l.length - (intOf i).toNat)
 case atStart => exact ⟨0, Nat.zero_le _, rfl, Below.refl _ _⟩
 case round =>
  obtain ⟨k, hk, rfl, hBr⟩ := hrel
  by_cases hlt : k < l.length
  ·rcases h1 with h1 | ⟨b1, off1, rfl, hb1, hcell1⟩
   ·subst h1; simp at hlt
   rcases h2 with h2 | ⟨b2, off2, rfl, hb2, hcell2⟩
   ·subst h2; simp at hlt
   have p0 : wr.cell? ⟨b1, off1 + k * 2, none⟩ = some (.int .i64 (l.getD k (0, 0)).1) := (hBr.cell (p := ⟨b1, off1 + k * 2, none⟩) hb1).trans (hcell1 k hlt).1
   have p1 : wr.cell? ⟨b1, off1 + k * 2 + 1, none⟩ = some (.int .i64 (l.getD k (0, 0)).2) := (hBr.cell (p := ⟨b1, off1 + k * 2 + 1, none⟩) hb1).trans (hcell1 k hlt).2
   have q0 : wr.cell? ⟨b2, off2 + k * 2, none⟩ = some (.int .i64 (l.getD k (0, 0)).1) := (hBr.cell (p := ⟨b2, off2 + k * 2, none⟩) hb2).trans (hcell2 k hlt).1
   have q1 : wr.cell? ⟨b2, off2 + k * 2 + 1, none⟩ = some (.int .i64 (l.getD k (0, 0)).2) := (hBr.cell (p := ⟨b2, off2 + k * 2 + 1, none⟩) hb2).trans (hcell2 k hlt).2
   have HB := hide hBr
   have hsr := hide hBr.size
   clear hcell1 hcell2 hBr
   have i1 : (k : Int) < (l.length : Int) := by omega
   generalize (l.getD k (0, 0)).1 = x at *
   generalize (l.getD k (0, 0)).2 = y at *
   go_wp2
   go_region_held3 (fun w' => w'.cell? ⟨b1, off1 + k * 2, none⟩ = some (.int .i64 x) ∧ w'.cell? ⟨b1, off1 + k * 2 + 1, none⟩ = some (.int .i64 y) ∧ w'.cell? ⟨b2, off2 + k * 2, none⟩ = some (.int .i64 x) ∧ w'.cell? ⟨b2, off2 + k * 2 + 1, none⟩ = some (.int .i64 y)) (first | exact ⟨p0, p1, q0, q1⟩) (first | (go_at_call 76; refine (eqSeg_same _ _ _).mono ?_; rintro e w2 ⟨rfl, hb2'⟩; replace hb2' : Below wr.heap.size wr w2 := (Below.drew (Below.refl _ _)).trans hb2'; have p0 := (hb2'.cell (p := ⟨b1, off1 + k * 2, none⟩) (Nat.lt_of_lt_of_le hb1 hsr.out)).trans p0; have p1 := (hb2'.cell (p := ⟨b1, off1 + k * 2 + 1, none⟩) (Nat.lt_of_lt_of_le hb1 hsr.out)).trans p1; have q0 := (hb2'.cell (p := ⟨b2, off2 + k * 2, none⟩) (Nat.lt_of_lt_of_le hb2 hsr.out)).trans q0; have q1 := (hb2'.cell (p := ⟨b2, off2 + k * 2 + 1, none⟩) (Nat.lt_of_lt_of_le hb2 hsr.out)).trans q1))
   go_wp2
   go_roundw
   case rel => exact ⟨k + 1, by omega, by go_num, HB.out.trans (hb2'.mono HB.out.size)⟩
   case measure => simp [intOf]; omega
  ·have e : k = l.length := by omega
   subst e
   go_wp2
   go_ret
   exact ⟨rfl, hBr⟩

end Go.Proofs.YtajfkcpifnpkeaaGreat

/- Contracts of the laws' own helpers over bytes: szByteS, toByteS, eqByteS. -/
namespace Go.Proofs.YtajfkcpifnpkeaaGreat
open Go.ChangeShapes Go.WideShapes Go.ChangeAt Go.RowKit Go.Joins
set_option linter.unusedVariables false
set_option linter.unusedSimpArgs false

def fillTo (l : List Int) (k : Nat) : List Int := l.take k ++ List.replicate (l.length - k) 0
theorem fillTo_length (l : List Int) (k : Nat) (h : k ≤ l.length) : (fillTo l k).length = l.length := by simp [fillTo]; omega
theorem fillTo_zero (l : List Int) : fillTo l 0 = List.replicate l.length 0 := by simp [fillTo]
theorem fillTo_all (l : List Int) : fillTo l l.length = l := by simp [fillTo]
theorem fillTo_set (l : List Int) (k : Nat) (h : k < l.length) : ((fillTo l k).map (Value.int .u8)).set k (.int .u8 (l.getD k 0)) = (fillTo l (k + 1)).map (Value.int .u8) := by
 rw [← List.map_set]
 congr 1
 have e1 : l.length - k = (l.length - (k + 1)) + 1 := by omega
 have e2 : (l.take k).length = k := by simp; omega
 unfold fillTo
 rw [e1, List.replicate_succ, List.set_append_right _ _ (by omega), e2, Nat.sub_self, List.set_cons_zero, List.take_succ_eq_append_getElem h]
 have e3 : l.getD k 0 = l[k] := by simp [h]
 rw [e3, List.append_assoc]
 rfl

/-- The row that is filled, at its (k+1)st store. -/
theorem fill_step {w wr : World} {g : Nat} {l : List Int} {k : Nat} (hk : k < l.length) (hg : w.heap.size ≤ g) (hown : wr.ownsRow w.heap.size 5 1 (.slice (some ⟨g, 0, none⟩) l.length l.length) l.length ((fillTo l k).map (Value.int .u8)))
  (hB : Below w.heap.size w wr) : (wr.setCell ⟨g, k, none⟩ (.int .u8 (l.getD k 0))).ownsRow w.heap.size 5 1 (.slice (some ⟨g, 0, none⟩) l.length l.length) l.length ((fillTo l (k + 1)).map (Value.int .u8)) ∧
   Below w.heap.size w (wr.setCell ⟨g, k, none⟩ (.int .u8 (l.getD k 0))) := by
 have h := (hown.stored k (.int .u8 (l.getD k 0))).1
 rw [fillTo_set l k hk] at h
 exact ⟨h, hB.setCell hg _⟩

set_option maxHeartbeats 400000 in
theorem szByteS_any (o : Option Addr) (len cap : Nat) (n : Int) (w : World) (hl : len ≤ maxLen) (h0 : 0 ≤ n) (h1 : n ≤ 1048576) :
  Calls Tryz.prog 70 #[.slice o len cap, .int .i64 n] w fun e w' => e = .returned (.int .i64 (if n - len < 0 then -1 else n - len)) ∧ w = w' := by
 unfold maxLen at hl
 by_cases h : n - len < 0
 ·rw [if_pos h]
  go_enter Tryz.func70, Tryz.ntmps70
  go_wp2
  go_ret
  exact ⟨rfl, rfl⟩
 ·rw [if_neg h]
  go_enter Tryz.func70, Tryz.ntmps70
  go_wp2
  go_ret
  exact ⟨rfl, rfl⟩

set_option maxHeartbeats 1000000 in
theorem toByteS_any (o : Option Addr) (cap : Nat) (l : List Int) (w : World) (hR : Rd w o l) (hB8 : isB l) (hlen : l.length ≤ 1048576) :
  Calls Tryz.prog 73 #[.slice o l.length cap] w fun e w' => ∃ g, e = .returned (.slice (some ⟨g, 0, none⟩) l.length l.length) ∧ ownB w' w.heap.size (.slice (some ⟨g, 0, none⟩) l.length l.length) l ∧ Below w.heap.size w w' := by
 obtain ⟨i0, hi, hz0, hz1, hz2⟩ := info_parts infoU8
 have hB : Below w.heap.size w w := Below.refl _ _
 go_enter Tryz.func73, Tryz.ntmps73
 go_wp2_with (at_make; refine wpList_make_full _ rfl _ _ 60 rfl w.heap.size 5 i0 (.int .u8 0) 1 Tryz.underlying60 hi hz0 hz1 _ _ _ _ l.length rfl rfl rfl rfl ?b2 ?b3 ?b4 ?_)
 case b2 => rw [hz2]; omega
 case b3 => unfold maxLen; omega
 case b4 => simp
 intro w1 hown hgrow
 have hB1 : Below w.heap.size w w1 := hB.grown hgrow (Nat.le_refl _) (fun k h => by cases h)
 have hown1 : w1.ownsRow w.heap.size 5 1 (.slice (some ⟨w.heap.size, 0, none⟩) l.length l.length) l.length ((fillTo l 0).map (Value.int .u8)) := by
  rw [fillTo_zero]; simpa [toList_madeCells_one, Value.cells] using hown
 clear hown hgrow hB
 go_wp2
 go_loopw [4] (fun i wr => ∃ k : Nat, k ≤ l.length ∧ i = .int .i64 k ∧ wr.ownsRow w.heap.size 5 1 (.slice (some ⟨w.heap.size, 0, none⟩) l.length l.length) l.length ((fillTo l k).map (Value.int .u8)) ∧ Below w.heap.size w wr)
  (fun i _ => l.length - (intOf i).toNat)
 case atStart => exact ⟨0, Nat.zero_le _, rfl, hown1, hB1⟩
 case round =>
  obtain ⟨k, hk, rfl, hown, hBr⟩ := hrel
  by_cases hlt : k < l.length
  ·rcases hR with hR | ⟨b, off, rfl, hbl, hcell⟩
   ·subst hR; simp at hlt
   have hc : wr.cell? ⟨b, off + k, none⟩ = some (.int .u8 (l.getD k 0)) := (hBr.cell (p := ⟨b, off + k, none⟩) hbl).trans (hcell k hlt)
   have hcl := hown.cellAt k (by omega)
   have hfr := hown.frozenAt k
   obtain ⟨u, hu⟩ : ∃ u, wr.cell? ⟨w.heap.size, k, none⟩ = some u := ⟨_, hcl.trans (List.getElem?_eq_getElem (by simp [fillTo_length l k hk]; omega))⟩
   have R := fill_step (g := w.heap.size) hlt (Nat.le_refl _) hown hBr
   have HR := hide R
   clear R hown hBr hcl hB1 hown1
   generalize hx : l.getD k 0 = x at *
   go_wp2
   go_roundw
   case rel => exact ⟨k + 1, by omega, by go_num, HR.out.1, HR.out.2⟩
   case measure => simp [intOf]; omega
  ·have e : k = l.length := by omega
   subst e
   rw [fillTo_all] at hown
   go_wp2
   go_ret
   exact ⟨w.heap.size, rfl, hown, hBr⟩

set_option maxHeartbeats 1000000 in
theorem eqByteS_any (o1 o2 : Option Addr) (c1 c2 : Nat) (l1 l2 : List Int) (w : World) (h1 : Rd w o1 l1) (h2 : Rd w o2 l2) (hl1 : l1.length ≤ 1048576) (hl2 : l2.length ≤ 1048576) :
  Calls Tryz.prog 78 #[.slice o1 l1.length c1, .slice o2 l2.length c2] w fun e w' => e = .returned (.bool (decide (l1 = l2))) ∧ Below w.heap.size w w' := by
 by_cases hlen : l1.length = l2.length
 ·have hne : ((l1.length : Int) != (l2.length : Int)) = false := by simp [hlen]
  have HL := hide hlen
  have hle : l1.length ≤ l2.length := by omega
  have hge : l2.length ≤ l1.length := by omega
  clear hlen
  go_enter Tryz.func78, Tryz.ntmps78
  go_wp2
  go_loopw [5] (fun i wr => ∃ k : Nat, k ≤ l1.length ∧ i = .int .i64 k ∧ l1.take k = l2.take k ∧ Below w.heap.size w wr)
   (fun i _ => l1.length - (intOf i).toNat)
  case atStart => exact ⟨0, Nat.zero_le _, rfl, rfl, Below.refl _ _⟩
  case round =>
   obtain ⟨k, hk, rfl, htk, hBr⟩ := hrel
   have HT := hide htk
   by_cases hlt : k < l1.length
   ·rcases h1 with h1 | ⟨b1, off1, rfl, hb1, hcell1⟩
    ·subst h1; simp at hlt
    rcases h2 with h2 | ⟨b2, off2, rfl, hb2, hcell2⟩
    ·subst h2; simp at hle; simp [hle] at hlt
    have hlt2 : k < l2.length := by omega
    have hc1 : wr.cell? ⟨b1, off1 + k, none⟩ = some (.int .u8 (l1.getD k 0)) := (hBr.cell (p := ⟨b1, off1 + k, none⟩) hb1).trans (hcell1 k hlt)
    have hc2 : wr.cell? ⟨b2, off2 + k, none⟩ = some (.int .u8 (l2.getD k 0)) := (hBr.cell (p := ⟨b2, off2 + k, none⟩) hb2).trans (hcell2 k (by omega))
    have HB := hide hBr
    have t1 := hide (take_succ_getD l1 k hlt)
    have t2 := hide (take_succ_getD l2 k hlt2)
    have n12 : l1 = l2 → l1.getD k 0 = l2.getD k 0 := fun h => by rw [h]
    have N12 := hide n12
    clear n12 hcell1 hcell2
    have i1 : (k : Int) < (l1.length : Int) := by omega
    have i2 : (k : Int) < (l2.length : Int) := by omega
    generalize l1.getD k 0 = x at *
    generalize l2.getD k 0 = y at *
    clear htk hBr
    by_cases hxy : x = y
    ·have hb : (x != y) = false := by simp [hxy]
     have HX := hide hxy
     clear hxy N12
     go_wp2
     go_quiet (fail)
     go_wp2
     go_roundw
     case rel =>
      refine ⟨k + 1, by omega, by go_num, ?_, ?_⟩
      ·rw [t1.out, t2.out, HT.out, HX.out]
      ·exact below_drewN HB.out _
     case measure => simp [intOf]; omega
    ·have hb : (x != y) = true := by simp [hxy]
     have HX : Hid (l1 ≠ l2) := fun h => hxy (N12.out h)
     clear hxy N12 t1 t2
     go_wp2
     go_quiet (fail)
     go_wp2
     go_ret
     exact ⟨ret_bool (decide_eq_false HX.out).symm, below_drewN HB.out _⟩
   ·have e : l1 = l2 := by
     have := htk; rw [List.take_of_length_le (by omega), List.take_of_length_le (by omega)] at this; exact this
    have HE := hide e
    have HB := hide hBr
    clear e htk hBr
    go_wp2
    go_ret
    exact ⟨ret_bool (decide_eq_true HE.out).symm, HB.out⟩
 ·have hne : ((l1.length : Int) != (l2.length : Int)) = true := by simp; omega
  have HE : Hid (l1 ≠ l2) := fun h => hlen (by rw [h])
  go_enter Tryz.func78, Tryz.ntmps78
  go_wp2
  go_ret
  exact ⟨ret_bool (decide_eq_false HE.out).symm, Below.refl _ _⟩

theorem eqByteS_same (o1 o2 : Option Addr) (c1 c2 : Nat) (l : List Int) (w : World) (h1 : Rd w o1 l) (h2 : Rd w o2 l) (hl : l.length ≤ 1048576) :
  Calls Tryz.prog 78 #[.slice o1 l.length c1, .slice o2 l.length c2] w fun e w' => e = .returned (.bool true) ∧ Below w.heap.size w w' := by
 have := eqByteS_any o1 o2 c1 c2 l l w h1 h2 hl hl
 simpa using this

end Go.Proofs.YtajfkcpifnpkeaaGreat

/- The boxes of packets. -/
namespace Go.Proofs.YtajfkcpifnpkeaaGreat
open Go.ChangeShapes Go.WideShapes Go.ChangeAt Go.RowKit Go.Joins
set_option linter.unusedVariables false
set_option linter.unusedSimpArgs false

abbrev pkt (a b f s : Int) (v : Value) : Value := .agg #[.int .i64 a, .int .i64 b, .int .i64 f, .int .i64 s, v]

/-- The cells of a packet's box that are read. -/
def boxed (k : Nat) (a b f s : Int) (v : Value) (w : World) : Prop :=
 w.cell? ⟨k, 0, none⟩ = some (.int .i64 a) ∧ w.cell? ⟨k, 1, none⟩ = some (.int .i64 b) ∧ w.cell? ⟨k, 2, none⟩ = some (.int .i64 f) ∧ w.cell? ⟨k, 3, none⟩ = some (.int .i64 s) ∧ w.cell? ⟨k, 4, none⟩ = some v
theorem boxed.kept {k : Nat} {a b f s : Int} {v : Value} {w w' : World} {B : Nat} (h : boxed k a b f s v w) (hb : Below B w w') (hk : k < B) : boxed k a b f s v w' :=
 ⟨(hb.cell (p := ⟨k, 0, none⟩) hk).trans h.1, (hb.cell (p := ⟨k, 1, none⟩) hk).trans h.2.1, (hb.cell (p := ⟨k, 2, none⟩) hk).trans h.2.2.1, (hb.cell (p := ⟨k, 3, none⟩) hk).trans h.2.2.2.1, (hb.cell (p := ⟨k, 4, none⟩) hk).trans h.2.2.2.2⟩
/-- The box of a result that is not yet written. -/
def empty5 (k : Nat) (w : World) : Prop := boxed k 0 0 0 0 (.slice none 0 0) w ∧ (w.frozen? ⟨k, 0, none⟩ = false ∧ w.frozen? ⟨k, 1, none⟩ = false ∧ w.frozen? ⟨k, 2, none⟩ = false ∧ w.frozen? ⟨k, 3, none⟩ = false ∧ w.frozen? ⟨k, 4, none⟩ = false)
theorem empty5.kept {k : Nat} {w w' : World} {B : Nat} (h : empty5 k w) (hb : Below B w w') (hk : k < B) : empty5 k w' :=
 ⟨h.1.kept hb hk, (hb.frozen (p := ⟨k, 0, none⟩) hk).trans h.2.1, (hb.frozen (p := ⟨k, 1, none⟩) hk).trans h.2.2.1, (hb.frozen (p := ⟨k, 2, none⟩) hk).trans h.2.2.2.1, (hb.frozen (p := ⟨k, 3, none⟩) hk).trans h.2.2.2.2.1, (hb.frozen (p := ⟨k, 4, none⟩) hk).trans h.2.2.2.2.2⟩
theorem empty5_new (w : World) (e : TypeId) : empty5 w.heap.size (w.alloc (.cells #[.int .i64 0, .int .i64 0, .int .i64 0, .int .i64 0, .slice none 0 0] e)) := by
 unfold empty5 boxed; simp

end Go.Proofs.YtajfkcpifnpkeaaGreat

/- Contracts of PacketOk, on both sides. -/
namespace Go.Proofs.YtajfkcpifnpkeaaGreat
open Go.ChangeShapes Go.WideShapes Go.ChangeAt Go.RowKit Go.Joins
set_option linter.unusedVariables false
set_option linter.unusedSimpArgs false

def packetOkB (a b f s : Int) (n : Nat) : Bool :=
 flowOkB a b && decide (0 ≤ f) && decide (f < 16) && decide (0 ≤ s) && decide (s < 65536) && decide ((n : Int) ≤ 16) && (bits .and .i64 f 1 == 0 || bits .and .i64 f 12 == 0)

theorem packetOkB_iff {a b f s : Int} {n : Nat} : packetOkB a b f s n = true ↔ flowOkB a b = true ∧ 0 ≤ f ∧ f < 16 ∧ 0 ≤ s ∧ s < 65536 ∧ (n : Int) ≤ 16 ∧ (bits .and .i64 f 1 = 0 ∨ bits .and .i64 f 12 = 0) := by
 simp [packetOkB, and_assoc]
theorem packetOkB_yes {a b f s : Int} {n : Nat} (h1 : flowOkB a b = true) (h2 : 0 ≤ f) (h3 : f < 16) (h4 : 0 ≤ s) (h5 : s < 65536) (h6 : (n : Int) ≤ 16) : packetOkB a b f s n = (bits .and .i64 f 1 == 0 || bits .and .i64 f 12 == 0) := by
 simp [packetOkB, h1, h2, h3, h4, h5, h6]


set_option maxHeartbeats 400000 in
theorem specPacketOk_any (a b f s : Int) (o : Option Addr) (len cap : Nat) (w : World) (hl : len ≤ maxLen) :
  Calls Tryz.prog 71 #[pkt a b f s (.slice o len cap)] w fun e w' => e = .returned (.bool (packetOkB a b f s len)) ∧ Below w.heap.size w w' := by
 have hB : Below w.heap.size w w := Below.refl _ _
 by_cases h1 : flowOkB a b = true
 ·by_cases h2 : 0 ≤ f
  ·by_cases h3 : f < 16
   ·by_cases h4 : 0 ≤ s
    ·by_cases h5 : s < 65536
     ·by_cases h6 : (len : Int) ≤ 16
      ·by_cases h7 : bits .and .i64 f 1 = 0
       ·have HY := hide (show true = packetOkB a b f s len by rw [packetOkB_yes h1 h2 h3 h4 h5 h6]; simp [h7])
        go_enter Tryz.func71, Tryz.ntmps71
        go_wp2_with (first | (go_at_call 86; refine (specFlowOk_any _ _ _).mono ?_; rintro e w1 ⟨rfl, hb⟩; obtain ⟨hc, hf⟩ := bcell hb; have hz0 : w.heap.size < w1.heap.size := (by have hz := hb.size; (try simp at hz); omega); have hB : Below w.heap.size w w1 := (by refine Below.trans ?_ (hb.mono (by have hs := hB.size; (try simp) <;> omega)); (repeat (first | with_reducible exact hB | with_reducible exact Below.refl _ _ | with_reducible refine Below.drew ?_ | with_reducible refine below_drewN ?_ _ | with_reducible refine Below.alloc ?_ ?_ _ | with_reducible refine Below.setCell ?_ ?_ _ | (focus (simp; done)) | (focus (simp; omega)) | omega)))))
        go_ret
        exact ⟨ret_bool HY.out, by (repeat (first | with_reducible exact hB | with_reducible exact Below.refl _ _ | with_reducible refine Below.drew ?_ | with_reducible refine below_drewN ?_ _ | with_reducible refine Below.alloc ?_ ?_ _ | with_reducible refine Below.setCell ?_ ?_ _ | (focus (simp; done)) | (focus (simp; omega)) | omega))⟩
       ·have HY := hide (packetOkB_yes (a := a) (b := b) (f := f) (s := s) (n := len) h1 h2 h3 h4 h5 h6).symm
        go_enter Tryz.func71, Tryz.ntmps71
        go_wp2_with (first | (go_at_call 86; refine (specFlowOk_any _ _ _).mono ?_; rintro e w1 ⟨rfl, hb⟩; obtain ⟨hc, hf⟩ := bcell hb; have hz0 : w.heap.size < w1.heap.size := (by have hz := hb.size; (try simp at hz); omega); have hB : Below w.heap.size w w1 := (by refine Below.trans ?_ (hb.mono (by have hs := hB.size; (try simp) <;> omega)); (repeat (first | with_reducible exact hB | with_reducible exact Below.refl _ _ | with_reducible refine Below.drew ?_ | with_reducible refine below_drewN ?_ _ | with_reducible refine Below.alloc ?_ ?_ _ | with_reducible refine Below.setCell ?_ ?_ _ | (focus (simp; done)) | (focus (simp; omega)) | omega)))))
        go_ret
        exact ⟨ret_bool HY.out, by (repeat (first | with_reducible exact hB | with_reducible exact Below.refl _ _ | with_reducible refine Below.drew ?_ | with_reducible refine below_drewN ?_ _ | with_reducible refine Below.alloc ?_ ?_ _ | with_reducible refine Below.setCell ?_ ?_ _ | (focus (simp; done)) | (focus (simp; omega)) | omega))⟩
      ·have HN := hide (bool_no (packetOkB_iff (a := a) (b := b) (f := f) (s := s) (n := len)) (fun q => h6 q.2.2.2.2.2.1))
       go_enter Tryz.func71, Tryz.ntmps71
       go_wp2_with (first | (go_at_call 86; refine (specFlowOk_any _ _ _).mono ?_; rintro e w1 ⟨rfl, hb⟩; obtain ⟨hc, hf⟩ := bcell hb; have hz0 : w.heap.size < w1.heap.size := (by have hz := hb.size; (try simp at hz); omega); have hB : Below w.heap.size w w1 := (by refine Below.trans ?_ (hb.mono (by have hs := hB.size; (try simp) <;> omega)); (repeat (first | with_reducible exact hB | with_reducible exact Below.refl _ _ | with_reducible refine Below.drew ?_ | with_reducible refine below_drewN ?_ _ | with_reducible refine Below.alloc ?_ ?_ _ | with_reducible refine Below.setCell ?_ ?_ _ | (focus (simp; done)) | (focus (simp; omega)) | omega)))))
       go_ret
       exact ⟨ret_bool HN.out, by (repeat (first | with_reducible exact hB | with_reducible exact Below.refl _ _ | with_reducible refine Below.drew ?_ | with_reducible refine below_drewN ?_ _ | with_reducible refine Below.alloc ?_ ?_ _ | with_reducible refine Below.setCell ?_ ?_ _ | (focus (simp; done)) | (focus (simp; omega)) | omega))⟩
     ·have HN := hide (bool_no (packetOkB_iff (a := a) (b := b) (f := f) (s := s) (n := len)) (fun q => h5 q.2.2.2.2.1))
      go_enter Tryz.func71, Tryz.ntmps71
      go_wp2_with (first | (go_at_call 86; refine (specFlowOk_any _ _ _).mono ?_; rintro e w1 ⟨rfl, hb⟩; obtain ⟨hc, hf⟩ := bcell hb; have hz0 : w.heap.size < w1.heap.size := (by have hz := hb.size; (try simp at hz); omega); have hB : Below w.heap.size w w1 := (by refine Below.trans ?_ (hb.mono (by have hs := hB.size; (try simp) <;> omega)); (repeat (first | with_reducible exact hB | with_reducible exact Below.refl _ _ | with_reducible refine Below.drew ?_ | with_reducible refine below_drewN ?_ _ | with_reducible refine Below.alloc ?_ ?_ _ | with_reducible refine Below.setCell ?_ ?_ _ | (focus (simp; done)) | (focus (simp; omega)) | omega)))))
      go_ret
      exact ⟨ret_bool HN.out, by (repeat (first | with_reducible exact hB | with_reducible exact Below.refl _ _ | with_reducible refine Below.drew ?_ | with_reducible refine below_drewN ?_ _ | with_reducible refine Below.alloc ?_ ?_ _ | with_reducible refine Below.setCell ?_ ?_ _ | (focus (simp; done)) | (focus (simp; omega)) | omega))⟩
    ·have HN := hide (bool_no (packetOkB_iff (a := a) (b := b) (f := f) (s := s) (n := len)) (fun q => h4 q.2.2.2.1))
     go_enter Tryz.func71, Tryz.ntmps71
     go_wp2_with (first | (go_at_call 86; refine (specFlowOk_any _ _ _).mono ?_; rintro e w1 ⟨rfl, hb⟩; obtain ⟨hc, hf⟩ := bcell hb; have hz0 : w.heap.size < w1.heap.size := (by have hz := hb.size; (try simp at hz); omega); have hB : Below w.heap.size w w1 := (by refine Below.trans ?_ (hb.mono (by have hs := hB.size; (try simp) <;> omega)); (repeat (first | with_reducible exact hB | with_reducible exact Below.refl _ _ | with_reducible refine Below.drew ?_ | with_reducible refine below_drewN ?_ _ | with_reducible refine Below.alloc ?_ ?_ _ | with_reducible refine Below.setCell ?_ ?_ _ | (focus (simp; done)) | (focus (simp; omega)) | omega)))))
     go_ret
     exact ⟨ret_bool HN.out, by (repeat (first | with_reducible exact hB | with_reducible exact Below.refl _ _ | with_reducible refine Below.drew ?_ | with_reducible refine below_drewN ?_ _ | with_reducible refine Below.alloc ?_ ?_ _ | with_reducible refine Below.setCell ?_ ?_ _ | (focus (simp; done)) | (focus (simp; omega)) | omega))⟩
   ·have HN := hide (bool_no (packetOkB_iff (a := a) (b := b) (f := f) (s := s) (n := len)) (fun q => h3 q.2.2.1))
    go_enter Tryz.func71, Tryz.ntmps71
    go_wp2_with (first | (go_at_call 86; refine (specFlowOk_any _ _ _).mono ?_; rintro e w1 ⟨rfl, hb⟩; obtain ⟨hc, hf⟩ := bcell hb; have hz0 : w.heap.size < w1.heap.size := (by have hz := hb.size; (try simp at hz); omega); have hB : Below w.heap.size w w1 := (by refine Below.trans ?_ (hb.mono (by have hs := hB.size; (try simp) <;> omega)); (repeat (first | with_reducible exact hB | with_reducible exact Below.refl _ _ | with_reducible refine Below.drew ?_ | with_reducible refine below_drewN ?_ _ | with_reducible refine Below.alloc ?_ ?_ _ | with_reducible refine Below.setCell ?_ ?_ _ | (focus (simp; done)) | (focus (simp; omega)) | omega)))))
    go_ret
    exact ⟨ret_bool HN.out, by (repeat (first | with_reducible exact hB | with_reducible exact Below.refl _ _ | with_reducible refine Below.drew ?_ | with_reducible refine below_drewN ?_ _ | with_reducible refine Below.alloc ?_ ?_ _ | with_reducible refine Below.setCell ?_ ?_ _ | (focus (simp; done)) | (focus (simp; omega)) | omega))⟩
  ·have HN := hide (bool_no (packetOkB_iff (a := a) (b := b) (f := f) (s := s) (n := len)) (fun q => h2 q.2.1))
   go_enter Tryz.func71, Tryz.ntmps71
   go_wp2_with (first | (go_at_call 86; refine (specFlowOk_any _ _ _).mono ?_; rintro e w1 ⟨rfl, hb⟩; obtain ⟨hc, hf⟩ := bcell hb; have hz0 : w.heap.size < w1.heap.size := (by have hz := hb.size; (try simp at hz); omega); have hB : Below w.heap.size w w1 := (by refine Below.trans ?_ (hb.mono (by have hs := hB.size; (try simp) <;> omega)); (repeat (first | with_reducible exact hB | with_reducible exact Below.refl _ _ | with_reducible refine Below.drew ?_ | with_reducible refine below_drewN ?_ _ | with_reducible refine Below.alloc ?_ ?_ _ | with_reducible refine Below.setCell ?_ ?_ _ | (focus (simp; done)) | (focus (simp; omega)) | omega)))))
   go_ret
   exact ⟨ret_bool HN.out, by (repeat (first | with_reducible exact hB | with_reducible exact Below.refl _ _ | with_reducible refine Below.drew ?_ | with_reducible refine below_drewN ?_ _ | with_reducible refine Below.alloc ?_ ?_ _ | with_reducible refine Below.setCell ?_ ?_ _ | (focus (simp; done)) | (focus (simp; omega)) | omega))⟩
 ·have HN := hide (bool_no (packetOkB_iff (a := a) (b := b) (f := f) (s := s) (n := len)) (fun q => h1 q.1))
  go_enter Tryz.func71, Tryz.ntmps71
  go_wp2_with (first | (go_at_call 86; refine (specFlowOk_any _ _ _).mono ?_; rintro e w1 ⟨rfl, hb⟩; obtain ⟨hc, hf⟩ := bcell hb; have hz0 : w.heap.size < w1.heap.size := (by have hz := hb.size; (try simp at hz); omega); have hB : Below w.heap.size w w1 := (by refine Below.trans ?_ (hb.mono (by have hs := hB.size; (try simp) <;> omega)); (repeat (first | with_reducible exact hB | with_reducible exact Below.refl _ _ | with_reducible refine Below.drew ?_ | with_reducible refine below_drewN ?_ _ | with_reducible refine Below.alloc ?_ ?_ _ | with_reducible refine Below.setCell ?_ ?_ _ | (focus (simp; done)) | (focus (simp; omega)) | omega)))))
  go_ret
  exact ⟨ret_bool HN.out, by (repeat (first | with_reducible exact hB | with_reducible exact Below.refl _ _ | with_reducible refine Below.drew ?_ | with_reducible refine below_drewN ?_ _ | with_reducible refine Below.alloc ?_ ?_ _ | with_reducible refine Below.setCell ?_ ?_ _ | (focus (simp; done)) | (focus (simp; omega)) | omega))⟩

def flagOkB (f : Int) : Bool := decide (0 ≤ f) && decide (f < 16) && (bits .and .i64 f 1 == 0 || bits .and .i64 f 12 == 0)
theorem flagOkB_iff {f : Int} : flagOkB f = true ↔ 0 ≤ f ∧ f < 16 ∧ (bits .and .i64 f 1 = 0 ∨ bits .and .i64 f 12 = 0) := by simp [flagOkB, and_assoc]
theorem flagOkB_yes {f : Int} (h2 : 0 ≤ f) (h3 : f < 16) : flagOkB f = (bits .and .i64 f 1 == 0 || bits .and .i64 f 12 == 0) := by simp [flagOkB, h2, h3]
theorem packetOkB_parts {a b f s : Int} {n : Nat} : packetOkB a b f s n = true ↔ (flowOkB a b = true ∧ flagOkB f = true ∧ 0 ≤ s ∧ s ≤ 65535 ∧ (n : Int) ≤ 16 ∧ True) := by
 rw [packetOkB_iff, flagOkB_iff]
 constructor
 ·rintro ⟨q1, q2, q3, q4, q5, q6, q7⟩; exact ⟨q1, ⟨q2, q3, q7⟩, q4, by omega, q6, trivial⟩
 ·rintro ⟨q1, ⟨q2, q3, q7⟩, q4, q5, q6, _⟩; exact ⟨q1, q2, q3, q4, by omega, q6, q7⟩

theorem packetOkB_last {a b f s : Int} {n : Nat} (h1 : flowOkB a b = true) (h2 : flagOkB f = true) (h4 : 0 ≤ s) (h5 : s ≤ 65535) : decide ((n : Int) ≤ 16) = packetOkB a b f s n := by
 rw [Bool.eq_iff_iff, packetOkB_parts]; simp [h1, h2, h4, h5]

set_option maxHeartbeats 400000 in
theorem flagOk_any (f : Int) (w : World) : Calls Tryz.prog 136 #[.int .i64 f] w fun e w' => e = .returned (.bool (flagOkB f)) ∧ w = w' := by
 by_cases h2 : 0 ≤ f
 ·by_cases h3 : f < 16
  ·by_cases h7 : bits .and .i64 f 1 = 0
   ·go_enter Tryz.func136, Tryz.ntmps136
    go_wp2
    go_ret
    exact ⟨ret_bool (by rw [flagOkB_yes h2 h3]; simp [h7]), rfl⟩
   ·go_enter Tryz.func136, Tryz.ntmps136
    go_wp2
    go_ret
    exact ⟨ret_bool (by rw [flagOkB_yes h2 h3]; simp [h7, bne]), rfl⟩
  ·have HN := hide (bool_no (flagOkB_iff (f := f)) (fun q => h3 q.2.1))
   go_enter Tryz.func136, Tryz.ntmps136
   go_wp2
   go_ret
   exact ⟨ret_bool HN.out, rfl⟩
 ·have HN := hide (bool_no (flagOkB_iff (f := f)) (fun q => h2 q.1))
  go_enter Tryz.func136, Tryz.ntmps136
  go_wp2
  go_ret
  exact ⟨ret_bool HN.out, rfl⟩

set_option maxHeartbeats 400000 in
theorem implPacketOk_any (a b f s : Int) (o : Option Addr) (len cap : Nat) (w : World) (hl : len ≤ maxLen) :
  Calls Tryz.prog 74 #[pkt a b f s (.slice o len cap)] w fun e w' => e = .returned (.bool (packetOkB a b f s len)) ∧ Below w.heap.size w w' := by
 have hB : Below w.heap.size w w := Below.refl _ _
 by_cases h1 : flowOkB a b = true
 ·by_cases h2 : flagOkB f = true
  ·by_cases h4 : 0 ≤ s
   ·by_cases h5 : s ≤ 65535
    ·have HY := hide (packetOkB_last (a := a) (b := b) (f := f) (s := s) (n := len) h1 h2 h4 h5)
     go_enter Tryz.func74, Tryz.ntmps74
     go_wp2_with (first | (go_at_call 88; refine (implFlowOk_any _ _ _).mono ?_; rintro e w1 ⟨rfl, hb⟩; obtain ⟨hc, hf⟩ := bcell hb; have hz0 : w.heap.size < w1.heap.size := (by have hz := hb.size; (try simp at hz); omega); have hB : Below w.heap.size w w1 := (by refine Below.trans ?_ (hb.mono (by have hs := hB.size; (try simp) <;> omega)); (repeat (first | with_reducible exact hB | with_reducible exact Below.refl _ _ | with_reducible refine Below.drew ?_ | with_reducible refine below_drewN ?_ _ | with_reducible refine Below.alloc ?_ ?_ _ | with_reducible refine Below.setCell ?_ ?_ _ | (focus (simp; done)) | (focus (simp; omega)) | omega)))) | (go_at_call 136; refine (flagOk_any _ _).mono ?_; rintro e w2 ⟨rfl, rfl⟩) | go_in)
     go_ret
     exact ⟨ret_bool HY.out, by (repeat (first | with_reducible exact hB | with_reducible exact Below.refl _ _ | with_reducible refine Below.drew ?_ | with_reducible refine below_drewN ?_ _ | with_reducible refine Below.alloc ?_ ?_ _ | with_reducible refine Below.setCell ?_ ?_ _ | (focus (simp; done)) | (focus (simp; omega)) | omega))⟩
    ·have HN := hide (bool_no (packetOkB_parts (a := a) (b := b) (f := f) (s := s) (n := len)) (fun q => h5 q.2.2.2.1))
     go_enter Tryz.func74, Tryz.ntmps74
     go_wp2_with (first | (go_at_call 88; refine (implFlowOk_any _ _ _).mono ?_; rintro e w1 ⟨rfl, hb⟩; obtain ⟨hc, hf⟩ := bcell hb; have hz0 : w.heap.size < w1.heap.size := (by have hz := hb.size; (try simp at hz); omega); have hB : Below w.heap.size w w1 := (by refine Below.trans ?_ (hb.mono (by have hs := hB.size; (try simp) <;> omega)); (repeat (first | with_reducible exact hB | with_reducible exact Below.refl _ _ | with_reducible refine Below.drew ?_ | with_reducible refine below_drewN ?_ _ | with_reducible refine Below.alloc ?_ ?_ _ | with_reducible refine Below.setCell ?_ ?_ _ | (focus (simp; done)) | (focus (simp; omega)) | omega)))) | (go_at_call 136; refine (flagOk_any _ _).mono ?_; rintro e w2 ⟨rfl, rfl⟩) | go_in)
     go_ret
     exact ⟨ret_bool HN.out, by (repeat (first | with_reducible exact hB | with_reducible exact Below.refl _ _ | with_reducible refine Below.drew ?_ | with_reducible refine below_drewN ?_ _ | with_reducible refine Below.alloc ?_ ?_ _ | with_reducible refine Below.setCell ?_ ?_ _ | (focus (simp; done)) | (focus (simp; omega)) | omega))⟩
   ·have HN := hide (bool_no (packetOkB_parts (a := a) (b := b) (f := f) (s := s) (n := len)) (fun q => h4 q.2.2.1))
    go_enter Tryz.func74, Tryz.ntmps74
    go_wp2_with (first | (go_at_call 88; refine (implFlowOk_any _ _ _).mono ?_; rintro e w1 ⟨rfl, hb⟩; obtain ⟨hc, hf⟩ := bcell hb; have hz0 : w.heap.size < w1.heap.size := (by have hz := hb.size; (try simp at hz); omega); have hB : Below w.heap.size w w1 := (by refine Below.trans ?_ (hb.mono (by have hs := hB.size; (try simp) <;> omega)); (repeat (first | with_reducible exact hB | with_reducible exact Below.refl _ _ | with_reducible refine Below.drew ?_ | with_reducible refine below_drewN ?_ _ | with_reducible refine Below.alloc ?_ ?_ _ | with_reducible refine Below.setCell ?_ ?_ _ | (focus (simp; done)) | (focus (simp; omega)) | omega)))) | (go_at_call 136; refine (flagOk_any _ _).mono ?_; rintro e w2 ⟨rfl, rfl⟩) | go_in)
    go_ret
    exact ⟨ret_bool HN.out, by (repeat (first | with_reducible exact hB | with_reducible exact Below.refl _ _ | with_reducible refine Below.drew ?_ | with_reducible refine below_drewN ?_ _ | with_reducible refine Below.alloc ?_ ?_ _ | with_reducible refine Below.setCell ?_ ?_ _ | (focus (simp; done)) | (focus (simp; omega)) | omega))⟩
  ·have HN := hide (bool_no (packetOkB_parts (a := a) (b := b) (f := f) (s := s) (n := len)) (fun q => h2 q.2.1))
   go_enter Tryz.func74, Tryz.ntmps74
   go_wp2_with (first | (go_at_call 88; refine (implFlowOk_any _ _ _).mono ?_; rintro e w1 ⟨rfl, hb⟩; obtain ⟨hc, hf⟩ := bcell hb; have hz0 : w.heap.size < w1.heap.size := (by have hz := hb.size; (try simp at hz); omega); have hB : Below w.heap.size w w1 := (by refine Below.trans ?_ (hb.mono (by have hs := hB.size; (try simp) <;> omega)); (repeat (first | with_reducible exact hB | with_reducible exact Below.refl _ _ | with_reducible refine Below.drew ?_ | with_reducible refine below_drewN ?_ _ | with_reducible refine Below.alloc ?_ ?_ _ | with_reducible refine Below.setCell ?_ ?_ _ | (focus (simp; done)) | (focus (simp; omega)) | omega)))) | (go_at_call 136; refine (flagOk_any _ _).mono ?_; rintro e w2 ⟨rfl, rfl⟩) | go_in)
   go_ret
   exact ⟨ret_bool HN.out, by (repeat (first | with_reducible exact hB | with_reducible exact Below.refl _ _ | with_reducible refine Below.drew ?_ | with_reducible refine below_drewN ?_ _ | with_reducible refine Below.alloc ?_ ?_ _ | with_reducible refine Below.setCell ?_ ?_ _ | (focus (simp; done)) | (focus (simp; omega)) | omega))⟩
 ·have HN := hide (bool_no (packetOkB_parts (a := a) (b := b) (f := f) (s := s) (n := len)) (fun q => h1 q.1))
  go_enter Tryz.func74, Tryz.ntmps74
  go_wp2_with (first | (go_at_call 88; refine (implFlowOk_any _ _ _).mono ?_; rintro e w1 ⟨rfl, hb⟩; obtain ⟨hc, hf⟩ := bcell hb; have hz0 : w.heap.size < w1.heap.size := (by have hz := hb.size; (try simp at hz); omega); have hB : Below w.heap.size w w1 := (by refine Below.trans ?_ (hb.mono (by have hs := hB.size; (try simp) <;> omega)); (repeat (first | with_reducible exact hB | with_reducible exact Below.refl _ _ | with_reducible refine Below.drew ?_ | with_reducible refine below_drewN ?_ _ | with_reducible refine Below.alloc ?_ ?_ _ | with_reducible refine Below.setCell ?_ ?_ _ | (focus (simp; done)) | (focus (simp; omega)) | omega)))) | (go_at_call 136; refine (flagOk_any _ _).mono ?_; rintro e w2 ⟨rfl, rfl⟩) | go_in)
  go_ret
  exact ⟨ret_bool HN.out, by (repeat (first | with_reducible exact hB | with_reducible exact Below.refl _ _ | with_reducible refine Below.drew ?_ | with_reducible refine below_drewN ?_ _ | with_reducible refine Below.alloc ?_ ?_ _ | with_reducible refine Below.setCell ?_ ?_ _ | (focus (simp; done)) | (focus (simp; omega)) | omega))⟩

end Go.Proofs.YtajfkcpifnpkeaaGreat

/- Contracts of the laws' own helpers over packets: one that came in, its size, its copy, its comparison. -/
namespace Go.Proofs.YtajfkcpifnpkeaaGreat
open Go.ChangeShapes Go.WideShapes Go.ChangeAt Go.RowKit Go.Joins
set_option linter.unusedVariables false
set_option linter.unusedSimpArgs false

theorem array5 {α : Type} {cs : Array α} (h : cs.size = 5) : ∃ c0 c1 c2 c3 c4, cs = #[c0, c1, c2, c3, c4] := by
 obtain ⟨l⟩ := cs
 match l, h with
 | [c0, c1, c2, c3, c4], _ => exact ⟨c0, c1, c2, c3, c4, rfl⟩
theorem cellsLawsPacket : Tryz.prog.cellsOf 62 = 5 := by kernel_rfl
theorem cellsInt : Tryz.prog.cellsOf 3 = 1 := by kernel_rfl
theorem cellsBytes : Tryz.prog.cellsOf 60 = 1 := by kernel_rfl

/-- A packet's five cells. -/
theorem open_packet_cells {H : Type} {enc : TypeId × Value → H} {W : World} {fuel : Nat} {c0 c1 c2 c3 c4 : Value} {x : DataW H × List MemPlace}
  (h : DataW.trod enc Tryz.prog W 0 (fun _ => true) true fuel 62 [c0, c1, c2, c3, c4] = some x) :
  ∃ (a b f s : Int) (o : Option Addr) (cap : Nat) (l : List Int), [c0, c1, c2, c3, c4] = [.int .i64 a, .int .i64 b, .int .i64 f, .int .i64 s, .slice o l.length cap] ∧ l.length ≤ maxLen ∧ Rd W o l ∧ isB l := by
 obtain ⟨y0, y1, y2, y3, n, _, _, h0, h1, h2, h3⟩ := trod_struct4 Tryz.underlying62 h
 simp [cellsInt, cellsBytes, cellsLawsFlow] at h0 h1 h2 h3
 obtain ⟨z0, z1, n', _, _, g0, g1⟩ := trod_struct2 Tryz.underlying59 h0
 simp [cellsInt] at g0 g1
 obtain ⟨a, e0, _, _⟩ := DataW.trod_int Tryz.underlying3 g0
 obtain ⟨b, e1, _, _⟩ := DataW.trod_int Tryz.underlying3 g1
 obtain ⟨f, e2, _, _⟩ := DataW.trod_int Tryz.underlying3 h1
 obtain ⟨s, e3, _, _⟩ := DataW.trod_int Tryz.underlying3 h2
 obtain ⟨o, cap, l, e4, r⟩ := open_bytes_cells h3
 simp at e0 e1 e2 e3 e4
 subst e0 e1 e2 e3 e4
 exact ⟨a, b, f, s, o, cap, l, rfl, r⟩

set_option maxRecDepth 100000 in
theorem open_packet {H : Type} {enc : TypeId × Value → H} {W : World} {base : Nat} {v : Value} {d : DataW H} {p : List MemPlace}
  (hv : Value.okWide Tryz.prog W .any base 62 v) (h : DataW.Trod enc Tryz.prog W 0 (fun _ => true) true 62 v d p) :
  ∃ (a b f s : Int) (o : Option Addr) (cap : Nat) (l : List Int), v = pkt a b f s (.slice o l.length cap) ∧ l.length ≤ maxLen ∧ Rd W o l ∧ isB l := by
 obtain ⟨cs, rfl, hsz⟩ := okWide_struct Tryz.underlying62 hv
 obtain ⟨c0, c1, c2, c3, c4, rfl⟩ := array5 (hsz.trans cellsLawsPacket)
 obtain ⟨fuel, hf⟩ := h
 obtain ⟨a, b, f, s, o, cap, l, e, r⟩ := open_packet_cells (by simpa [Value.cells] using hf)
 simp at e
 obtain ⟨rfl, rfl, rfl, rfl, rfl⟩ := e
 exact ⟨a, b, f, s, o, cap, l, rfl, r⟩

set_option maxHeartbeats 400000 in
theorem szPacket_any (a b f s : Int) (o : Option Addr) (len cap : Nat) (n : Int) (w : World) (hl : len ≤ maxLen) (h0 : 0 ≤ n) (h1 : n ≤ 1048576) :
  Calls Tryz.prog 21 #[pkt a b f s (.slice o len cap), .int .i64 n] w fun e w' => e = .returned (.int .i64 (if n - len < 0 then -1 else n - len)) ∧ Below w.heap.size w w' := by
 have hB : Below w.heap.size w w := Below.refl _ _
 by_cases h : n - len < 0
 ·have hs := szByteS_any o len cap n
  rw [if_pos h] at *
  go_enter Tryz.func21, Tryz.ntmps21
  go_wp2_with (go_at_call 70; refine (hs _ hl h0 h1).mono ?_; rintro e w1 ⟨rfl, rfl⟩)
  go_ret
  exact ⟨rfl, by (repeat (first | with_reducible exact hB | with_reducible exact Below.refl _ _ | with_reducible refine Below.drew ?_ | with_reducible refine below_drewN ?_ _ | with_reducible refine Below.alloc ?_ ?_ _ | with_reducible refine Below.setCell ?_ ?_ _ | (focus (simp; done)) | (focus (simp; omega)) | omega))⟩
 ·have hs := szByteS_any o len cap n
  rw [if_neg h] at *
  go_enter Tryz.func21, Tryz.ntmps21
  go_wp2_with (go_at_call 70; refine (hs _ hl h0 h1).mono ?_; rintro e w1 ⟨rfl, rfl⟩)
  go_ret
  exact ⟨rfl, by (repeat (first | with_reducible exact hB | with_reducible exact Below.refl _ _ | with_reducible refine Below.drew ?_ | with_reducible refine below_drewN ?_ _ | with_reducible refine Below.alloc ?_ ?_ _ | with_reducible refine Below.setCell ?_ ?_ _ | (focus (simp; done)) | (focus (simp; omega)) | omega))⟩

set_option maxHeartbeats 2000000 in
theorem toPacket_any (a b f s : Int) (o : Option Addr) (cap : Nat) (l : List Int) (w : World) (hR : Rd w o l) (hB8 : isB l) (hlen : l.length ≤ 1048576) :
  Calls Tryz.prog 23 #[pkt a b f s (.slice o l.length cap)] w fun e w' => ∃ g, e = .returned (pkt a b f s (.slice (some ⟨g, 0, none⟩) l.length l.length)) ∧ ownB w' w.heap.size (.slice (some ⟨g, 0, none⟩) l.length l.length) l ∧ Below w.heap.size w w' := by
 have hB : Below w.heap.size w w := Below.refl _ _
 go_enter Tryz.func23, Tryz.ntmps23
 go_wp2_with (first | (go_at_call 36; refine (toFlow_any _ _ _).mono ?_; rintro e w1a ⟨rfl, hba⟩; obtain ⟨hca, hfa⟩ := bcell hba; have hz0a : w.heap.size < w1a.heap.size := (by have hz := hba.size; (try simp at hz); omega); have hz1a : w.heap.size + 1 < w1a.heap.size := (by have hz := hba.size; (try simp at hz); omega); have hz2a : w.heap.size + 1 + 1 < w1a.heap.size := (by have hz := hba.size; (try simp at hz); omega); have hB : Below w.heap.size w w1a := (by refine Below.trans ?_ (hba.mono (by have hs := hB.size; (try simp) <;> omega)); (repeat (first | with_reducible exact hB | with_reducible exact Below.refl _ _ | with_reducible refine Below.drew ?_ | with_reducible refine below_drewN ?_ _ | with_reducible refine Below.alloc ?_ ?_ _ | with_reducible refine Below.setCell ?_ ?_ _ | (focus (simp; done)) | (focus (simp; omega)) | omega)))) | (go_at_call 73; refine (toByteS_any o cap l _ (hR.kept (by (repeat (first | with_reducible exact hB | with_reducible exact Below.refl _ _ | with_reducible refine Below.drew ?_ | with_reducible refine below_drewN ?_ _ | with_reducible refine Below.alloc ?_ ?_ _ | with_reducible refine Below.setCell ?_ ?_ _ | (focus (simp; done)) | (focus (simp; omega)) | omega)))) hB8 hlen).mono ?_; rintro e w1b ⟨g, rfl, hown, hbb⟩; obtain ⟨hcb, hfb⟩ := bcell hbb; have hz0b : w.heap.size < w1b.heap.size := (by have hz := hbb.size; (try simp at hz); omega); have hz1b : w.heap.size + 1 < w1b.heap.size := (by have hz := hbb.size; (try simp at hz); omega); have hz2b : w.heap.size + 1 + 1 < w1b.heap.size := (by have hz := hbb.size; (try simp at hz); omega); have hB : Below w.heap.size w w1b := (by refine Below.trans ?_ (hbb.mono (by have hs := hB.size; (try simp) <;> omega)); (repeat (first | with_reducible exact hB | with_reducible exact Below.refl _ _ | with_reducible refine Below.drew ?_ | with_reducible refine below_drewN ?_ _ | with_reducible refine Below.alloc ?_ ?_ _ | with_reducible refine Below.setCell ?_ ?_ _ | (focus (simp; done)) | (focus (simp; omega)) | omega)))))
 have hown' : ownB w1b w1a.heap.size (.slice (some ⟨g, 0, none⟩) l.length l.length) l := by simpa using hown
 clear hown hbb hba
 refine bodyPost_ret (v := pkt a b f s (.slice (some ⟨g, 0, none⟩) l.length l.length)) (by simp [results, Tryz.results23, go_sem, hcb, hca, hz0a, hz1a, hz2a, hz0b, hz1b, hz2b]) rfl ⟨g, rfl, ?_, ?_⟩
 ·refine own_mono (base := w1a.heap.size) ?_ (Nat.le_of_lt hz0a)
  repeat (refine ownsRow_setCell_below ?_ (by simp <;> omega) _)
  exact hown'
 ·(repeat (first | with_reducible exact hB | with_reducible exact Below.refl _ _ | with_reducible refine Below.drew ?_ | with_reducible refine below_drewN ?_ _ | with_reducible refine Below.alloc ?_ ?_ _ | with_reducible refine Below.setCell ?_ ?_ _ | (focus (simp; done)) | (focus (simp; omega)) | omega))

set_option maxHeartbeats 1000000 in
theorem eqPacket_same (a b f s : Int) (o1 o2 : Option Addr) (c1 c2 : Nat) (l : List Int) (w : World) (h1 : Rd w o1 l) (h2 : Rd w o2 l) (hl : l.length ≤ 1048576) :
  Calls Tryz.prog 26 #[pkt a b f s (.slice o1 l.length c1), pkt a b f s (.slice o2 l.length c2)] w fun e w' => e = .returned (.bool true) ∧ Below w.heap.size w w' := by
 have hB : Below w.heap.size w w := Below.refl _ _
 go_enter Tryz.func26, Tryz.ntmps26
 go_wp2_with (first | (go_at_call 77; refine (eqFlow_same _ _ _).mono ?_; rintro e w1 ⟨rfl, hb⟩; obtain ⟨hc, hf⟩ := bcell hb; have hz0 : w.heap.size < w1.heap.size := (by have hz := hb.size; (try simp at hz); omega); have hz1 : w.heap.size + 1 < w1.heap.size := (by have hz := hb.size; (try simp at hz); omega); have hB : Below w.heap.size w w1 := (by refine Below.trans ?_ (hb.mono (by have hs := hB.size; (try simp) <;> omega)); (repeat (first | with_reducible exact hB | with_reducible exact Below.refl _ _ | with_reducible refine Below.drew ?_ | with_reducible refine below_drewN ?_ _ | with_reducible refine Below.alloc ?_ ?_ _ | with_reducible refine Below.setCell ?_ ?_ _ | (focus (simp; done)) | (focus (simp; omega)) | omega)))) | (go_at_call 78; refine (eqByteS_same o1 o2 c1 c2 l _ (h1.kept (by (repeat (first | with_reducible exact hB | with_reducible exact Below.refl _ _ | with_reducible refine Below.drew ?_ | with_reducible refine below_drewN ?_ _ | with_reducible refine Below.alloc ?_ ?_ _ | with_reducible refine Below.setCell ?_ ?_ _ | (focus (simp; done)) | (focus (simp; omega)) | omega)))) (h2.kept (by (repeat (first | with_reducible exact hB | with_reducible exact Below.refl _ _ | with_reducible refine Below.drew ?_ | with_reducible refine below_drewN ?_ _ | with_reducible refine Below.alloc ?_ ?_ _ | with_reducible refine Below.setCell ?_ ?_ _ | (focus (simp; done)) | (focus (simp; omega)) | omega)))) hl).mono ?_; rintro e w1 ⟨rfl, hb⟩; obtain ⟨hc, hf⟩ := bcell hb; have hz0 : w.heap.size < w1.heap.size := (by have hz := hb.size; (try simp at hz); omega); have hz1 : w.heap.size + 1 < w1.heap.size := (by have hz := hb.size; (try simp at hz); omega); have hB : Below w.heap.size w w1 := (by refine Below.trans ?_ (hb.mono (by have hs := hB.size; (try simp) <;> omega)); (repeat (first | with_reducible exact hB | with_reducible exact Below.refl _ _ | with_reducible refine Below.drew ?_ | with_reducible refine below_drewN ?_ _ | with_reducible refine Below.alloc ?_ ?_ _ | with_reducible refine Below.setCell ?_ ?_ _ | (focus (simp; done)) | (focus (simp; omega)) | omega)))))
 go_ret
 exact ⟨rfl, by (repeat (first | with_reducible exact hB | with_reducible exact Below.refl _ _ | with_reducible refine Below.drew ?_ | with_reducible refine below_drewN ?_ _ | with_reducible refine Below.alloc ?_ ?_ _ | with_reducible refine Below.setCell ?_ ?_ _ | (focus (simp; done)) | (focus (simp; omega)) | omega))⟩

end Go.Proofs.YtajfkcpifnpkeaaGreat

/- Contracts of the laws' own helpers over what is carried: one that came in, its size, its copy, its comparison. -/
namespace Go.Proofs.YtajfkcpifnpkeaaGreat
open Go.ChangeShapes Go.WideShapes Go.ChangeAt Go.RowKit Go.Joins
set_option linter.unusedVariables false
set_option linter.unusedSimpArgs false

abbrev crr (a b f s : Int) (v g : Value) (p t : Int) : Value := .agg #[.int .i64 a, .int .i64 b, .int .i64 f, .int .i64 s, v, g, .int .i64 p, .int .i64 t]

set_option maxHeartbeats 2000000 in
theorem eqCarrier_same (a b f s : Int) (o1 o2 p1 p2 : Option Addr) (c1 c2 d1 d2 : Nat) (l : List Int) (g : List (Int × Int)) (pl st : Int) (w : World) (h1 : Rd w o1 l) (h2 : Rd w o2 l) (hl : l.length ≤ 1048576) (g1 : RdG w p1 g) (g2 : RdG w p2 g) (hg : g.length ≤ 1048576) :
  Calls Tryz.prog 32 #[crr a b f s (.slice o1 l.length c1) (.slice p1 g.length d1) pl st, crr a b f s (.slice o2 l.length c2) (.slice p2 g.length d2) pl st] w fun e w' => e = .returned (.bool true) ∧ Below w.heap.size w w' := by
 have hB : Below w.heap.size w w := Below.refl _ _
 go_enter Tryz.func32, Tryz.ntmps32
 go_wp2_with (first | (go_at_call 26; refine (eqPacket_same a b f s o1 o2 c1 c2 l _ (h1.kept (by (repeat (first | with_reducible exact hB | with_reducible exact Below.refl _ _ | with_reducible refine Below.drew ?_ | with_reducible refine below_drewN ?_ _ | with_reducible refine Below.alloc ?_ ?_ _ | with_reducible refine Below.setCell ?_ ?_ _ | (focus (simp; done)) | (focus (simp; omega)) | omega)))) (h2.kept (by (repeat (first | with_reducible exact hB | with_reducible exact Below.refl _ _ | with_reducible refine Below.drew ?_ | with_reducible refine below_drewN ?_ _ | with_reducible refine Below.alloc ?_ ?_ _ | with_reducible refine Below.setCell ?_ ?_ _ | (focus (simp; done)) | (focus (simp; omega)) | omega)))) hl).mono ?_; rintro e w1a ⟨rfl, hba⟩; obtain ⟨hca, hfa⟩ := bcell hba; have hz0a : w.heap.size < w1a.heap.size := (by have hz := hba.size; (try simp at hz); omega); have hz1a : w.heap.size + 1 < w1a.heap.size := (by have hz := hba.size; (try simp at hz); omega); have hB : Below w.heap.size w w1a := (by refine Below.trans ?_ (hba.mono (by have hs := hB.size; (try simp) <;> omega)); (repeat (first | with_reducible exact hB | with_reducible exact Below.refl _ _ | with_reducible refine Below.drew ?_ | with_reducible refine below_drewN ?_ _ | with_reducible refine Below.alloc ?_ ?_ _ | with_reducible refine Below.setCell ?_ ?_ _ | (focus (simp; done)) | (focus (simp; omega)) | omega)))) | (go_at_call 25; refine (eqSegS_same p1 p2 d1 d2 g _ (g1.kept (by (repeat (first | with_reducible exact hB | with_reducible exact Below.refl _ _ | with_reducible refine Below.drew ?_ | with_reducible refine below_drewN ?_ _ | with_reducible refine Below.alloc ?_ ?_ _ | with_reducible refine Below.setCell ?_ ?_ _ | (focus (simp; done)) | (focus (simp; omega)) | omega)))) (g2.kept (by (repeat (first | with_reducible exact hB | with_reducible exact Below.refl _ _ | with_reducible refine Below.drew ?_ | with_reducible refine below_drewN ?_ _ | with_reducible refine Below.alloc ?_ ?_ _ | with_reducible refine Below.setCell ?_ ?_ _ | (focus (simp; done)) | (focus (simp; omega)) | omega)))) hg).mono ?_; rintro e w1b ⟨rfl, hbb⟩; obtain ⟨hcb, hfb⟩ := bcell hbb; have hz0b : w.heap.size < w1b.heap.size := (by have hz := hbb.size; (try simp at hz); omega); have hz1b : w.heap.size + 1 < w1b.heap.size := (by have hz := hbb.size; (try simp at hz); omega); have hB : Below w.heap.size w w1b := (by refine Below.trans ?_ (hbb.mono (by have hs := hB.size; (try simp) <;> omega)); (repeat (first | with_reducible exact hB | with_reducible exact Below.refl _ _ | with_reducible refine Below.drew ?_ | with_reducible refine below_drewN ?_ _ | with_reducible refine Below.alloc ?_ ?_ _ | with_reducible refine Below.setCell ?_ ?_ _ | (focus (simp; done)) | (focus (simp; omega)) | omega)))))
 go_ret
 exact ⟨rfl, by (repeat (first | with_reducible exact hB | with_reducible exact Below.refl _ _ | with_reducible refine Below.drew ?_ | with_reducible refine below_drewN ?_ _ | with_reducible refine Below.alloc ?_ ?_ _ | with_reducible refine Below.setCell ?_ ?_ _ | (focus (simp; done)) | (focus (simp; omega)) | omega))⟩

end Go.Proofs.YtajfkcpifnpkeaaGreat

/- Contracts of Opens, on both sides. -/
namespace Go.Proofs.YtajfkcpifnpkeaaGreat
open Go.ChangeShapes Go.WideShapes Go.ChangeAt Go.RowKit Go.Joins
set_option linter.unusedVariables false
set_option linter.unusedSimpArgs false

def opensB (a b f s : Int) (n : Nat) : Bool := packetOkB a b f s n && (bits .and .i64 f 3 == 1)
theorem opens_bits (f : Int) (h0 : 0 ≤ f) (h1 : f < 16) : ((bits .and .i64 f 1 != 0) && !(bits .and .i64 f 2 != 0)) = (bits .and .i64 f 3 == 1) := by
 have h : f = 0 ∨ f = 1 ∨ f = 2 ∨ f = 3 ∨ f = 4 ∨ f = 5 ∨ f = 6 ∨ f = 7 ∨ f = 8 ∨ f = 9 ∨ f = 10 ∨ f = 11 ∨ f = 12 ∨ f = 13 ∨ f = 14 ∨ f = 15 := by omega
 rcases h with h | h | h | h | h | h | h | h | h | h | h | h | h | h | h | h <;> subst h <;> decide +kernel
theorem opensB_no {a b f s : Int} {n : Nat} (h : ¬ packetOkB a b f s n = true) : false = opensB a b f s n := by simp [opensB, h]
theorem opensB_yes {a b f s : Int} {n : Nat} (h : packetOkB a b f s n = true) : (bits .and .i64 f 3 == 1) = opensB a b f s n := by simp [opensB, h]
theorem opensB_no1 {a b f s : Int} {n : Nat} (h : packetOkB a b f s n = true) (h1 : ¬ (bits .and .i64 f 1 != 0) = true) : false = opensB a b f s n := by
 have q := packetOkB_iff.1 h
 rw [← opensB_yes h, ← opens_bits f q.2.1 q.2.2.1]
 simp [Bool.eq_false_iff.2 h1]
theorem opensB_yes1 {a b f s : Int} {n : Nat} (h : packetOkB a b f s n = true) (h1 : (bits .and .i64 f 1 != 0) = true) : (!(bits .and .i64 f 2 != 0)) = opensB a b f s n := by
 have q := packetOkB_iff.1 h
 rw [← opensB_yes h, ← opens_bits f q.2.1 q.2.2.1, h1, Bool.true_and]

set_option maxHeartbeats 400000 in
theorem implOpens_any (a b f s : Int) (o : Option Addr) (len cap : Nat) (w : World) (hl : len ≤ maxLen) :
  Calls Tryz.prog 141 #[pkt a b f s (.slice o len cap)] w fun e w' => e = .returned (.bool (opensB a b f s len)) ∧ Below w.heap.size w w' := by
 have hB : Below w.heap.size w w := Below.refl _ _
 by_cases h : packetOkB a b f s len = true
 ·by_cases h1 : (bits .and .i64 f 1 != 0) = true
  ·have HY := hide (opensB_yes1 h h1)
   go_enter Tryz.func141, Tryz.ntmps141
   go_wp2_with (first | (go_at_call 74; refine (implPacketOk_any a b f s o len cap _ hl).mono ?_; rintro e w1 ⟨rfl, hb⟩; obtain ⟨hc, hf⟩ := bcell hb; have hz0 : w.heap.size < w1.heap.size := (by have hz := hb.size; (try simp at hz); omega); have hB : Below w.heap.size w w1 := (by refine Below.trans ?_ (hb.mono (by have hs := hB.size; (try simp) <;> omega)); (repeat (first | with_reducible exact hB | with_reducible exact Below.refl _ _ | with_reducible refine Below.drew ?_ | with_reducible refine below_drewN ?_ _ | with_reducible refine Below.alloc ?_ ?_ _ | with_reducible refine Below.setCell ?_ ?_ _ | (focus (simp; done)) | (focus (simp; omega)) | omega)))) | go_in)
   go_ret
   exact ⟨ret_bool HY.out, by (repeat (first | with_reducible exact hB | with_reducible exact Below.refl _ _ | with_reducible refine Below.drew ?_ | with_reducible refine below_drewN ?_ _ | with_reducible refine Below.alloc ?_ ?_ _ | with_reducible refine Below.setCell ?_ ?_ _ | (focus (simp; done)) | (focus (simp; omega)) | omega))⟩
  ·have HN := hide (opensB_no1 h h1)
   have h1' := Bool.eq_false_iff.2 h1
   go_enter Tryz.func141, Tryz.ntmps141
   go_wp2_with (first | (go_at_call 74; refine (implPacketOk_any a b f s o len cap _ hl).mono ?_; rintro e w1 ⟨rfl, hb⟩; obtain ⟨hc, hf⟩ := bcell hb; have hz0 : w.heap.size < w1.heap.size := (by have hz := hb.size; (try simp at hz); omega); have hB : Below w.heap.size w w1 := (by refine Below.trans ?_ (hb.mono (by have hs := hB.size; (try simp) <;> omega)); (repeat (first | with_reducible exact hB | with_reducible exact Below.refl _ _ | with_reducible refine Below.drew ?_ | with_reducible refine below_drewN ?_ _ | with_reducible refine Below.alloc ?_ ?_ _ | with_reducible refine Below.setCell ?_ ?_ _ | (focus (simp; done)) | (focus (simp; omega)) | omega)))) | go_in)
   go_ret
   exact ⟨ret_bool HN.out, by (repeat (first | with_reducible exact hB | with_reducible exact Below.refl _ _ | with_reducible refine Below.drew ?_ | with_reducible refine below_drewN ?_ _ | with_reducible refine Below.alloc ?_ ?_ _ | with_reducible refine Below.setCell ?_ ?_ _ | (focus (simp; done)) | (focus (simp; omega)) | omega))⟩
 ·have HN := hide (opensB_no h)
  go_enter Tryz.func141, Tryz.ntmps141
  go_wp2_with (first | (go_at_call 74; refine (implPacketOk_any a b f s o len cap _ hl).mono ?_; rintro e w1 ⟨rfl, hb⟩; obtain ⟨hc, hf⟩ := bcell hb; have hz0 : w.heap.size < w1.heap.size := (by have hz := hb.size; (try simp at hz); omega); have hB : Below w.heap.size w w1 := (by refine Below.trans ?_ (hb.mono (by have hs := hB.size; (try simp) <;> omega)); (repeat (first | with_reducible exact hB | with_reducible exact Below.refl _ _ | with_reducible refine Below.drew ?_ | with_reducible refine below_drewN ?_ _ | with_reducible refine Below.alloc ?_ ?_ _ | with_reducible refine Below.setCell ?_ ?_ _ | (focus (simp; done)) | (focus (simp; omega)) | omega)))) | go_in)
  go_ret
  exact ⟨ret_bool HN.out, by (repeat (first | with_reducible exact hB | with_reducible exact Below.refl _ _ | with_reducible refine Below.drew ?_ | with_reducible refine below_drewN ?_ _ | with_reducible refine Below.alloc ?_ ?_ _ | with_reducible refine Below.setCell ?_ ?_ _ | (focus (simp; done)) | (focus (simp; omega)) | omega))⟩

end Go.Proofs.YtajfkcpifnpkeaaGreat

/- The model's CarrierOk: a plain function, and the contract. -/
namespace Go.Proofs.YtajfkcpifnpkeaaGreat
open Go.ChangeShapes Go.WideShapes Go.ChangeAt Go.RowKit Go.Joins
set_option linter.unusedVariables false
set_option linter.unusedSimpArgs false

def opens3 (f : Int) : Bool := bits .and .i64 f 3 == 1
/-- What the model asks of the segs, one behind the other; h: Fn of the one ahead. -/
def routeR (op : Bool) : Int → List (Int × Int) → Bool
  | _, [] => true
  | h, p :: l => segOkB p.1 p.2 && !(p.2 == 1 && !op) && !(decide (p.2 < h)) && routeR op p.2 l
def headB (a b f s : Int) (n m : Nat) (pl st : Int) : Bool := packetOkB a b f s n && decide (1 ≤ (m : Int)) && decide ((m : Int) ≤ 24) && decide (0 ≤ pl) && decide (pl < (m : Int)) && decide (0 ≤ st) && decide (st ≤ 100000)
def carrierOkB (a b f s : Int) (n : Nat) (g : List (Int × Int)) (pl st : Int) : Bool := headB a b f s n g.length pl st && routeR (opens3 f) 0 g
/-- The cells of a carrier's box. -/
def boxC (k : Nat) (a b f s : Int) (v g : Value) (pl st : Int) (w : World) : Prop :=
  w.cell? ⟨k, 0, none⟩ = some (.int .i64 a) ∧ w.cell? ⟨k, 1, none⟩ = some (.int .i64 b) ∧ w.cell? ⟨k, 2, none⟩ = some (.int .i64 f) ∧ w.cell? ⟨k, 3, none⟩ = some (.int .i64 s) ∧ w.cell? ⟨k, 4, none⟩ = some v ∧
  w.cell? ⟨k, 5, none⟩ = some g ∧ w.cell? ⟨k, 6, none⟩ = some (.int .i64 pl) ∧ w.cell? ⟨k, 7, none⟩ = some (.int .i64 st)
theorem boxC.kept {k : Nat} {a b f s : Int} {v g : Value} {pl st : Int} {w w' : World} {B : Nat} (h : boxC k a b f s v g pl st w) (hb : Below B w w') (hk : k < B) : boxC k a b f s v g pl st w' :=
  ⟨(hb.cell (p := ⟨k, 0, none⟩) hk).trans h.1, (hb.cell (p := ⟨k, 1, none⟩) hk).trans h.2.1, (hb.cell (p := ⟨k, 2, none⟩) hk).trans h.2.2.1, (hb.cell (p := ⟨k, 3, none⟩) hk).trans h.2.2.2.1, (hb.cell (p := ⟨k, 4, none⟩) hk).trans h.2.2.2.2.1,
   (hb.cell (p := ⟨k, 5, none⟩) hk).trans h.2.2.2.2.2.1, (hb.cell (p := ⟨k, 6, none⟩) hk).trans h.2.2.2.2.2.2.1, (hb.cell (p := ⟨k, 7, none⟩) hk).trans h.2.2.2.2.2.2.2⟩
set_option maxHeartbeats 400000 in
theorem l1opens_any (a b f s : Int) (o : Option Addr) (len cap : Nat) (w : World) :
    Calls Tryz.prog 135 #[pkt a b f s (.slice o len cap)] w fun e w' => e = .returned (.bool (opens3 f)) ∧ Below w.heap.size w w' := by
  have hB : Below w.heap.size w w := Below.refl _ _
  go_enter Tryz.func135, Tryz.ntmps135
  go_wp2
  go_ret
  exact ⟨rfl, by (repeat (first | with_reducible exact hB | with_reducible exact Below.refl _ _ | with_reducible refine Below.drew ?_ | with_reducible refine below_drewN ?_ _ | with_reducible refine Below.alloc ?_ ?_ _ | with_reducible refine Below.setCell ?_ ?_ _ | (focus (simp; done)) | (focus (simp; omega)) | omega))⟩

end Go.Proofs.YtajfkcpifnpkeaaGreat

/- The model's route. -/
namespace Go.Proofs.YtajfkcpifnpkeaaGreat
open Go.ChangeShapes Go.WideShapes Go.ChangeAt Go.RowKit Go.Joins
set_option linter.unusedVariables false
set_option linter.unusedSimpArgs false


/-- The route of a packet of the flow a, b. -/
def routeQ (kp : Int) (lr : List (List (List Int))) (lt : List Sl) (a b f : Int) : List (Int × Int) := routeL (endL lt a b).2 (getL lt a b).v (candL lr (bucketI kp a b).toNat) (opens3 f) ((lr.getD 0 []).getD (bucketI kp a b).toNat [])
theorem key_bd {k : Int} (h : keyB k = true) : 0 ≤ k ∧ k < 1000000 := by unfold keyB at h; simpa using h

set_option maxRecDepth 100000 in
set_option maxHeartbeats 8000000 in
theorem l7route_any (kj : Int) (o : Option Addr) (nj c : Nat) (sj kp : Int) (ob : Option Addr) (np cb : Nat) (oR : Option Addr) (nr cR bt ft nt ct : Nat) (lr : List (List (List Int))) (lt : List Sl) (a b f s : Int) (po : Option Addr) (pn pc : Nat) (w : World)
  (hnr : nr = lr.length) (hnt : nt = lt.length) (hn : 0 < lt.length) (hl : lt.length ≤ 1048576) (hk : keyB kp = true) (hfl : flowOkB a b = true) (hG : RiR 0 w.heap.size w (.slice oR nr cR) lr) (hr : Ring lr) (hbt : bt < w.heap.size) (hcell : ∀ i, i < lt.length → ∀ j, j < layS.k → w.cell? ⟨bt, ft + i * layS.k + j, none⟩ = (layS.cs (lt.getD i layS.d))[j]?) :
  Calls Tryz.prog 72 #[balv kj (.slice o nj c) sj kp (.slice ob np cb) (.slice oR nr cR) (.slice (some ⟨bt, ft, none⟩) nt ct), pkt a b f s (.slice po pn pc)] w fun e w' => ∃ v, e = .returned v ∧ ownL layG 126 w' w.heap.size v (routeQ kp lr lt a b f) ∧ Below w.heap.size w w' := by
 obtain ⟨hk1, hk2⟩ := key_bd hk
 obtain ⟨fa0, fa1, fb0, fb1⟩ := flowOkB_iff.1 hfl
 have HBK := hide (fun W => l3bucket_any kp a b W hk1 hk2 fa0 fa1 fb0 fb1)
 obtain ⟨qn, hq, hq8⟩ := bucketI_nat hk hfl
 have HRQ := hide (show routeQ kp lr lt a b f = routeL (endL lt a b).2 (getL lt a b).v (candL lr qn) (opens3 f) ((lr.getD 0 []).getD qn []) by unfold routeQ; rw [hq]; rfl)
 rw [hq] at HBK
 have HG5 := hide (fun W (hb : Below w.heap.size w W) => l5get_any bt ft ct lt a b W hn hl hfl (Nat.lt_of_lt_of_le hbt hb.size) (fun i hi j hj => (hb.cell (p := ⟨bt, ft + i * layS.k + j, none⟩) hbt).trans (hcell i hi j hj)))
 rw [← hnt] at HG5
 have HCA := hide (fun W (hb : Below w.heap.size w W) => l4candidates_go kp ob np cb oR cR lr nr hnr qn hq8 W (RiR.mon.go (RiR.stp.go hG (Stp.of (lo := 0) (hi := 0) hb) (.inl (Nat.zero_le _))) (Nat.le_refl _) hb.size) (by have := hr.le; omega) hr.len (fun i hi => hr.two i hi qn hq8))
 have HOP := hide (fun W => l1opens_any a b f s po pn pc W)
 obtain ⟨b1, f1, u1, e1, hb1, hc1, hr1⟩ := RiRows.at hG (Nat.le_refl _) 0 hr.pos
 subst e1
 obtain ⟨o3, c3, e3, _⟩ := RiT.rd hr1
 subst e3
 obtain ⟨b2, f2, u2, e2, hb2, hc2, hr2⟩ := RiRows.at hr1 (Nat.le_refl _) qn (by rw [hr.len 0 hr.pos]; exact hq8)
 subst e2
 obtain ⟨o9, c9, e9, hr9⟩ := RiV.open hr2
 subst e9
 rw [hr.len 0 hr.pos, Nat.add_zero] at hc1
 have h2 := hr.two 0 hr.pos qn hq8
 have h6 := hr.six hq8
 have hnr1 : 0 < nr := by have := hr.pos; omega
 have hq8' : (qn : Int) < 8 := by omega
 clear hr1 hr2 hG hcell hr hq hk hfl hk1 hk2 fa0 fa1 fb0 fb1
 obtain ⟨row, hrow⟩ : ∃ r, (lr.getD 0 []).getD qn [] = r := ⟨_, rfl⟩
 rw [hrow] at hc2 hr9 h2 HRQ
 have HR9 := hide hr9
 obtain ⟨m, hm⟩ : ∃ r, row.length = r := ⟨_, rfl⟩
 rw [hm] at hc2 h2
 have HMM := hide hm
 obtain ⟨sl, hsl⟩ : ∃ q, getL lt a b = q := ⟨_, rfl⟩
 obtain ⟨ok, hok⟩ : ∃ q, (endL lt a b).2 = q := ⟨_, rfl⟩
 obtain ⟨cs, hcs⟩ : ∃ q, candL lr qn = q := ⟨_, rfl⟩
 obtain ⟨op, hop⟩ : ∃ q, opens3 f = q := ⟨_, rfl⟩
 rw [hsl, hok] at HG5
 rw [hcs] at HCA h6
 rw [hop] at HOP
 rw [hsl, hok, hcs, hop] at HRQ
 have HCW1 := hide hc1
 have HCW2 := hide hc2
 clear hrow hm hsl hok hcs hop hr9 hnt hnr hn hl hc1 hc2
 obtain ⟨W0, hW0⟩ : ∃ W, ((w.alloc (.cells #[.int .i64 kj, .slice o nj c, .int .i64 sj, .int .i64 kp, .slice ob np cb, .slice (some ⟨b1, f1, none⟩) nr cR, .slice (some ⟨bt, ft, none⟩) nt ct] 46)).alloc (.cells #[.int .i64 a, .int .i64 b, .int .i64 f, .int .i64 s, .slice po pn pc] 68)) = W := ⟨_, rfl⟩
 have hb_W0 : Below w.heap.size w W0 := by rw [← hW0]; exact (((Below.refl _ _).alloc (Nat.le_refl _) _).alloc (by simp <;> omega) _)
 have HB := hide hb_W0
 clear hb_W0
 have zz : w.heap.size < W0.heap.size := by rw [← hW0]; simp <;> omega
 have z0 : W0.cell? ⟨w.heap.size, 0, none⟩ = some (.int .i64 kj) := by rw [← hW0]; simp [go_sem]
 have z1 : W0.cell? ⟨w.heap.size, 1, none⟩ = some (.slice o nj c) := by rw [← hW0]; simp [go_sem]
 have z2 : W0.cell? ⟨w.heap.size, 2, none⟩ = some (.int .i64 sj) := by rw [← hW0]; simp [go_sem]
 have z3 : W0.cell? ⟨w.heap.size, 3, none⟩ = some (.int .i64 kp) := by rw [← hW0]; simp [go_sem]
 have z4 : W0.cell? ⟨w.heap.size, 4, none⟩ = some (.slice ob np cb) := by rw [← hW0]; simp [go_sem]
 have z5 : W0.cell? ⟨w.heap.size, 5, none⟩ = some (.slice (some ⟨b1, f1, none⟩) nr cR) := by rw [← hW0]; simp [go_sem]
 have z6 : W0.cell? ⟨w.heap.size, 6, none⟩ = some (.slice (some ⟨bt, ft, none⟩) nt ct) := by rw [← hW0]; simp [go_sem]
 have zp : w.heap.size + 1 < W0.heap.size := by rw [← hW0]; simp
 have p0 : W0.cell? ⟨w.heap.size + 1, 0, none⟩ = some (.int .i64 a) := by rw [← hW0]; simp [go_sem]
 have p1 : W0.cell? ⟨w.heap.size + 1, 1, none⟩ = some (.int .i64 b) := by rw [← hW0]; simp [go_sem]
 have p2 : W0.cell? ⟨w.heap.size + 1, 2, none⟩ = some (.int .i64 f) := by rw [← hW0]; simp [go_sem]
 have p3 : W0.cell? ⟨w.heap.size + 1, 3, none⟩ = some (.int .i64 s) := by rw [← hW0]; simp [go_sem]
 have p4 : W0.cell? ⟨w.heap.size + 1, 4, none⟩ = some (.slice po pn pc) := by rw [← hW0]; simp [go_sem]
 go_enter Tryz.func72, Tryz.ntmps72
 go_wp2_with fail
 refine (HBK.out W0).mono ?_
 rintro e v1 ⟨rfl, hb⟩
 replace z0 := bC hb z0 zz
 replace z1 := bC hb z1 zz
 replace z2 := bC hb z2 zz
 replace z3 := bC hb z3 zz
 replace z4 := bC hb z4 zz
 replace z5 := bC hb z5 zz
 replace z6 := bC hb z6 zz
 replace zz := Nat.lt_of_lt_of_le zz hb.size
 replace p0 := bC hb p0 zp
 replace p1 := bC hb p1 zp
 replace p2 := bC hb p2 zp
 replace p3 := bC hb p3 zp
 replace p4 := bC hb p4 zp
 replace zp := Nat.lt_of_lt_of_le zp hb.size
 replace HB := hide (HB.out.trans (hb.mono HB.out.size))
 clear hb
 go_wp2_with fail
 refine (HG5.out v1 HB.out).mono ?_
 rintro e v2 ⟨rfl, hb⟩
 replace z0 := bC hb z0 zz
 replace z1 := bC hb z1 zz
 replace z2 := bC hb z2 zz
 replace z3 := bC hb z3 zz
 replace z4 := bC hb z4 zz
 replace z5 := bC hb z5 zz
 replace z6 := bC hb z6 zz
 replace zz := Nat.lt_of_lt_of_le zz hb.size
 replace p0 := bC hb p0 zp
 replace p1 := bC hb p1 zp
 replace p2 := bC hb p2 zp
 replace p3 := bC hb p3 zp
 replace p4 := bC hb p4 zp
 replace zp := Nat.lt_of_lt_of_le zp hb.size
 replace HB := hide (HB.out.trans (hb.mono HB.out.size))
 clear hb
 clear HBK HG5
 obtain ⟨W3, hW3⟩ : ∃ W, (v2.alloc (.cells #[.bool sl.u, .int .i64 sl.a, .int .i64 sl.p, .int .i64 sl.v, .int .i64 sl.t] 99)) = W := ⟨_, rfl⟩
 have hb_W3 : Below v2.heap.size v2 W3 := by rw [← hW3]; exact ((Below.refl _ _).alloc (Nat.le_refl _) _)
 replace z0 := bC hb_W3 z0 zz
 replace z1 := bC hb_W3 z1 zz
 replace z2 := bC hb_W3 z2 zz
 replace z3 := bC hb_W3 z3 zz
 replace z4 := bC hb_W3 z4 zz
 replace z5 := bC hb_W3 z5 zz
 replace z6 := bC hb_W3 z6 zz
 replace zz := Nat.lt_of_lt_of_le zz hb_W3.size
 replace p0 := bC hb_W3 p0 zp
 replace p1 := bC hb_W3 p1 zp
 replace p2 := bC hb_W3 p2 zp
 replace p3 := bC hb_W3 p3 zp
 replace p4 := bC hb_W3 p4 zp
 replace zp := Nat.lt_of_lt_of_le zp hb_W3.size
 replace HB := hide (HB.out.trans (hb_W3.mono HB.out.size))
 clear hb_W3
 have zq : v2.heap.size < W3.heap.size := by rw [← hW3]; simp
 have q0 : W3.cell? ⟨v2.heap.size, 0, none⟩ = some (.bool sl.u) := by rw [← hW3]; simp [go_sem]
 have q1 : W3.cell? ⟨v2.heap.size, 1, none⟩ = some (.int .i64 sl.a) := by rw [← hW3]; simp [go_sem]
 have q2 : W3.cell? ⟨v2.heap.size, 2, none⟩ = some (.int .i64 sl.p) := by rw [← hW3]; simp [go_sem]
 have q3 : W3.cell? ⟨v2.heap.size, 3, none⟩ = some (.int .i64 sl.v) := by rw [← hW3]; simp [go_sem]
 have q4 : W3.cell? ⟨v2.heap.size, 4, none⟩ = some (.int .i64 sl.t) := by rw [← hW3]; simp [go_sem]
 have HB3 := HB
 clear HB
 cases ok with
 | false =>
  have HQ0 := hide (segsTo_zero false sl.v cs)
  go_wp2_with fail
  refine (HCA.out W3 HB3.out).mono ?_
  rintro e w6 ⟨cv, rfl, hown, hb⟩
  have HO6 := hide (World.ownsRow_nil w6 W3.heap.size 126 2)
  have HB6 := hide hb
  have HC6 : Hid (ownL layI 3 w6 0 cv cs) := own_mono hown (Nat.zero_le _)
  clear hb hown HCA
  obtain ⟨co, cc, e5, _⟩ := ownL.open (L := layI) HC6.out
  subst e5
  obtain ⟨n, hnn⟩ : ∃ n, cs.length = n := ⟨_, rfl⟩
  rw [hnn] at HC6 h6 ⊢
  have HNN := hide hnn
  clear hnn
  have z0r := bC HB6.out z0 zz
  have z1r := bC HB6.out z1 zz
  have z2r := bC HB6.out z2 zz
  have z3r := bC HB6.out z3 zz
  have z4r := bC HB6.out z4 zz
  have z5r := bC HB6.out z5 zz
  have z6r := bC HB6.out z6 zz
  have p0r := bC HB6.out p0 zp
  have p1r := bC HB6.out p1 zp
  have p2r := bC HB6.out p2 zp
  have p3r := bC HB6.out p3 zp
  have p4r := bC HB6.out p4 zp
  have q0r := bC HB6.out q0 zq
  have q1r := bC HB6.out q1 zq
  have q2r := bC HB6.out q2 zq
  have q3r := bC HB6.out q3 zq
  have q4r := bC HB6.out q4 zq
  go_wp2
  go_loopw [5, 10] (fun ov iv wr => ∃ i : Nat, i ≤ n ∧ iv = .int .i64 (i : Int) ∧ Hid (ownL layG 126 wr W3.heap.size ov (segsTo false sl.v cs i)) ∧ Hid (ownL layI 3 wr 0 (.slice co n cc) cs) ∧ Hid (Below W3.heap.size W3 wr))
   (fun _ iv _ => n - (intOf iv).toNat)
  case atStart => exact ⟨0, Nat.zero_le _, rfl, by rw [HQ0.out]; exact HO6.out, HC6.out, HB6.out⟩
  case round =>
   clear z0r z1r z2r z3r z4r z5r z6r p0r p1r p2r p3r p4r q0r q1r q2r q3r q4r
   clear HO6 HC6 HB6 HQ0
   rename World => wr
   obtain ⟨i, hi', rfl, HO, HC, HBr⟩ := hrel
   have z0r := bC HBr.out z0 zz
   have z1r := bC HBr.out z1 zz
   have z2r := bC HBr.out z2 zz
   have z3r := bC HBr.out z3 zz
   have z4r := bC HBr.out z4 zz
   have z5r := bC HBr.out z5 zz
   have z6r := bC HBr.out z6 zz
   have p0r := bC HBr.out p0 zp
   have p1r := bC HBr.out p1 zp
   have p2r := bC HBr.out p2 zp
   have p3r := bC HBr.out p3 zp
   have p4r := bC HBr.out p4 zp
   have q0r := bC HBr.out q0 zq
   have q1r := bC HBr.out q1 zq
   have q2r := bC HBr.out q2 zq
   have q3r := bC HBr.out q3 zq
   have q4r := bC HBr.out q4 zq
   have hsr := HBr.out.size
   by_cases hlt : i < n
   ·have hlt' : (i : Int) < (n : Int) := by omega
    have hil : i < cs.length := by rw [HNN.out]; exact hlt
    obtain ⟨co', cc', e5, hrd⟩ := ownL.open (L := layI) HC.out
    injection e5 with e51 e52 e53
    subst e51
    clear e52 e53
    rcases hrd with hh | ⟨b3, f3, rfl, hb3, hce⟩
    ·rw [hh] at hil; exact absurd hil (Nat.not_lt_zero _)
    have hc3 := RdL.int hce i hil
    clear hce
    have hln := segsTo_len false sl.v cs i
    have HSY := hide (fun h => segsTo_yes (ok := false) (h := sl.v) (c := cs) hil h)
    have HSN := hide (fun h => segsTo_no (ok := false) (h := sl.v) (c := cs) hil h)
    obtain ⟨cur, hcu⟩ : ∃ q, segsTo false sl.v cs i = q := ⟨_, rfl⟩
    rw [hcu] at HO hln HSY HSN
    clear hcu
    obtain ⟨oo, oc, e6, _⟩ := ownL.open (L := layG) HO.out
    subst e6
    obtain ⟨y, hy⟩ : ∃ y, cs.getD i 0 = y := ⟨_, rfl⟩
    rw [hy] at hc3 HSY HSN
    clear hy
    go_wp2
    go_region
    have HS := hide (HSY.out (by simp))
    have HO9 : Hid (ownL layG 126 wr.drew W3.heap.size (.slice oo cur.length oc) cur) := HO.out
    have HA := hide (World.ownsRow.alloc HO9.out (.cells #[.int .i64 y, .int .i64 0] 126))
    have HC9 : Hid (ownL layI 3 wr.drew 0 (.slice (some ⟨b3, f3, none⟩) n cc) cs) := HC.out
    have HCA' := hide (World.ownsRow.alloc HC9.out (.cells #[.int .i64 y, .int .i64 0] 126))
    have hc4 : (wr.drew.alloc (.cells #[.int .i64 y, .int .i64 0] 126)).cell? ⟨b3, f3 + i, none⟩ = some (.int .i64 y) := bC (show Below wr.drew.heap.size wr.drew _ from (Below.refl _ _).alloc (Nat.le_refl _) _) hc3 hb3
    go_wp2_with (first | (at_builtin; refine wpList_append_lay appG rfl (.tmp 55) (.tmp 61) rfl W3.heap.size _ cur rfl HA.out (some ⟨wr.drew.heap.size, 0, none⟩) 1 _ [(y, 0)] 1 rfl rfl (by simp) rd_oneG (by simp; omega) (by simp; omega) ?_))
    intro v7 w7 ho7 hg7 _
    have HB7 : Hid (Below W3.heap.size W3 w7) := ((Below.drew HBr.out).alloc (show W3.heap.size ≤ wr.drew.heap.size from hsr) _).grown hg7 (by simp; omega) (fun k h => (HA.out.lt k h).1)
    have HC7 := hide (World.ownsRow.kept HCA'.out hg7 (own_apart0 HCA'.out HA.out (by decide)))
    have HO7 := hide ho7
    clear hg7 ho7 HA HCA' hc4
    go_wp2
    go_roundw
    case rel => exact ⟨i + 1, by omega, by go_num, by rw [HS.out]; exact HO7.out, HC7.out, HB7.out⟩
    case measure => simp [intOf]; omega
   ·have e : i = n := by omega
    subst e
    have HRR : Hid (segsTo false sl.v cs cs.length = segsTo false sl.v cs i) := by unfold Hid; rw [HNN.out]
    go_wp2_with fail
    refine (HOP.out wr).mono ?_
    rintro e w7 ⟨rfl, hb7⟩
    have HO7 := hide (own_kept HO.out hb7)
    have HB7 := hide (HBr.out.trans (hb7.mono hsr))
    have hs7 := HB7.out.size
    clear z0r z1r z2r z3r z4r z5r z6r p0r p1r p2r p3r p4r q0r q1r q2r q3r q4r
    clear hb7 HO HC HBr hsr HOP
    obtain ⟨base, hbase⟩ : ∃ x, segsTo false sl.v cs i = x := ⟨_, rfl⟩
    rw [hbase] at HO7 HRR
    have hbl := segsTo_len false sl.v cs i
    rw [hbase] at hbl
    clear hbase
    cases op with
    | false =>
     go_wp2
     go_ret
     exact ⟨_, rfl, by rw [HRQ.out]; unfold routeL; rw [if_neg (by decide), HRR.out]; exact own_mono HO7.out HB3.out.size, HB3.out.trans (HB7.out.mono HB3.out.size)⟩
    | true =>
     have z0r := bC HB7.out z0 zz
     have z1r := bC HB7.out z1 zz
     have z2r := bC HB7.out z2 zz
     have z3r := bC HB7.out z3 zz
     have z4r := bC HB7.out z4 zz
     have z5r := bC HB7.out z5 zz
     have z6r := bC HB7.out z6 zz
     have p0r := bC HB7.out p0 zp
     have p1r := bC HB7.out p1 zp
     have p2r := bC HB7.out p2 zp
     have p3r := bC HB7.out p3 zp
     have p4r := bC HB7.out p4 zp
     have q0r := bC HB7.out q0 zq
     have q1r := bC HB7.out q1 zq
     have q2r := bC HB7.out q2 zq
     have q3r := bC HB7.out q3 zq
     have q4r := bC HB7.out q4 zq
     have hc1' := bC (HB3.out.trans (HB7.out.mono HB3.out.size)) HCW1.out hb1
     have hc2' := bC (HB3.out.trans (HB7.out.mono HB3.out.size)) HCW2.out hb2
     go_wp2
     go_loopw [5, 12] (fun ov kv wq => ∃ k : Nat, k ≤ m ∧ kv = .int .i64 (k : Int) ∧ Hid (ownL layG 126 wq W3.heap.size ov (huntTo base row k)) ∧ Hid (Below W3.heap.size W3 wq))
      (fun _ kv _ => m - (intOf kv).toNat)
     case atStart => exact ⟨0, Nat.zero_le _, rfl, by rw [huntTo_zero]; exact HO7.out, HB7.out⟩
     case round =>
      clear z0r z1r z2r z3r z4r z5r z6r p0r p1r p2r p3r p4r q0r q1r q2r q3r q4r
      clear hc1' hc2' HO7 HB7 hs7
      rename World => wq
      obtain ⟨k, hk', rfl, HO, HBq⟩ := hrel
      have hsq := HBq.out.size
      have HBW := hide (HB3.out.trans (HBq.out.mono HB3.out.size))
      by_cases hlk : k < m
      ·have hlk' : (k : Int) < (m : Int) := by omega
       have hkr : k < row.length := by rw [HMM.out]; exact hlk
       rcases HR9.out with hh | ⟨b3, f3, rfl, hb3, hce⟩
       ·rw [hh] at hkr; exact absurd hkr (Nat.not_lt_zero _)
       have hc3 := bC HBW.out (RdL.int hce k hkr) hb3
       clear hce
       have hb3' : b3 < wq.heap.size := Nat.lt_of_lt_of_le hb3 HBW.out.size
       have hln := huntTo_len base row k
       have HS := hide (huntTo_succ (l := base) hkr)
       obtain ⟨cur, hcu⟩ : ∃ q, huntTo base row k = q := ⟨_, rfl⟩
       rw [hcu] at HO hln HS
       clear hcu
       obtain ⟨oo, oc, e6, _⟩ := ownL.open (L := layG) HO.out
       subst e6
       obtain ⟨y, hy⟩ : ∃ y, row.getD k 0 = y := ⟨_, rfl⟩
       rw [hy] at hc3 HS
       clear hy
       have HA := hide (World.ownsRow.alloc HO.out (.cells #[.int .i64 y, .int .i64 1] 126))
       have hc4 : (wq.alloc (.cells #[.int .i64 y, .int .i64 1] 126)).cell? ⟨b3, f3 + k, none⟩ = some (.int .i64 y) := bC ((Below.refl _ _).alloc (Nat.le_refl _) _) hc3 hb3'
       go_wp2_with (first | (at_builtin; refine wpList_append_lay appG rfl (.tmp 79) (.tmp 85) rfl W3.heap.size _ cur rfl HA.out (some ⟨wq.heap.size, 0, none⟩) 1 _ [(y, 1)] 1 rfl rfl (by simp) rd_oneG (by simp; omega) (by simp; omega) ?_))
       intro v8 w8 ho8 hg8 _
       have HB8 := hide ((HBq.out.alloc hsq _).grown hg8 (by simp; omega) (fun k h => (HA.out.lt k h).1))
       have HO8 := hide ho8
       clear hg8 ho8 HA
       go_wp2
       go_roundw
       case rel => exact ⟨k + 1, by omega, by go_num, by rw [HS.out]; exact HO8.out, HB8.out⟩
       case measure => simp [intOf]; omega
      ·have e : k = m := by omega
       subst e
       go_wp2
       go_ret
       exact ⟨_, rfl, by rw [HRQ.out]; unfold routeL; rw [if_pos rfl, HRR.out, HMM.out]; exact own_mono HO.out HB3.out.size, HBW.out⟩
 | true =>
  have HQ0 := hide (segsTo_zero true sl.v cs)
  have HA := hide (World.ownsRow_nil (W3.alloc (.cells #[.int .i64 sl.v, .int .i64 0] 126)) W3.heap.size 126 2)
  go_wp2_with (first | (at_builtin; refine wpList_append_lay appG rfl (.tmp 28) (.tmp 32) rfl W3.heap.size _ [] rfl HA.out (some ⟨W3.heap.size, 0, none⟩) 1 _ [(sl.v, 0)] 1 rfl rfl (by simp) rd_oneG (by simp) (by simp) ?_))
  intro v5 w5 ho5 hg5 _
  have HB5 := hide ((((Below.refl W3.heap.size W3).alloc (Nat.le_refl _) _).grown hg5 (by simp) (fun k h => by cases h)))
  have HO5 := hide ho5
  clear hg5 ho5 HA
  have z0r := bC HB5.out z0 zz
  have z1r := bC HB5.out z1 zz
  have z2r := bC HB5.out z2 zz
  have z3r := bC HB5.out z3 zz
  have z4r := bC HB5.out z4 zz
  have z5r := bC HB5.out z5 zz
  have z6r := bC HB5.out z6 zz
  have p0r := bC HB5.out p0 zp
  have p1r := bC HB5.out p1 zp
  have p2r := bC HB5.out p2 zp
  have p3r := bC HB5.out p3 zp
  have p4r := bC HB5.out p4 zp
  have q0r := bC HB5.out q0 zq
  have q1r := bC HB5.out q1 zq
  have q2r := bC HB5.out q2 zq
  have q3r := bC HB5.out q3 zq
  have q4r := bC HB5.out q4 zq
  go_wp2_with fail
  refine (HCA.out w5 (HB3.out.trans (HB5.out.mono HB3.out.size))).mono ?_
  rintro e w6 ⟨cv, rfl, hown, hb⟩
  clear z0r z1r z2r z3r z4r z5r z6r p0r p1r p2r p3r p4r q0r q1r q2r q3r q4r
  have HO6 := hide (own_kept HO5.out hb)
  have HB6 := hide (HB5.out.trans (hb.mono HB5.out.size))
  have HC6 : Hid (ownL layI 3 w6 0 cv cs) := own_mono hown (Nat.zero_le _)
  clear hb hown HCA
  obtain ⟨co, cc, e5, _⟩ := ownL.open (L := layI) HC6.out
  subst e5
  obtain ⟨n, hnn⟩ : ∃ n, cs.length = n := ⟨_, rfl⟩
  rw [hnn] at HC6 h6 ⊢
  have HNN := hide hnn
  clear hnn
  have z0r := bC HB6.out z0 zz
  have z1r := bC HB6.out z1 zz
  have z2r := bC HB6.out z2 zz
  have z3r := bC HB6.out z3 zz
  have z4r := bC HB6.out z4 zz
  have z5r := bC HB6.out z5 zz
  have z6r := bC HB6.out z6 zz
  have p0r := bC HB6.out p0 zp
  have p1r := bC HB6.out p1 zp
  have p2r := bC HB6.out p2 zp
  have p3r := bC HB6.out p3 zp
  have p4r := bC HB6.out p4 zp
  have q0r := bC HB6.out q0 zq
  have q1r := bC HB6.out q1 zq
  have q2r := bC HB6.out q2 zq
  have q3r := bC HB6.out q3 zq
  have q4r := bC HB6.out q4 zq
  go_wp2
  go_loopw [5, 10] (fun ov iv wr => ∃ i : Nat, i ≤ n ∧ iv = .int .i64 (i : Int) ∧ Hid (ownL layG 126 wr W3.heap.size ov (segsTo true sl.v cs i)) ∧ Hid (ownL layI 3 wr 0 (.slice co n cc) cs) ∧ Hid (Below W3.heap.size W3 wr))
   (fun _ iv _ => n - (intOf iv).toNat)
  case atStart => exact ⟨0, Nat.zero_le _, rfl, by rw [HQ0.out]; exact HO6.out, HC6.out, HB6.out⟩
  case round =>
   clear z0r z1r z2r z3r z4r z5r z6r p0r p1r p2r p3r p4r q0r q1r q2r q3r q4r
   clear HO6 HC6 HB6 HQ0 HO5 HB5
   rename World => wr
   obtain ⟨i, hi', rfl, HO, HC, HBr⟩ := hrel
   have z0r := bC HBr.out z0 zz
   have z1r := bC HBr.out z1 zz
   have z2r := bC HBr.out z2 zz
   have z3r := bC HBr.out z3 zz
   have z4r := bC HBr.out z4 zz
   have z5r := bC HBr.out z5 zz
   have z6r := bC HBr.out z6 zz
   have p0r := bC HBr.out p0 zp
   have p1r := bC HBr.out p1 zp
   have p2r := bC HBr.out p2 zp
   have p3r := bC HBr.out p3 zp
   have p4r := bC HBr.out p4 zp
   have q0r := bC HBr.out q0 zq
   have q1r := bC HBr.out q1 zq
   have q2r := bC HBr.out q2 zq
   have q3r := bC HBr.out q3 zq
   have q4r := bC HBr.out q4 zq
   have hsr := HBr.out.size
   by_cases hlt : i < n
   ·have hlt' : (i : Int) < (n : Int) := by omega
    have hil : i < cs.length := by rw [HNN.out]; exact hlt
    obtain ⟨co', cc', e5, hrd⟩ := ownL.open (L := layI) HC.out
    injection e5 with e51 e52 e53
    subst e51
    clear e52 e53
    rcases hrd with hh | ⟨b3, f3, rfl, hb3, hce⟩
    ·rw [hh] at hil; exact absurd hil (Nat.not_lt_zero _)
    have hc3 := RdL.int hce i hil
    clear hce
    have hln := segsTo_len true sl.v cs i
    have HSY := hide (fun h => segsTo_yes (ok := true) (h := sl.v) (c := cs) hil h)
    have HSN := hide (fun h => segsTo_no (ok := true) (h := sl.v) (c := cs) hil h)
    obtain ⟨cur, hcu⟩ : ∃ q, segsTo true sl.v cs i = q := ⟨_, rfl⟩
    rw [hcu] at HO hln HSY HSN
    clear hcu
    obtain ⟨oo, oc, e6, _⟩ := ownL.open (L := layG) HO.out
    subst e6
    obtain ⟨y, hy⟩ : ∃ y, cs.getD i 0 = y := ⟨_, rfl⟩
    rw [hy] at hc3 HSY HSN
    clear hy
    by_cases hx : y = sl.v
    ·have HS := hide (HSN.out (by rw [hx]; simp))
     subst hx
     go_wp2
     go_region
     all_goals (try go_wp2)
     go_roundw
     case rel => exact ⟨i + 1, by omega, by go_num, by rw [HS.out]; exact HO.out, HC.out, Below.drew HBr.out⟩
     case measure => simp [intOf]; omega
    ·have hx' : ¬ sl.v = y := fun e => hx e.symm
     go_wp2
     go_region
     have HS := hide (HSY.out (by simp [hx]))
     have HO9 : Hid (ownL layG 126 wr.drew W3.heap.size (.slice oo cur.length oc) cur) := HO.out
     have HA := hide (World.ownsRow.alloc HO9.out (.cells #[.int .i64 y, .int .i64 0] 126))
     have HC9 : Hid (ownL layI 3 wr.drew 0 (.slice (some ⟨b3, f3, none⟩) n cc) cs) := HC.out
     have HCA' := hide (World.ownsRow.alloc HC9.out (.cells #[.int .i64 y, .int .i64 0] 126))
     have hc4 : (wr.drew.alloc (.cells #[.int .i64 y, .int .i64 0] 126)).cell? ⟨b3, f3 + i, none⟩ = some (.int .i64 y) := bC (show Below wr.drew.heap.size wr.drew _ from (Below.refl _ _).alloc (Nat.le_refl _) _) hc3 hb3
     go_wp2_with (first | (at_builtin; refine wpList_append_lay appG rfl (.tmp 55) (.tmp 61) rfl W3.heap.size _ cur rfl HA.out (some ⟨wr.drew.heap.size, 0, none⟩) 1 _ [(y, 0)] 1 rfl rfl (by simp) rd_oneG (by simp; omega) (by simp; omega) ?_))
     intro v7 w7 ho7 hg7 _
     have HB7 : Hid (Below W3.heap.size W3 w7) := ((Below.drew HBr.out).alloc (show W3.heap.size ≤ wr.drew.heap.size from hsr) _).grown hg7 (by simp; omega) (fun k h => (HA.out.lt k h).1)
     have HC7 := hide (World.ownsRow.kept HCA'.out hg7 (own_apart0 HCA'.out HA.out (by decide)))
     have HO7 := hide ho7
     clear hg7 ho7 HA HCA' hc4
     go_wp2
     go_roundw
     case rel => exact ⟨i + 1, by omega, by go_num, by rw [HS.out]; exact HO7.out, HC7.out, HB7.out⟩
     case measure => simp [intOf]; omega
   ·have e : i = n := by omega
    subst e
    have HRR : Hid (segsTo true sl.v cs cs.length = segsTo true sl.v cs i) := by unfold Hid; rw [HNN.out]
    go_wp2_with fail
    refine (HOP.out wr).mono ?_
    rintro e w7 ⟨rfl, hb7⟩
    have HO7 := hide (own_kept HO.out hb7)
    have HB7 := hide (HBr.out.trans (hb7.mono hsr))
    have hs7 := HB7.out.size
    clear z0r z1r z2r z3r z4r z5r z6r p0r p1r p2r p3r p4r q0r q1r q2r q3r q4r
    clear hb7 HO HC HBr hsr HOP
    obtain ⟨base, hbase⟩ : ∃ x, segsTo true sl.v cs i = x := ⟨_, rfl⟩
    rw [hbase] at HO7 HRR
    have hbl := segsTo_len true sl.v cs i
    rw [hbase] at hbl
    clear hbase
    cases op with
    | false =>
     go_wp2
     go_ret
     exact ⟨_, rfl, by rw [HRQ.out]; unfold routeL; rw [if_neg (by decide), HRR.out]; exact own_mono HO7.out HB3.out.size, HB3.out.trans (HB7.out.mono HB3.out.size)⟩
    | true =>
     have z0r := bC HB7.out z0 zz
     have z1r := bC HB7.out z1 zz
     have z2r := bC HB7.out z2 zz
     have z3r := bC HB7.out z3 zz
     have z4r := bC HB7.out z4 zz
     have z5r := bC HB7.out z5 zz
     have z6r := bC HB7.out z6 zz
     have p0r := bC HB7.out p0 zp
     have p1r := bC HB7.out p1 zp
     have p2r := bC HB7.out p2 zp
     have p3r := bC HB7.out p3 zp
     have p4r := bC HB7.out p4 zp
     have q0r := bC HB7.out q0 zq
     have q1r := bC HB7.out q1 zq
     have q2r := bC HB7.out q2 zq
     have q3r := bC HB7.out q3 zq
     have q4r := bC HB7.out q4 zq
     have hc1' := bC (HB3.out.trans (HB7.out.mono HB3.out.size)) HCW1.out hb1
     have hc2' := bC (HB3.out.trans (HB7.out.mono HB3.out.size)) HCW2.out hb2
     go_wp2
     go_loopw [5, 12] (fun ov kv wq => ∃ k : Nat, k ≤ m ∧ kv = .int .i64 (k : Int) ∧ Hid (ownL layG 126 wq W3.heap.size ov (huntTo base row k)) ∧ Hid (Below W3.heap.size W3 wq))
      (fun _ kv _ => m - (intOf kv).toNat)
     case atStart => exact ⟨0, Nat.zero_le _, rfl, by rw [huntTo_zero]; exact HO7.out, HB7.out⟩
     case round =>
      clear z0r z1r z2r z3r z4r z5r z6r p0r p1r p2r p3r p4r q0r q1r q2r q3r q4r
      clear hc1' hc2' HO7 HB7 hs7
      rename World => wq
      obtain ⟨k, hk', rfl, HO, HBq⟩ := hrel
      have hsq := HBq.out.size
      have HBW := hide (HB3.out.trans (HBq.out.mono HB3.out.size))
      by_cases hlk : k < m
      ·have hlk' : (k : Int) < (m : Int) := by omega
       have hkr : k < row.length := by rw [HMM.out]; exact hlk
       rcases HR9.out with hh | ⟨b3, f3, rfl, hb3, hce⟩
       ·rw [hh] at hkr; exact absurd hkr (Nat.not_lt_zero _)
       have hc3 := bC HBW.out (RdL.int hce k hkr) hb3
       clear hce
       have hb3' : b3 < wq.heap.size := Nat.lt_of_lt_of_le hb3 HBW.out.size
       have hln := huntTo_len base row k
       have HS := hide (huntTo_succ (l := base) hkr)
       obtain ⟨cur, hcu⟩ : ∃ q, huntTo base row k = q := ⟨_, rfl⟩
       rw [hcu] at HO hln HS
       clear hcu
       obtain ⟨oo, oc, e6, _⟩ := ownL.open (L := layG) HO.out
       subst e6
       obtain ⟨y, hy⟩ : ∃ y, row.getD k 0 = y := ⟨_, rfl⟩
       rw [hy] at hc3 HS
       clear hy
       have HA := hide (World.ownsRow.alloc HO.out (.cells #[.int .i64 y, .int .i64 1] 126))
       have hc4 : (wq.alloc (.cells #[.int .i64 y, .int .i64 1] 126)).cell? ⟨b3, f3 + k, none⟩ = some (.int .i64 y) := bC ((Below.refl _ _).alloc (Nat.le_refl _) _) hc3 hb3'
       go_wp2_with (first | (at_builtin; refine wpList_append_lay appG rfl (.tmp 79) (.tmp 85) rfl W3.heap.size _ cur rfl HA.out (some ⟨wq.heap.size, 0, none⟩) 1 _ [(y, 1)] 1 rfl rfl (by simp) rd_oneG (by simp; omega) (by simp; omega) ?_))
       intro v8 w8 ho8 hg8 _
       have HB8 := hide ((HBq.out.alloc hsq _).grown hg8 (by simp; omega) (fun k h => (HA.out.lt k h).1))
       have HO8 := hide ho8
       clear hg8 ho8 HA
       go_wp2
       go_roundw
       case rel => exact ⟨k + 1, by omega, by go_num, by rw [HS.out]; exact HO8.out, HB8.out⟩
       case measure => simp [intOf]; omega
      ·have e : k = m := by omega
       subst e
       go_wp2
       go_ret
       exact ⟨_, rfl, by rw [HRQ.out]; unfold routeL; rw [if_pos rfl, HRR.out, HMM.out]; exact own_mono HO.out HB3.out.size, HBW.out⟩

end Go.Proofs.YtajfkcpifnpkeaaGreat

/- The candidates of a bucket; the program's side. -/
namespace Go.Proofs.YtajfkcpifnpkeaaGreat
open Go.ChangeShapes Go.WideShapes Go.ChangeAt Go.RowKit Go.Joins
set_option linter.unusedVariables false
set_option linter.unusedSimpArgs false


theorem RiV.grow {α : Type} {L : Lay α} {a b : Nat} {w w' : World} {v : Value} {l : List α} {r : Option Nat} (h : RiV L a b w v l) (hg : w.grownBy w' r) (ho : ∀ g, r = some g → g < a ∨ b ≤ g) : RiV L a b w' v l := by
 cases r with
 | none => exact h.step (Stp.grown (lo := 0) (hi := 0) hg (fun b e => by cases e)) (.inl (Nat.zero_le _))
 | some g => exact h.step (Stp.grown (lo := g) (hi := g + 1) hg (fun b e => by injection e with e; omega)) (by have := ho g rfl; omega)
theorem pt_cells (f : Pt) (b : Nat) (h : b < 8) : (ptA f)[b * 3]? = some (.bool (f b).1) ∧ (ptA f)[b * 3 + 1]? = some (.int .i64 (f b).2.1) ∧ (ptA f)[b * 3 + 2]? = some (.int .i64 (f b).2.2) := by
 have h1 : ∀ j, j < 3 → (ptA f)[b * 3 + j]? = (layP.cs (((List.range 8).map f).getD b layP.d))[j]? := fun j hj => by
  have := flat_get layP ((List.range 8).map f) b j (by simpa using h) hj
  rw [show layP.k = 3 from rfl] at this
  unfold ptA ptL
  rw [List.getElem?_toArray]
  exact this
 have e : ((List.range 8).map f).getD b layP.d = f b := by simp [h]
 rw [e] at h1
 exact ⟨h1 0 (by decide), h1 1 (by decide), h1 2 (by decide)⟩
theorem map_tab (R : List (List (List Int))) (i : Nat) (h : i < R.length) : (R.map tabF).getD i ptZ = tabF (R.getD i []) := by simp [h]

set_option maxRecDepth 100000 in
set_option maxHeartbeats 8000000 in
theorem implCandidates_sh (v : Value) (m : Pm) (q : Int) (w : World) (hR : RdPm w.heap.size w v m) (hf : fitPm m) :
  Calls Tryz.prog 140 #[v, .int .i64 q] w fun e w' => ∃ v', e = .returned v' ∧ ownI w' w.heap.size v' (candM m q) ∧ Below w.heap.size w w' := by
 have HCM := hide (show candM m q = if (poolB m && decide (0 ≤ q) && decide (q < 8)) = true then candL m.ring q.toNat else [] from rfl)
 have HFA := hide (fun h : poolB m = true => pool_facts h)
 obtain ⟨vb, vr, rfl, hvb, rr⟩ := hR
 obtain ⟨o, c, rfl, r⟩ := hvb.open
 obtain ⟨oR, cR, rfl⟩ := RiR.len rr
 obtain ⟨key, l, lll⟩ := m
 dsimp only at *
 clear hvb
 obtain ⟨W0, hW0⟩ : ∃ W, (w.alloc (.cells #[.int .i64 key, .slice o l.length c, .slice oR lll.length cR] 41)) = W := ⟨_, rfl⟩
 have hb_W0 : Below w.heap.size w W0 := by rw [← hW0]; exact (Below.refl _ _).alloc (Nat.le_refl _) _
 have HB := hide hb_W0
 clear hb_W0
 have zz : w.heap.size < W0.heap.size := by rw [← hW0]; simp
 have z0 : W0.cell? ⟨w.heap.size, 0, none⟩ = some (.int .i64 key) := by rw [← hW0]; simp [go_sem]
 have z1 : W0.cell? ⟨w.heap.size, 1, none⟩ = some (.slice o l.length c) := by rw [← hW0]; simp [go_sem]
 have z2 : W0.cell? ⟨w.heap.size, 2, none⟩ = some (.slice oR lll.length cR) := by rw [← hW0]; simp [go_sem]
 have HPF := hide (poolFrom_go key o c l oR cR lll lll.length rfl W0 ((r.kept HB.out (Nat.le_refl _)).le HB.out.size) (RiR.mon.go (RiR.stp.go rr (Stp.of (lo := 0) (hi := 0) HB.out) (.inl (Nat.zero_le _))) (Nat.le_refl _) HB.out.size) hf)
 have HBU := hide (fun W => isBucket_any q W)
 clear r rr
 go_enter Tryz.func140, Tryz.ntmps140
 go_wp2_with fail
 refine HPF.out.mono ?_
 rintro e v1 ⟨vP, rfl, h1, h2, hb⟩
 have HB1 := hide (HB.out.trans (hb.mono HB.out.size))
 clear hb HPF HB z0 z1 z2 zz
 cases hp : poolB ⟨key, l, lll⟩ with
 | false =>
  rw [hp] at HCM
  have e2 := h2 hp
  subst e2
  clear h1 h2
  go_wp2
  go_ret
  exact ⟨_, rfl, by rw [HCM.out]; exact World.ownsRow_nil _ _ _ _, HB1.out.alloc HB1.out.size _⟩
 | true =>
  rw [hp] at HCM
  obtain ⟨o2, c2, e2, hown⟩ := h1 hp
  have HF := hide (HFA.out hp)
  subst e2
  have HOT := hide (ownL.rds (L := layT) hown)
  clear h1 h2 HFA hown hp
  by_cases h0 : q < 0
  ·have eb : (decide (0 ≤ q) && decide (q < 8)) = false := by simp; omega
   rw [eb] at HBU
   clear eb
   go_wp2_with (first | (go_at_call 187; refine (HBU.out _).mono ?_; rintro e w1 ⟨rfl, rfl⟩))
   go_ret
   exact ⟨_, rfl, by rw [HCM.out, if_neg (by simp; omega)]; exact World.ownsRow_nil _ _ _ _, HB1.out.alloc HB1.out.size _⟩
  by_cases h8 : 8 ≤ q
  ·have eb : (decide (0 ≤ q) && decide (q < 8)) = false := by simp; omega
   rw [eb] at HBU
   clear eb
   go_wp2_with (first | (go_at_call 187; refine (HBU.out _).mono ?_; rintro e w1 ⟨rfl, rfl⟩))
   go_ret
   exact ⟨_, rfl, by rw [HCM.out, if_neg (by simp; omega)]; exact World.ownsRow_nil _ _ _ _, HB1.out.alloc HB1.out.size _⟩
  obtain ⟨b, rfl⟩ : ∃ b : Nat, q = (b : Int) := ⟨q.toNat, by omega⟩
  have hb8 : b < 8 := by omega
  have hb8' : (b : Int) < 8 := by omega
  have eb : (decide (0 ≤ (b : Int)) && decide ((b : Int) < 8)) = true := by simp; omega
  rw [eb] at HBU
  have HCM2 := hide (show candM ⟨key, l, lll⟩ (b : Int) = candL lll b by rw [HCM.out, if_pos (by simp; omega)]; simp)
  clear eb HCM h0 h8
  obtain ⟨n, hn⟩ : ∃ n, lll.length = n := ⟨_, rfl⟩
  rw [hn]
  have HNN := hide hn
  have hn3 : n ≤ 3 := by rw [← hn]; exact HF.out.2.2.2.1
  clear hn
  obtain ⟨W1, hW1⟩ : ∃ W, v1.alloc (.cells #[.int .i64 key, .slice o l.length c, .slice o2 n c2] 213) = W := ⟨_, rfl⟩
  have hb1 : Below v1.heap.size v1 W1 := by rw [← hW1]; exact (Below.refl _ _).alloc (Nat.le_refl _) _
  have zz : v1.heap.size < W1.heap.size := by rw [← hW1]; simp
  have z2 : W1.cell? ⟨v1.heap.size, 2, none⟩ = some (.slice o2 n c2) := by rw [← hW1]; simp [go_sem]
  have HB2 := hide (HB1.out.trans (hb1.mono HB1.out.size))
  have HV := hide hb1
  clear hb1
  go_wp2_with (first | (go_at_call 187; refine (HBU.out _).mono ?_; rintro e w1 ⟨rfl, rfl⟩))
  go_loopw [7, 27] (fun ov iv wr => ∃ i : Nat, i ≤ n ∧ iv = .int .i64 (i : Int) ∧ Hid (ownI wr W1.heap.size ov (candL (lll.take i) b)) ∧ (candL (lll.take i) b).length ≤ 2 * i ∧ Hid (Below W1.heap.size W1 wr))
   (fun _ iv _ => n - (intOf iv).toNat)
  case atStart => exact ⟨0, Nat.zero_le _, rfl, World.ownsRow_nil _ _ _ _, by simp [candL], Below.refl _ _⟩
  case round =>
   rename World => wr
   rename_i ov _
   obtain ⟨i, hi', rfl, HO, hL, HBr⟩ := hrel
   by_cases hlt : i < n
   ·have hlt' : (i : Int) < (n : Int) := by omega
    have hif : i < lll.length := by rw [HNN.out]; exact hlt
    have HRD := hide (HOT.out.kept (HV.out.trans (HBr.out.mono HV.out.size)) (Nat.le_refl _))
    rcases HRD.out with hh | ⟨b1, off, rfl, hbl, hrow⟩
    ·have : (lll.map tabF).length = 0 := by rw [hh]; rfl
     rw [List.length_map] at this; omega
    have HRG := hide (RdL.range hrow i (by rw [List.length_map]; exact hif))
    have HTK := hide (candL_take lll b i hif)
    have hrow2 := (pair_row (HF.out.2.2.2.2 i hif)).2 b hb8
    clear hrow HRD
    rw [map_tab lll i hif] at HRG
    obtain ⟨f, hf'⟩ : ∃ f, tabF (lll.getD i []) = f := ⟨_, rfl⟩
    rw [hf'] at HRG
    have HIP := hide (show ipList (f b) = (lll.getD i []).getD b [] by rw [← hf']; exact ipList_of hrow2)
    have hy9 := pair_len hrow2
    clear hf' hrow2
    obtain ⟨row, hrw⟩ : ∃ row, (lll.getD i []).getD b [] = row := ⟨_, rfl⟩
    rw [hrw] at HIP hy9 HTK
    clear hrw
    obtain ⟨bas, hbs⟩ : ∃ q, candL (lll.take i) b = q := ⟨_, rfl⟩
    rw [hbs] at HO hL HTK
    clear hbs
    obtain ⟨W2, hW2⟩ : ∃ W, wr.alloc (.cells (ptA f) 240) = W := ⟨_, rfl⟩
    have hb2 : Below wr.heap.size wr W2 := by rw [← hW2]; exact (Below.refl _ _).alloc (Nat.le_refl _) _
    have hz5 : W2.heap[wr.heap.size]? = some (.cells (ptA f) 240 (0, 0)) := by rw [← hW2]; exact World.alloc_heap_new wr _
    have hpc := pt_cells f b hb8
    have y0 : W2.cell? ⟨wr.heap.size, b * 3, none⟩ = some (.bool (f b).1) := bx_cell hz5 _ _ hpc.1
    have y1 : W2.cell? ⟨wr.heap.size, b * 3 + 1, none⟩ = some (.int .i64 (f b).2.1) := bx_cell hz5 _ _ hpc.2.1
    have y2 : W2.cell? ⟨wr.heap.size, b * 3 + 2, none⟩ = some (.int .i64 (f b).2.2) := bx_cell hz5 _ _ hpc.2.2
    have HLS := hide (list_any (f b) W2)
    have hs2 := hb2.size
    have HB3 := hide (HBr.out.trans (hb2.mono HBr.out.size))
    have HLT := hide (fun g e => (HO.out.lt g e).2)
    have HO2 := hide (own_kept HO.out hb2)
    clear hb2 hz5 hpc HO HBr
    go_wp2_with (first | (refine wpList_load_mid rfl 240 (.tmp 29) rfl b1 (off + i * 24) rfl (ptL f) _ HRG.out ptU rfl ptI ?_) | (refine wpList_store_pt rfl (.tmp 9) (.tmp 30) rfl wr.heap.size f ptZ rfl rfl (World.alloc_heap_new wr _) ?_; rw [World.setRow_alloc_new, hW2]) | fail)
    refine HLS.out.mono ?_
    rintro e v3 ⟨o4, c4, rfl, ow4, hb4⟩
    have HRL := hide (InRow.ri (InRow.of ow4))
    rw [HIP.out] at HRL ⊢
    have hs4 := hb4.size
    have HO4 := hide (own_kept HO2.out hb4)
    have HB4 := hide (HB3.out.trans (hb4.mono HB3.out.size))
    clear ow4 hb4 HO2 HB3 HLS y0 y1 y2
    obtain ⟨m, hm⟩ : ∃ r, row.length = r := ⟨_, rfl⟩
    rw [hm] at hy9 HRL ⊢
    have HM := hide hm
    clear hm
    go_wp2
    go_loopw [7, 36] (fun ov kv wq => ∃ k : Nat, k ≤ m ∧ kv = .int .i64 (k : Int) ∧ Hid (ownI wq W1.heap.size ov (addAll bas (row.take k))) ∧ (addAll bas (row.take k)).length ≤ 2 * i + k ∧ Hid (Below W1.heap.size W1 wq) ∧ Hid (RiV layI W2.heap.size v3.heap.size wq (.slice o4 m c4) row) ∧ v3.heap.size ≤ wq.heap.size ∧ Hid (∀ g, ov.ownBlock = some g → g < W2.heap.size ∨ v3.heap.size ≤ g))
     (fun _ kv _ => m - (intOf kv).toNat)
    case atStart => exact ⟨0, Nat.zero_le _, rfl, HO4.out, by simpa [addAll] using hL, HB4.out, HRL.out, Nat.le_refl _, fun g e => .inl (by have := HLT.out g e; omega)⟩
    case round =>
     rename World => wq
     rename_i ov2 _
     obtain ⟨k, hk', rfl, HO2, hL2, HBq, HRq, hs5, HGq⟩ := hrel
     clear HO4 HB4 HRL HRG HLT
     by_cases hlk : k < m
     ·have hlk' : (k : Int) < (m : Int) := by omega
      have hkr : k < row.length := by rw [HM.out]; exact hlk
      obtain ⟨o5, c5, e6, hr5⟩ := RiV.open HRq.out
      injection e6 with e7 e8 e9
      subst e7
      rcases hr5 with hh | ⟨b3, off3, rfl, hb3, hcell⟩
      ·rw [hh] at hkr; exact absurd hkr (Nat.not_lt_zero _)
      have hc3 : wq.cell? ⟨b3, off3 + k, none⟩ = some (.int .i64 (row.getD k 0)) := RdL.int hcell k hkr
      have HTK2 := hide (addAll_take bas row k hkr)
      clear hcell e8 e9
      obtain ⟨y, hy⟩ : ∃ y, row.getD k 0 = y := ⟨_, rfl⟩
      rw [hy] at hc3 HTK2
      clear hy
      obtain ⟨cur, hcu⟩ : ∃ q, addAll bas (row.take k) = q := ⟨_, rfl⟩
      rw [hcu] at HO2 hL2 HTK2
      clear hcu
      obtain ⟨oo, co, e5, hrd⟩ := ownL.open (L := layI) HO2.out
      subst e5
      have HH := hide (contains_any oo co cur y wq hrd (by omega))
      clear hrd
      go_wp2_with fail
      refine HH.out.mono ?_
      rintro e w4 ⟨rfl, rfl⟩
      clear HH
      cases hh : cur.contains y with
      | true =>
       have HY := hide (addTo_yes hh)
       go_wp2
       go_roundw
       case rel => exact ⟨k + 1, by omega, by go_num, by rw [HTK2.out, HY.out]; exact HO2.out, by rw [HTK2.out, HY.out]; omega, HBq.out, HRq.out, hs5, HGq.out⟩
       case measure => simp [intOf]; omega
      | false =>
       have HY := hide (addTo_no hh)
       have hsq := HBq.out.size
       have HA := hide (World.ownsRow.alloc HO2.out (.cells #[.int .i64 y] 3))
       have HRA := hide (HRq.out.step (Stp.of (lo := 0) (hi := 0) ((Below.refl w4.heap.size w4).alloc (Nat.le_refl _) (.cells #[.int .i64 y] 3))) (.inl (Nat.zero_le _)))
       go_wp2_with (first | (at_builtin; refine wpList_append_lay appII rfl (.tmp 44) (.tmp 46) rfl W1.heap.size _ cur rfl HA.out (some ⟨w4.heap.size, 0, none⟩) 1 _ [y] 1 rfl rfl (by simp) rd_oneI (by simp; omega) (by simp; omega) ?_))
       intro v5 w5 ho5 hg5 hn5
       have HB5 := hide ((HBq.out.alloc HBq.out.size _).grown hg5 (by simp; omega) (fun k h => (HA.out.lt k h).1))
       have HO5 := hide ho5
       have HR5 := hide (HRA.out.grow hg5 HGq.out)
       have hs6 : v3.heap.size ≤ w5.heap.size := by have := hg5.size; simp at this; omega
       have HG5 : Hid (∀ g, v5.ownBlock = some g → g < W2.heap.size ∨ v3.heap.size ≤ g) := fun g e => by
        rcases hn5 with hn5 | hn5
        ·rw [hn5] at e; exact HGq.out g e
        ·rw [hn5] at e; have := Option.some.inj e; omega
       clear hg5 ho5 hn5
       go_wp2
       go_roundw
       case rel => exact ⟨k + 1, by omega, by go_num, by rw [HTK2.out, HY.out]; exact HO5.out, by rw [HTK2.out, HY.out, List.length_append]; simp; omega, HB5.out, HR5.out, hs6, HG5.out⟩
       case measure => simp [intOf]; omega
     ·have e : k = m := by omega
      subst e
      rw [← HM.out, List.take_length, ← HTK.out] at HO2 hL2
      go_wp2
      go_roundw
      case rel => exact ⟨i + 1, by omega, by go_num, HO2.out, by rw [HM.out] at hL2; omega, HBq.out⟩
      case measure => simp [intOf]; omega
   ·have e : i = n := by omega
    subst e
    rw [← HNN.out, List.take_length] at HO
    have HBW := hide (HB2.out.trans (HBr.out.mono HB2.out.size))
    go_wp2
    go_ret
    exact ⟨_, rfl, by rw [HCM2.out]; exact own_mono HO.out HB2.out.size, HBW.out⟩

end Go.Proofs.YtajfkcpifnpkeaaGreat

/- The program's route. -/
namespace Go.Proofs.YtajfkcpifnpkeaaGreat
open Go.ChangeShapes Go.WideShapes Go.ChangeAt Go.RowKit Go.Joins
set_option linter.unusedVariables false
set_option linter.unusedSimpArgs false


theorem ask_any (S base : Nat) (fn id : Int) (v : Value) (l : List (Int × Int)) (w : World) (hS : w.heap[S]? = some (.cells #[v] 64 (0, 0))) (ho : ownL layG 126 w base v l) (hl : l.length ≤ 1000) (hb : base ≤ w.heap.size) :
  Calls Tryz.prog 138 #[.int .i64 fn, .int .i64 id, .pointer (some ⟨S, 0, none⟩)] w fun e w' => e = .returned (.tuple #[]) ∧ ∃ v', w'.heap[S]? = some (.cells #[v'] 64 (0, 0)) ∧ ownL layG 126 w' base v' (l ++ [(id, fn)]) ∧ (∀ B, B ≤ S → B ≤ base → Below B w w') ∧ (∀ (l2 : List Int) (v2 : Value), ownL layI 3 w 0 v2 l2 → ownL layI 3 w' 0 v2 l2) := by
 obtain ⟨oo, oc, e6, _⟩ := ownL.open (L := layG) ho
 subst e6
 have hSw : S < w.heap.size := (Array.getElem?_eq_some_iff.1 hS).1
 have c0 : w.cell? ⟨S, 0, none⟩ = some (.slice oo l.length oc) := bx_cell hS 0 _ rfl
 have HA := hide (World.ownsRow.alloc ho (.cells #[.int .i64 id, .int .i64 fn] 126))
 have hal : Below w.heap.size w (w.alloc (.cells #[.int .i64 id, .int .i64 fn] 126)) := (Below.refl _ _).alloc (Nat.le_refl _) _
 have c1 := bC hal c0 hSw
 have HSA := hide ((hal.block S hSw).trans hS)
 have HAL := hide hal
 clear hal hS ho
 go_enter Tryz.func138, Tryz.ntmps138
 go_wp2_with (first | (at_builtin; refine wpList_append_lay appG rfl (.tmp 5) (.tmp 9) rfl base _ l rfl HA.out (some ⟨w.heap.size, 0, none⟩) 1 _ [(id, fn)] 1 rfl rfl (by simp) rd_oneG (by simp; omega) (by simp; omega) ?_))
 intro v5 w5 ho5 hg5 _
 obtain ⟨o5, k5, e5, _⟩ := ownL.open (L := layG) ho5
 obtain ⟨n5, hn5⟩ : ∃ x, (l ++ [(id, fn)]).length = x := ⟨_, rfl⟩
 rw [hn5] at e5
 subst e5
 clear hn5
 have hs5 : w.heap.size < w5.heap.size := by have := hg5.size; simp at this; omega
 have X5 : w5.heap[S]? = some (.cells #[.slice oo l.length oc] 64 (0, 0)) := by
  refine (hg5.block S (by simp; omega) ?_).trans HSA.out
  intro e
  rcases own_box HA.out HSA.out (by decide) with h | h
  ·rw [h] at e; cases e
  ·exact h e.symm
 have HFI : Hid ((w5.setCell ⟨S, 0, none⟩ (.slice o5 n5 k5)).heap[S]? = some (.cells #[.slice o5 n5 k5] 64 (0, 0)) ∧ ownL layG 126 (w5.setCell ⟨S, 0, none⟩ (.slice o5 n5 k5)) base (.slice o5 n5 k5) (l ++ [(id, fn)]) ∧ (∀ B, B ≤ S → B ≤ base → Below B w (w5.setCell ⟨S, 0, none⟩ (.slice o5 n5 k5))) ∧ (∀ (l2 : List Int) (v2 : Value), ownL layI 3 w 0 v2 l2 → ownL layI 3 (w5.setCell ⟨S, 0, none⟩ (.slice o5 n5 k5)) 0 v2 l2)) := by
  refine ⟨box_put X5 0 _, World.ownsRow.kept ho5 (grown_set w5 S 0 (.slice o5 n5 k5)) (own_box ho5 X5 (by decide)), fun B h1 h2 => ?_, fun l2 v2 h => ?_⟩
  ·exact ((((Below.refl B w).alloc (by omega) _).grown hg5 (by simp; omega) (fun k h => Nat.le_trans h2 (HA.out.lt k h).1)).setCell (p := ⟨S, 0, none⟩) h1 _)
  ·have h1 := World.ownsRow.alloc h (.cells #[.int .i64 id, .int .i64 fn] 126)
   have h2 := World.ownsRow.kept h1 hg5 (own_apart0 h1 HA.out (by decide))
   exact World.ownsRow.kept h2 (grown_set w5 S 0 (.slice o5 n5 k5)) (own_box h2 X5 (by decide))
 have c5 : w5.cell? ⟨S, 0, none⟩ = some (.slice oo l.length oc) := bx_cell X5 0 _ rfl
 have f5 := bx_frozen X5 0
 clear X5 hg5 ho5 HA HSA HAL
 go_wp2
 go_end0
 exact ⟨rfl, .slice o5 n5 k5, HFI.out.1, HFI.out.2.1, HFI.out.2.2.1, HFI.out.2.2.2⟩

theorem candM_yes {m : Pm} {q : Nat} (h : poolB m = true) (h8 : q < 8) : candM m (q : Int) = candL m.ring q := by
 unfold candM
 rw [h, decide_eq_true (show (0 : Int) ≤ q by omega), decide_eq_true (show (q : Int) < 8 by omega)]
 simp
theorem Ring.of {m : Pm} (h : poolB m = true) : Ring m.ring := by
 obtain ⟨_, _, h3, h4, h5⟩ := pool_facts h
 exact ⟨h3, h4, h5⟩
theorem bucketOf_yes {k a p : Int} (h : keyB k = true) (hf : flowOkB a p = true) : bucketOfI k a p = bucketI k a p := by
 unfold bucketOfI
 have h1 := key_bd h
 rw [if_pos ⟨h1.1, h1.2, hf⟩]
theorem opens_yes {a b f s : Int} {n : Nat} (h : packetOkB a b f s n = true) : opensB a b f s n = opens3 f := by
 unfold opensB
 rw [h]; rfl

set_option maxRecDepth 100000 in
set_option maxHeartbeats 8000000 in
theorem route_any (g nt xc base : Nat) (kq : Int) (yo : Option Addr) (yn yc : Nat) (sq kp : Int) (uo : Option Addr) (un uc : Nat) (vo : Option Addr) (vn vc : Nat) (lb : List Bk) (lr : List (List (List Int))) (lt : List Sl) (a b f s : Int) (po : Option Addr) (pn pc : Nat) (w : World)
  (hnt : nt = lt.length) (hn : 0 < lt.length) (hl : lt.length ≤ 1048576) (hpl : pn ≤ maxLen) (hpk : packetOkB a b f s pn = true) (hfl : flowOkB a b = true) (hv : (endL lt a b).2 = true → 0 ≤ (getL lt a b).v) (hp : RdPm w.heap.size w (plv kp (.slice uo un uc) (.slice vo vn vc)) ⟨kp, lb, lr⟩) (hpb : poolB ⟨kp, lb, lr⟩ = true) (hfit : fitPm ⟨kp, lb, lr⟩) (ho : w.ownsRow base CellT 5 (.slice (some ⟨g, 0, none⟩) nt xc) nt (lt.flatMap layS.cs)) :
  Calls Tryz.prog 75 #[balr (.slice (some ⟨g, 0, none⟩) nt xc) kq (.slice yo yn yc) sq kp (.slice uo un uc) (.slice vo vn vc), pkt a b f s (.slice po pn pc)] w fun e w' => ∃ v, e = .returned v ∧ ownL layG 126 w' w.heap.size v (routeQ kp lr lt a b f) ∧ Below w.heap.size w w' := by
 have hk : keyB kp = true := (pool_facts hpb).1
 have hr : Ring lr := Ring.of hpb
 have HBK := hide (fun W => implBucketOf_any kp a b W)
 rw [bucketOf_yes hk hfl] at HBK
 obtain ⟨qn, hq, hq8⟩ := bucketI_nat hk hfl
 have HRQ := hide (show routeQ kp lr lt a b f = routeL (endL lt a b).2 (getL lt a b).v (candL lr qn) (opens3 f) ((lr.getD 0 []).getD qn []) by unfold routeQ; rw [hq]; rfl)
 rw [hq] at HBK
 have HHO := hide (fun W (hb : Below w.heap.size w W) => hintOf_any g 0 xc lt a b W hn hl hfl (Nat.lt_of_lt_of_le (ho.lt g rfl).2 hb.size) (rd_of_own (own_kept ho hb) hnt))
 rw [← hnt] at HHO
 have HCA := hide (fun W (hb : Below w.heap.size w W) => implCandidates_sh (plv kp (.slice uo un uc) (.slice vo vn vc)) ⟨kp, lb, lr⟩ (qn : Int) W ((hp.kept hb (Nat.le_refl _)).le hb.size) hfit)
 rw [candM_yes hpb hq8] at HCA
 have HOP := hide (fun W => implOpens_any a b f s po pn pc W hpl)
 rw [opens_yes hpk] at HOP
 obtain ⟨vb9, vr9, e9, _, hG⟩ := hp
 simp only [Value.agg.injEq, Array.mk.injEq, List.cons.injEq, and_true, true_and] at e9
 obtain ⟨e91, e92⟩ := e9
 subst e91 e92
 dsimp only at hG HCA
 obtain ⟨oz, cz, ez⟩ := RiR.len hG
 injection ez with ez1 ez2 ez3
 obtain ⟨b1, f1, u1, e1, hb1, hc1, hr1⟩ := RiRows.at hG (Nat.le_refl _) 0 hr.pos
 subst e1
 obtain ⟨o3, c3, e3, _⟩ := RiT.rd hr1
 subst e3
 obtain ⟨b2, f2, u2, e2, hb2, hc2, hr2⟩ := RiRows.at hr1 (Nat.le_refl _) qn (by rw [hr.len 0 hr.pos]; exact hq8)
 subst e2
 obtain ⟨o9, c9, e9, hr9⟩ := RiV.open hr2
 subst e9
 rw [hr.len 0 hr.pos, Nat.add_zero] at hc1
 have h2 := hr.two 0 hr.pos qn hq8
 have h6 := hr.six hq8
 have HID := hide (hr.ids hq8)
 have hnr1 : 0 < vn := by have := hr.pos; omega
 have hq8' : (qn : Int) < 8 := by omega
 clear hr1 hr2 hG hr hq hk hfl ho hpb hfit hpk hpl ez1 ez2 ez3
 obtain ⟨row, hrow⟩ : ∃ r, (lr.getD 0 []).getD qn [] = r := ⟨_, rfl⟩
 rw [hrow] at hc2 hr9 h2 HRQ
 have HR9 := hide hr9
 obtain ⟨m, hm⟩ : ∃ r, row.length = r := ⟨_, rfl⟩
 rw [hm] at hc2 h2
 have HMM := hide hm
 have HHL := hide (show hintL lt a b = if (endL lt a b).2 = true then (getL lt a b).v else -1 from rfl)
 obtain ⟨h, hh⟩ : ∃ q, (getL lt a b).v = q := ⟨_, rfl⟩
 obtain ⟨ok, hok⟩ : ∃ q, (endL lt a b).2 = q := ⟨_, rfl⟩
 obtain ⟨cs, hcs⟩ : ∃ q, candL lr qn = q := ⟨_, rfl⟩
 obtain ⟨op, hop⟩ : ∃ q, opens3 f = q := ⟨_, rfl⟩
 obtain ⟨hi, hhi⟩ : ∃ q, hintL lt a b = q := ⟨_, rfl⟩
 rw [hhi] at HHO HHL
 rw [hh, hok] at HHL hv
 rw [hcs] at HCA h6 HID
 rw [hop] at HOP
 rw [hh, hok, hcs, hop] at HRQ
 have HCW1 := hide hc1
 have HCW2 := hide hc2
 clear hrow hm hh hok hcs hop hhi hr9 hnt hn hl hc1 hc2
 have hmf : ∀ (fn : Fn) (first cap : Array Value) (w : World), (Instr.makeFunc fn first cap).run Tryz.prog w = .ok (.func fn first cap) w := fun _ _ _ _ => rfl
 obtain ⟨W0, hW0⟩ : ∃ W, (((w.alloc (.cells #[.slice (some ⟨g, 0, none⟩) nt xc, .int .i64 kq, .slice yo yn yc, .int .i64 sq, .int .i64 kp, .slice uo un uc, .slice (some ⟨b1, f1, none⟩) vn vc] 109)).alloc (.cells #[.int .i64 a, .int .i64 b, .int .i64 f, .int .i64 s, .slice po pn pc] 68)).alloc (.cells #[.slice none 0 0] 64)) = W := ⟨_, rfl⟩
 have hb_W0 : Below w.heap.size w W0 := by rw [← hW0]; exact ((((Below.refl _ _).alloc (Nat.le_refl _) _).alloc (by simp <;> omega) _).alloc (by simp <;> omega) _)
 have HB := hide hb_W0
 clear hb_W0
 have zx : w.heap.size < W0.heap.size := by rw [← hW0]; simp <;> omega
 have x0 : W0.cell? ⟨w.heap.size, 0, none⟩ = some (.slice (some ⟨g, 0, none⟩) nt xc) := by rw [← hW0]; simp [go_sem]
 have x1 : W0.cell? ⟨w.heap.size, 1, none⟩ = some (.int .i64 kq) := by rw [← hW0]; simp [go_sem]
 have x2 : W0.cell? ⟨w.heap.size, 2, none⟩ = some (.slice yo yn yc) := by rw [← hW0]; simp [go_sem]
 have x3 : W0.cell? ⟨w.heap.size, 3, none⟩ = some (.int .i64 sq) := by rw [← hW0]; simp [go_sem]
 have x4 : W0.cell? ⟨w.heap.size, 4, none⟩ = some (.int .i64 kp) := by rw [← hW0]; simp [go_sem]
 have x5 : W0.cell? ⟨w.heap.size, 5, none⟩ = some (.slice uo un uc) := by rw [← hW0]; simp [go_sem]
 have x6 : W0.cell? ⟨w.heap.size, 6, none⟩ = some (.slice (some ⟨b1, f1, none⟩) vn vc) := by rw [← hW0]; simp [go_sem]
 have zp : w.heap.size + 1 < W0.heap.size := by rw [← hW0]; simp <;> omega
 have p0 : W0.cell? ⟨w.heap.size + 1, 0, none⟩ = some (.int .i64 a) := by rw [← hW0]; simp [go_sem]
 have p1 : W0.cell? ⟨w.heap.size + 1, 1, none⟩ = some (.int .i64 b) := by rw [← hW0]; simp [go_sem]
 have p2 : W0.cell? ⟨w.heap.size + 1, 2, none⟩ = some (.int .i64 f) := by rw [← hW0]; simp [go_sem]
 have p3 : W0.cell? ⟨w.heap.size + 1, 3, none⟩ = some (.int .i64 s) := by rw [← hW0]; simp [go_sem]
 have p4 : W0.cell? ⟨w.heap.size + 1, 4, none⟩ = some (.slice po pn pc) := by rw [← hW0]; simp [go_sem]
 have zsg : w.heap.size + 1 + 1 < W0.heap.size := by rw [← hW0]; simp
 have sg0 : W0.cell? ⟨w.heap.size + 1 + 1, 0, none⟩ = some (.slice none 0 0) := by rw [← hW0]; simp [go_sem]
 have HSG : Hid (W0.heap[w.heap.size + 1 + 1]? = some (.cells #[.slice none 0 0] 64 (0, 0))) := by rw [← hW0]; exact box_new3 w _ _ _ _
 have hW0s : w.heap.size + 1 + 1 + 1 = W0.heap.size := by rw [← hW0]; simp
 have hxw : w.heap.size < w.heap.size + 1 + 1 := by omega
 have hpw : w.heap.size + 1 < w.heap.size + 1 + 1 := by omega
 have HB0 := HB
 clear HB
 cases ok with
 | false =>
  have hhi : hi = (-1) := by rw [HHL.out]; rfl
  rw [hhi] at HHO
  clear HHL hhi
  have HQ0 := hide (segsTo_zero false h cs)
  clear hv
  go_enter Tryz.func75, Tryz.ntmps75
  go_wp2_with fail
  refine (HHO.out W0 HB0.out).mono ?_
  rintro e v1 ⟨rfl, hb⟩
  have HS1 : Hid (v1.heap[w.heap.size + 1 + 1]? = some (.cells #[.slice none 0 0] 64 (0, 0))) := (hb.block _ (by omega)).trans HSG.out
  have HB1 : Hid (Below (w.heap.size + 1 + 1) W0 v1) := hb.mono (by omega)
  have hs1 := hb.size
  clear hb HHO
  have x0r := bC HB1.out x0 hxw
  have x1r := bC HB1.out x1 hxw
  have x2r := bC HB1.out x2 hxw
  have x3r := bC HB1.out x3 hxw
  have x4r := bC HB1.out x4 hxw
  have x5r := bC HB1.out x5 hxw
  have x6r := bC HB1.out x6 hxw
  have p0r := bC HB1.out p0 hpw
  have p1r := bC HB1.out p1 hpw
  have p2r := bC HB1.out p2 hpw
  have p3r := bC HB1.out p3 hpw
  have p4r := bC HB1.out p4 hpw
  have HO1 := hide (World.ownsRow_nil v1 W0.heap.size 126 2)
  obtain ⟨v2, hv2⟩ : ∃ W, v1 = W := ⟨_, rfl⟩
  subst hv2
  have HS2 := HS1
  have HO2 := HO1
  have HB2 := HB1
  clear HS1 HO1 HB1 hs1
  go_wp2_with fail
  refine (HBK.out v1).mono ?_
  rintro e v3 ⟨rfl, hb⟩
  clear x0r x1r x2r x3r x4r x5r x6r p0r p1r p2r p3r p4r
  have HS3 := hide ((hb.block _ (Array.getElem?_eq_some_iff.1 HS2.out).1).trans HS2.out)
  have HO3 := hide (own_kept HO2.out hb)
  have HB3 := hide (HB2.out.trans (hb.mono (by have := (Array.getElem?_eq_some_iff.1 HS2.out).1; omega)))
  clear hb HS2 HO2 HB2 HBK
  have x0r := bC HB3.out x0 hxw
  have x1r := bC HB3.out x1 hxw
  have x2r := bC HB3.out x2 hxw
  have x3r := bC HB3.out x3 hxw
  have x4r := bC HB3.out x4 hxw
  have x5r := bC HB3.out x5 hxw
  have x6r := bC HB3.out x6 hxw
  have p0r := bC HB3.out p0 hpw
  have p1r := bC HB3.out p1 hpw
  have p2r := bC HB3.out p2 hpw
  have p3r := bC HB3.out p3 hpw
  have p4r := bC HB3.out p4 hpw
  go_wp2_with fail
  refine (HCA.out v3 (HB0.out.trans (HB3.out.mono (by omega)))).mono ?_
  rintro e v4 ⟨cv, rfl, hown, hb⟩
  clear x0r x1r x2r x3r x4r x5r x6r p0r p1r p2r p3r p4r
  have HS4 := hide ((hb.block _ (Array.getElem?_eq_some_iff.1 HS3.out).1).trans HS3.out)
  have HO4 := hide (own_kept HO3.out hb)
  have HB4 := hide (HB3.out.trans (hb.mono (by have := (Array.getElem?_eq_some_iff.1 HS3.out).1; omega)))
  have HC4 : Hid (ownL layI 3 v4 0 cv cs) := own_mono hown (Nat.zero_le _)
  clear hb hown HS3 HO3 HB3 HCA
  obtain ⟨co, cc, e5, _⟩ := ownL.open (L := layI) HC4.out
  subst e5
  obtain ⟨n, hnn⟩ : ∃ n, cs.length = n := ⟨_, rfl⟩
  rw [hnn] at HC4 h6 ⊢
  have HNN := hide hnn
  clear hnn
  have x0r := bC HB4.out x0 hxw
  have x1r := bC HB4.out x1 hxw
  have x2r := bC HB4.out x2 hxw
  have x3r := bC HB4.out x3 hxw
  have x4r := bC HB4.out x4 hxw
  have x5r := bC HB4.out x5 hxw
  have x6r := bC HB4.out x6 hxw
  have p0r := bC HB4.out p0 hpw
  have p1r := bC HB4.out p1 hpw
  have p2r := bC HB4.out p2 hpw
  have p3r := bC HB4.out p3 hpw
  have p4r := bC HB4.out p4 hpw
  go_wp2
  go_loopw [35] (fun iv wr => ∃ i : Nat, i ≤ n ∧ iv = .int .i64 (i : Int) ∧ ∃ sv, Hid (wr.heap[w.heap.size + 1 + 1]? = some (.cells #[sv] 64 (0, 0))) ∧ Hid (ownL layG 126 wr W0.heap.size sv (segsTo false h cs i)) ∧ Hid (ownL layI 3 wr 0 (.slice co n cc) cs) ∧ Hid (Below (w.heap.size + 1 + 1) W0 wr))
   (fun iv _ => n - (intOf iv).toNat)
  case atStart => exact ⟨0, Nat.zero_le _, rfl, _, HS4.out, by rw [HQ0.out]; exact HO4.out, HC4.out, HB4.out⟩
  case round =>
   clear x0r x1r x2r x3r x4r x5r x6r p0r p1r p2r p3r p4r
   clear HS4 HO4 HC4 HB4 HQ0
   rename World => wr
   obtain ⟨i, hi', rfl, sv, HS, HO, HC, HBr⟩ := hrel
   have x0r := bC HBr.out x0 hxw
   have x1r := bC HBr.out x1 hxw
   have x2r := bC HBr.out x2 hxw
   have x3r := bC HBr.out x3 hxw
   have x4r := bC HBr.out x4 hxw
   have x5r := bC HBr.out x5 hxw
   have x6r := bC HBr.out x6 hxw
   have p0r := bC HBr.out p0 hpw
   have p1r := bC HBr.out p1 hpw
   have p2r := bC HBr.out p2 hpw
   have p3r := bC HBr.out p3 hpw
   have p4r := bC HBr.out p4 hpw
   have hsr := HBr.out.size
   by_cases hlt : i < n
   ·have hlt' : (i : Int) < (n : Int) := by omega
    have hil : i < cs.length := by rw [HNN.out]; exact hlt
    obtain ⟨co', cc', e5, hrd⟩ := ownL.open (L := layI) HC.out
    injection e5 with e51 e52 e53
    subst e51
    clear e52 e53
    rcases hrd with hh | ⟨b3, f3, rfl, hb3, hce⟩
    ·rw [hh] at hil; exact absurd hil (Nat.not_lt_zero _)
    have hc3 := RdL.int hce i hil
    clear hce
    have hln := segsTo_len false h cs i
    have HSY := hide (fun h9 => segsTo_yes (ok := false) (h := h) (c := cs) hil h9)
    have HSN := hide (fun h9 => segsTo_no (ok := false) (h := h) (c := cs) hil h9)
    obtain ⟨cur, hcu⟩ : ∃ q, segsTo false h cs i = q := ⟨_, rfl⟩
    rw [hcu] at HO hln HSY HSN
    clear hcu
    have hid := HID.out (cs.getD i 0) (by simp [hil])
    obtain ⟨y, hy⟩ : ∃ y, cs.getD i 0 = y := ⟨_, rfl⟩
    rw [hy] at hc3 HSY HSN hid
    clear hy
    have hx : ¬ y = -1 := by omega
    have HS9 := hide (HSY.out (by simp))
    have HAK := hide (ask_any (w.heap.size + 1 + 1) W0.heap.size 0 y sv cur wr HS.out HO.out (by omega) hsr)
    go_wp2_with fail
    refine (HAK.out).mono ?_
    rintro e w7 ⟨rfl, sv7, hs7, ho7, hb7, hr7⟩
    clear HAK
    have HS7 := hide hs7
    have HO7 := hide ho7
    have HB7 := hide (HBr.out.trans (hb7 (w.heap.size + 1 + 1) (Nat.le_refl _) (by omega)))
    have HC7 := hide (hr7 _ _ HC.out)
    clear hs7 ho7 hb7 hr7
    go_wp2
    go_roundw
    case rel => exact ⟨i + 1, by omega, by go_num, sv7, HS7.out, by rw [HS9.out]; exact HO7.out, HC7.out, HB7.out⟩
    case measure => simp [intOf]; omega
   ·have e : i = n := by omega
    subst e
    have HRR : Hid (segsTo false h cs cs.length = segsTo false h cs i) := by unfold Hid; rw [HNN.out]
    go_wp2_with fail
    refine (HOP.out wr).mono ?_
    rintro e w7 ⟨rfl, hb7⟩
    have HS7 := hide ((hb7.block _ (Array.getElem?_eq_some_iff.1 HS.out).1).trans HS.out)
    have HO7 := hide (own_kept HO.out hb7)
    have HB7 := hide (HBr.out.trans (hb7.mono (by omega)))
    clear x0r x1r x2r x3r x4r x5r x6r p0r p1r p2r p3r p4r
    clear hb7 HO HC HBr hsr HOP HS
    obtain ⟨bas, hbase⟩ : ∃ x, segsTo false h cs i = x := ⟨_, rfl⟩
    rw [hbase] at HO7 HRR
    have hbl := segsTo_len false h cs i
    rw [hbase] at hbl
    clear hbase
    cases op with
    | false =>
     have s7 : w7.cell? ⟨w.heap.size + 1 + 1, 0, none⟩ = some sv := bx_cell HS7.out 0 _ rfl
     obtain ⟨oo, oc, e6, _⟩ := ownL.open (L := layG) HO7.out
     subst e6
     go_wp2
     go_ret
     exact ⟨_, rfl, by rw [HRQ.out]; unfold routeL; rw [if_neg (by decide), HRR.out]; exact own_mono HO7.out (by omega), HB0.out.trans (HB7.out.mono (by omega))⟩
    | true =>
     have x0r := bC HB7.out x0 hxw
     have x1r := bC HB7.out x1 hxw
     have x2r := bC HB7.out x2 hxw
     have x3r := bC HB7.out x3 hxw
     have x4r := bC HB7.out x4 hxw
     have x5r := bC HB7.out x5 hxw
     have x6r := bC HB7.out x6 hxw
     have p0r := bC HB7.out p0 hpw
     have p1r := bC HB7.out p1 hpw
     have p2r := bC HB7.out p2 hpw
     have p3r := bC HB7.out p3 hpw
     have p4r := bC HB7.out p4 hpw
     have HBW := hide (HB0.out.trans (HB7.out.mono (show w.heap.size ≤ w.heap.size + 1 + 1 by omega)))
     have hc1' := bC HBW.out HCW1.out hb1
     have hc2' := bC HBW.out HCW2.out hb2
     go_wp2
     go_loopw [57] (fun kv wq => ∃ k : Nat, k ≤ m ∧ kv = .int .i64 (k : Int) ∧ ∃ sv, Hid (wq.heap[w.heap.size + 1 + 1]? = some (.cells #[sv] 64 (0, 0))) ∧ Hid (ownL layG 126 wq W0.heap.size sv (huntTo bas row k)) ∧ Hid (Below (w.heap.size + 1 + 1) W0 wq))
      (fun kv _ => m - (intOf kv).toNat)
     case atStart => exact ⟨0, Nat.zero_le _, rfl, _, HS7.out, by rw [huntTo_zero]; exact HO7.out, HB7.out⟩
     case round =>
      clear x0r x1r x2r x3r x4r x5r x6r p0r p1r p2r p3r p4r
      clear hc1' hc2' HO7 HB7 HS7 HBW
      rename World => wq
      obtain ⟨k, hk', rfl, sq2, HS, HO, HBq⟩ := hrel
      have hsq := HBq.out.size
      have HBW := hide (HB0.out.trans (HBq.out.mono (show w.heap.size ≤ w.heap.size + 1 + 1 by omega)))
      have x0r := bC HBq.out x0 hxw
      have x1r := bC HBq.out x1 hxw
      have x2r := bC HBq.out x2 hxw
      have x3r := bC HBq.out x3 hxw
      have x4r := bC HBq.out x4 hxw
      have x5r := bC HBq.out x5 hxw
      have x6r := bC HBq.out x6 hxw
      have p0r := bC HBq.out p0 hpw
      have p1r := bC HBq.out p1 hpw
      have p2r := bC HBq.out p2 hpw
      have p3r := bC HBq.out p3 hpw
      have p4r := bC HBq.out p4 hpw
      by_cases hlk : k < m
      ·have hlk' : (k : Int) < (m : Int) := by omega
       have hkr : k < row.length := by rw [HMM.out]; exact hlk
       rcases HR9.out with hh | ⟨b3, f3, rfl, hb3, hce⟩
       ·rw [hh] at hkr; exact absurd hkr (Nat.not_lt_zero _)
       have hc3 := bC HBW.out (RdL.int hce k hkr) hb3
       clear hce
       have hln := huntTo_len bas row k
       have HS9 := hide (huntTo_succ (l := bas) hkr)
       obtain ⟨cur, hcu⟩ : ∃ q, huntTo bas row k = q := ⟨_, rfl⟩
       rw [hcu] at HO hln HS9
       clear hcu
       obtain ⟨y, hy⟩ : ∃ y, row.getD k 0 = y := ⟨_, rfl⟩
       rw [hy] at hc3 HS9
       clear hy
       have HAK := hide (ask_any (w.heap.size + 1 + 1) W0.heap.size 1 y sq2 cur wq HS.out HO.out (by omega) hsq)
       go_wp2_with fail
       refine (HAK.out).mono ?_
       rintro e w8 ⟨rfl, sv8, hs8, ho8, hb8, _⟩
       clear HAK
       have HS8 := hide hs8
       have HO8 := hide ho8
       have HB8 := hide (HBq.out.trans (hb8 (w.heap.size + 1 + 1) (Nat.le_refl _) (by omega)))
       clear hs8 ho8 hb8
       go_wp2
       go_roundw
       case rel => exact ⟨k + 1, by omega, by go_num, sv8, HS8.out, by rw [HS9.out]; exact HO8.out, HB8.out⟩
       case measure => simp [intOf]; omega
      ·have e : k = m := by omega
       subst e
       have s7 : wq.cell? ⟨w.heap.size + 1 + 1, 0, none⟩ = some sq2 := bx_cell HS.out 0 _ rfl
       obtain ⟨oo, oc, e6, _⟩ := ownL.open (L := layG) HO.out
       subst e6
       go_wp2
       go_ret
       exact ⟨_, rfl, by rw [HRQ.out]; unfold routeL; rw [if_pos rfl, HRR.out, HMM.out]; exact own_mono HO.out (by omega), HBW.out⟩
 | true =>
  have hhi : hi = h := by rw [HHL.out]; rfl
  rw [hhi] at HHO
  clear HHL hhi
  have HQ0 := hide (segsTo_zero true h cs)
  have hp0 : 0 ≤ h := hv (by first | rfl | trivial)
  have hp1 : ¬ (h = -1) := by omega
  clear hv
  go_enter Tryz.func75, Tryz.ntmps75
  go_wp2_with fail
  refine (HHO.out W0 HB0.out).mono ?_
  rintro e v1 ⟨rfl, hb⟩
  have HS1 : Hid (v1.heap[w.heap.size + 1 + 1]? = some (.cells #[.slice none 0 0] 64 (0, 0))) := (hb.block _ (by omega)).trans HSG.out
  have HB1 : Hid (Below (w.heap.size + 1 + 1) W0 v1) := hb.mono (by omega)
  have hs1 := hb.size
  clear hb HHO
  have x0r := bC HB1.out x0 hxw
  have x1r := bC HB1.out x1 hxw
  have x2r := bC HB1.out x2 hxw
  have x3r := bC HB1.out x3 hxw
  have x4r := bC HB1.out x4 hxw
  have x5r := bC HB1.out x5 hxw
  have x6r := bC HB1.out x6 hxw
  have p0r := bC HB1.out p0 hpw
  have p1r := bC HB1.out p1 hpw
  have p2r := bC HB1.out p2 hpw
  have p3r := bC HB1.out p3 hpw
  have p4r := bC HB1.out p4 hpw
  have HO1 := hide (World.ownsRow_nil v1 W0.heap.size 126 2)
  have HAK := hide (ask_any (w.heap.size + 1 + 1) W0.heap.size 0 h _ [] v1 HS1.out HO1.out (by simp) hs1)
  go_wp2_with fail
  refine (HAK.out).mono ?_
  rintro e v2 ⟨rfl, sv, hs2, ho2, hb2, _⟩
  clear x0r x1r x2r x3r x4r x5r x6r p0r p1r p2r p3r p4r
  clear HAK
  have HS2 := hide hs2
  have HO2 := hide ho2
  have HB2 := hide (HB1.out.trans (hb2 (w.heap.size + 1 + 1) (Nat.le_refl _) (by omega)))
  clear hs2 ho2 hb2 HS1 HO1 HB1 hs1
  have x0r := bC HB2.out x0 hxw
  have x1r := bC HB2.out x1 hxw
  have x2r := bC HB2.out x2 hxw
  have x3r := bC HB2.out x3 hxw
  have x4r := bC HB2.out x4 hxw
  have x5r := bC HB2.out x5 hxw
  have x6r := bC HB2.out x6 hxw
  have p0r := bC HB2.out p0 hpw
  have p1r := bC HB2.out p1 hpw
  have p2r := bC HB2.out p2 hpw
  have p3r := bC HB2.out p3 hpw
  have p4r := bC HB2.out p4 hpw
  go_wp2_with fail
  refine (HBK.out v2).mono ?_
  rintro e v3 ⟨rfl, hb⟩
  clear x0r x1r x2r x3r x4r x5r x6r p0r p1r p2r p3r p4r
  have HS3 := hide ((hb.block _ (Array.getElem?_eq_some_iff.1 HS2.out).1).trans HS2.out)
  have HO3 := hide (own_kept HO2.out hb)
  have HB3 := hide (HB2.out.trans (hb.mono (by have := (Array.getElem?_eq_some_iff.1 HS2.out).1; omega)))
  clear hb HS2 HO2 HB2 HBK
  have x0r := bC HB3.out x0 hxw
  have x1r := bC HB3.out x1 hxw
  have x2r := bC HB3.out x2 hxw
  have x3r := bC HB3.out x3 hxw
  have x4r := bC HB3.out x4 hxw
  have x5r := bC HB3.out x5 hxw
  have x6r := bC HB3.out x6 hxw
  have p0r := bC HB3.out p0 hpw
  have p1r := bC HB3.out p1 hpw
  have p2r := bC HB3.out p2 hpw
  have p3r := bC HB3.out p3 hpw
  have p4r := bC HB3.out p4 hpw
  go_wp2_with fail
  refine (HCA.out v3 (HB0.out.trans (HB3.out.mono (by omega)))).mono ?_
  rintro e v4 ⟨cv, rfl, hown, hb⟩
  clear x0r x1r x2r x3r x4r x5r x6r p0r p1r p2r p3r p4r
  have HS4 := hide ((hb.block _ (Array.getElem?_eq_some_iff.1 HS3.out).1).trans HS3.out)
  have HO4 := hide (own_kept HO3.out hb)
  have HB4 := hide (HB3.out.trans (hb.mono (by have := (Array.getElem?_eq_some_iff.1 HS3.out).1; omega)))
  have HC4 : Hid (ownL layI 3 v4 0 cv cs) := own_mono hown (Nat.zero_le _)
  clear hb hown HS3 HO3 HB3 HCA
  obtain ⟨co, cc, e5, _⟩ := ownL.open (L := layI) HC4.out
  subst e5
  obtain ⟨n, hnn⟩ : ∃ n, cs.length = n := ⟨_, rfl⟩
  rw [hnn] at HC4 h6 ⊢
  have HNN := hide hnn
  clear hnn
  have x0r := bC HB4.out x0 hxw
  have x1r := bC HB4.out x1 hxw
  have x2r := bC HB4.out x2 hxw
  have x3r := bC HB4.out x3 hxw
  have x4r := bC HB4.out x4 hxw
  have x5r := bC HB4.out x5 hxw
  have x6r := bC HB4.out x6 hxw
  have p0r := bC HB4.out p0 hpw
  have p1r := bC HB4.out p1 hpw
  have p2r := bC HB4.out p2 hpw
  have p3r := bC HB4.out p3 hpw
  have p4r := bC HB4.out p4 hpw
  go_wp2
  go_loopw [35] (fun iv wr => ∃ i : Nat, i ≤ n ∧ iv = .int .i64 (i : Int) ∧ ∃ sv, Hid (wr.heap[w.heap.size + 1 + 1]? = some (.cells #[sv] 64 (0, 0))) ∧ Hid (ownL layG 126 wr W0.heap.size sv (segsTo true h cs i)) ∧ Hid (ownL layI 3 wr 0 (.slice co n cc) cs) ∧ Hid (Below (w.heap.size + 1 + 1) W0 wr))
   (fun iv _ => n - (intOf iv).toNat)
  case atStart => exact ⟨0, Nat.zero_le _, rfl, _, HS4.out, by rw [HQ0.out]; exact HO4.out, HC4.out, HB4.out⟩
  case round =>
   clear x0r x1r x2r x3r x4r x5r x6r p0r p1r p2r p3r p4r
   clear HS4 HO4 HC4 HB4 HQ0
   rename World => wr
   obtain ⟨i, hi', rfl, sv, HS, HO, HC, HBr⟩ := hrel
   have x0r := bC HBr.out x0 hxw
   have x1r := bC HBr.out x1 hxw
   have x2r := bC HBr.out x2 hxw
   have x3r := bC HBr.out x3 hxw
   have x4r := bC HBr.out x4 hxw
   have x5r := bC HBr.out x5 hxw
   have x6r := bC HBr.out x6 hxw
   have p0r := bC HBr.out p0 hpw
   have p1r := bC HBr.out p1 hpw
   have p2r := bC HBr.out p2 hpw
   have p3r := bC HBr.out p3 hpw
   have p4r := bC HBr.out p4 hpw
   have hsr := HBr.out.size
   by_cases hlt : i < n
   ·have hlt' : (i : Int) < (n : Int) := by omega
    have hil : i < cs.length := by rw [HNN.out]; exact hlt
    obtain ⟨co', cc', e5, hrd⟩ := ownL.open (L := layI) HC.out
    injection e5 with e51 e52 e53
    subst e51
    clear e52 e53
    rcases hrd with hh | ⟨b3, f3, rfl, hb3, hce⟩
    ·rw [hh] at hil; exact absurd hil (Nat.not_lt_zero _)
    have hc3 := RdL.int hce i hil
    clear hce
    have hln := segsTo_len true h cs i
    have HSY := hide (fun h9 => segsTo_yes (ok := true) (h := h) (c := cs) hil h9)
    have HSN := hide (fun h9 => segsTo_no (ok := true) (h := h) (c := cs) hil h9)
    obtain ⟨cur, hcu⟩ : ∃ q, segsTo true h cs i = q := ⟨_, rfl⟩
    rw [hcu] at HO hln HSY HSN
    clear hcu
    have hid := HID.out (cs.getD i 0) (by simp [hil])
    obtain ⟨y, hy⟩ : ∃ y, cs.getD i 0 = y := ⟨_, rfl⟩
    rw [hy] at hc3 HSY HSN hid
    clear hy
    by_cases hx : y = h
    ·have HS9 := hide (HSN.out (by rw [hx]; simp))
     subst hx
     go_wp2
     go_roundw
     case rel => exact ⟨i + 1, by omega, by go_num, sv, HS.out, by rw [HS9.out]; exact HO.out, HC.out, HBr.out⟩
     case measure => simp [intOf]; omega
    ·have hx' : ¬ h = y := fun e => hx e.symm
     have HS9 := hide (HSY.out (by simp [hx]))
     have HAK := hide (ask_any (w.heap.size + 1 + 1) W0.heap.size 0 y sv cur wr HS.out HO.out (by omega) hsr)
     go_wp2_with fail
     refine (HAK.out).mono ?_
     rintro e w7 ⟨rfl, sv7, hs7, ho7, hb7, hr7⟩
     clear HAK
     have HS7 := hide hs7
     have HO7 := hide ho7
     have HB7 := hide (HBr.out.trans (hb7 (w.heap.size + 1 + 1) (Nat.le_refl _) (by omega)))
     have HC7 := hide (hr7 _ _ HC.out)
     clear hs7 ho7 hb7 hr7
     go_wp2
     go_roundw
     case rel => exact ⟨i + 1, by omega, by go_num, sv7, HS7.out, by rw [HS9.out]; exact HO7.out, HC7.out, HB7.out⟩
     case measure => simp [intOf]; omega
   ·have e : i = n := by omega
    subst e
    have HRR : Hid (segsTo true h cs cs.length = segsTo true h cs i) := by unfold Hid; rw [HNN.out]
    go_wp2_with fail
    refine (HOP.out wr).mono ?_
    rintro e w7 ⟨rfl, hb7⟩
    have HS7 := hide ((hb7.block _ (Array.getElem?_eq_some_iff.1 HS.out).1).trans HS.out)
    have HO7 := hide (own_kept HO.out hb7)
    have HB7 := hide (HBr.out.trans (hb7.mono (by omega)))
    clear x0r x1r x2r x3r x4r x5r x6r p0r p1r p2r p3r p4r
    clear hb7 HO HC HBr hsr HOP HS
    obtain ⟨bas, hbase⟩ : ∃ x, segsTo true h cs i = x := ⟨_, rfl⟩
    rw [hbase] at HO7 HRR
    have hbl := segsTo_len true h cs i
    rw [hbase] at hbl
    clear hbase
    cases op with
    | false =>
     have s7 : w7.cell? ⟨w.heap.size + 1 + 1, 0, none⟩ = some sv := bx_cell HS7.out 0 _ rfl
     obtain ⟨oo, oc, e6, _⟩ := ownL.open (L := layG) HO7.out
     subst e6
     go_wp2
     go_ret
     exact ⟨_, rfl, by rw [HRQ.out]; unfold routeL; rw [if_neg (by decide), HRR.out]; exact own_mono HO7.out (by omega), HB0.out.trans (HB7.out.mono (by omega))⟩
    | true =>
     have x0r := bC HB7.out x0 hxw
     have x1r := bC HB7.out x1 hxw
     have x2r := bC HB7.out x2 hxw
     have x3r := bC HB7.out x3 hxw
     have x4r := bC HB7.out x4 hxw
     have x5r := bC HB7.out x5 hxw
     have x6r := bC HB7.out x6 hxw
     have p0r := bC HB7.out p0 hpw
     have p1r := bC HB7.out p1 hpw
     have p2r := bC HB7.out p2 hpw
     have p3r := bC HB7.out p3 hpw
     have p4r := bC HB7.out p4 hpw
     have HBW := hide (HB0.out.trans (HB7.out.mono (show w.heap.size ≤ w.heap.size + 1 + 1 by omega)))
     have hc1' := bC HBW.out HCW1.out hb1
     have hc2' := bC HBW.out HCW2.out hb2
     go_wp2
     go_loopw [57] (fun kv wq => ∃ k : Nat, k ≤ m ∧ kv = .int .i64 (k : Int) ∧ ∃ sv, Hid (wq.heap[w.heap.size + 1 + 1]? = some (.cells #[sv] 64 (0, 0))) ∧ Hid (ownL layG 126 wq W0.heap.size sv (huntTo bas row k)) ∧ Hid (Below (w.heap.size + 1 + 1) W0 wq))
      (fun kv _ => m - (intOf kv).toNat)
     case atStart => exact ⟨0, Nat.zero_le _, rfl, _, HS7.out, by rw [huntTo_zero]; exact HO7.out, HB7.out⟩
     case round =>
      clear x0r x1r x2r x3r x4r x5r x6r p0r p1r p2r p3r p4r
      clear hc1' hc2' HO7 HB7 HS7 HBW
      rename World => wq
      obtain ⟨k, hk', rfl, sq2, HS, HO, HBq⟩ := hrel
      have hsq := HBq.out.size
      have HBW := hide (HB0.out.trans (HBq.out.mono (show w.heap.size ≤ w.heap.size + 1 + 1 by omega)))
      have x0r := bC HBq.out x0 hxw
      have x1r := bC HBq.out x1 hxw
      have x2r := bC HBq.out x2 hxw
      have x3r := bC HBq.out x3 hxw
      have x4r := bC HBq.out x4 hxw
      have x5r := bC HBq.out x5 hxw
      have x6r := bC HBq.out x6 hxw
      have p0r := bC HBq.out p0 hpw
      have p1r := bC HBq.out p1 hpw
      have p2r := bC HBq.out p2 hpw
      have p3r := bC HBq.out p3 hpw
      have p4r := bC HBq.out p4 hpw
      by_cases hlk : k < m
      ·have hlk' : (k : Int) < (m : Int) := by omega
       have hkr : k < row.length := by rw [HMM.out]; exact hlk
       rcases HR9.out with hh | ⟨b3, f3, rfl, hb3, hce⟩
       ·rw [hh] at hkr; exact absurd hkr (Nat.not_lt_zero _)
       have hc3 := bC HBW.out (RdL.int hce k hkr) hb3
       clear hce
       have hln := huntTo_len bas row k
       have HS9 := hide (huntTo_succ (l := bas) hkr)
       obtain ⟨cur, hcu⟩ : ∃ q, huntTo bas row k = q := ⟨_, rfl⟩
       rw [hcu] at HO hln HS9
       clear hcu
       obtain ⟨y, hy⟩ : ∃ y, row.getD k 0 = y := ⟨_, rfl⟩
       rw [hy] at hc3 HS9
       clear hy
       have HAK := hide (ask_any (w.heap.size + 1 + 1) W0.heap.size 1 y sq2 cur wq HS.out HO.out (by omega) hsq)
       go_wp2_with fail
       refine (HAK.out).mono ?_
       rintro e w8 ⟨rfl, sv8, hs8, ho8, hb8, _⟩
       clear HAK
       have HS8 := hide hs8
       have HO8 := hide ho8
       have HB8 := hide (HBq.out.trans (hb8 (w.heap.size + 1 + 1) (Nat.le_refl _) (by omega)))
       clear hs8 ho8 hb8
       go_wp2
       go_roundw
       case rel => exact ⟨k + 1, by omega, by go_num, sv8, HS8.out, by rw [HS9.out]; exact HO8.out, HB8.out⟩
       case measure => simp [intOf]; omega
      ·have e : k = m := by omega
       subst e
       have s7 : wq.cell? ⟨w.heap.size + 1 + 1, 0, none⟩ = some sq2 := bx_cell HS.out 0 _ rfl
       obtain ⟨oo, oc, e6, _⟩ := ownL.open (L := layG) HO.out
       subst e6
       go_wp2
       go_ret
       exact ⟨_, rfl, by rw [HRQ.out]; unfold routeL; rw [if_pos rfl, HRR.out, HMM.out]; exact own_mono HO.out (by omega), HBW.out⟩

end Go.Proofs.YtajfkcpifnpkeaaGreat

/- What is noted is replayed; what is replayed may be. -/
namespace Go.Proofs.YtajfkcpifnpkeaaGreat
open Go.ChangeShapes Go.WideShapes Go.ChangeAt Go.RowKit Go.Joins
set_option linter.unusedVariables false
set_option linter.unusedSimpArgs false

theorem ring_head (cs : List Cd) : ∀ q, (ringR cs q).getD 0 [] = servedOf cs q
 | 0 => rfl
 | q + 1 => by unfold ringR; simp
theorem ring_each {key safe : Int} {cs : List Cd} (h : journalB key cs safe = true) : ∀ q, q ≤ cs.length → ∀ l ∈ ringR cs q, backsOkB l = true
 | 0, _, l, hl => by
  have : l = [] := by simpa [ringR] using hl
  subst this
  exact (served_each h 0 (by omega)).1
 | q + 1, hq, l, hl => by
  unfold ringR at hl
  have hl := List.mem_of_mem_take hl
  rcases List.mem_cons.1 hl with e | hl
  ·rw [e]; exact (served_each h (q + 1) (by omega)).1
  ·exact ring_each h q (by omega) l hl
theorem ring_pos (cs : List Cd) : ∀ q, 1 ≤ (ringR cs q).length
 | 0 => by simp [ringR]
 | q + 1 => by unfold ringR; simp
theorem replay_pool {m : Jm} (h : journalB m.key m.l m.safe = true) : poolB (replayM m) = true := by
 have e : replayM m = ⟨m.key, servedOf m.l m.l.length, ringT m.key (ringR m.l m.l.length)⟩ := by unfold replayM; rw [if_pos h]
 have hr := ringR_len m.l m.l.length
 have hp := ring_pos m.l m.l.length
 have hlen : (ringT m.key (ringR m.l m.l.length)).length = (ringR m.l m.l.length).length := by simp [ringT]
 have hso := (served_each h m.l.length (by omega)).1
 rw [e]
 refine pool_rest (journal_facts h).1 hso (by dsimp only; omega) (by dsimp only; omega) (fun i hi => ?_) ?_
 ·dsimp only at hi ⊢
  rw [ringT_get _ _ _ (by omega)]
  refine tabOk_new m.key (ring_each h m.l.length (Nat.le_refl _) _ ?_)
  rw [List.getD_eq_getElem?_getD, List.getElem?_eq_getElem (by omega)]
  exact List.getElem_mem _
 ·dsimp only
  rw [ringT_get _ _ _ (by omega), ring_head]
  unfold movedI
  rw [if_pos ⟨newT_len _ _, newT_len _ _⟩]
  exact moved_none 8 (fun _ _ => rfl)
end Go.Proofs.YtajfkcpifnpkeaaGreat

/- A balancer that may be: its pool is what its journal tells. -/
namespace Go.Proofs.YtajfkcpifnpkeaaGreat
open Go.ChangeShapes Go.WideShapes Go.ChangeAt Go.RowKit Go.Joins
set_option linter.unusedVariables false
set_option linter.unusedSimpArgs false


theorem movedTo_pos (aa bb : List (List Int)) : ∀ k, 0 ≤ movedTo aa bb k
 | 0 => Int.le_refl _
 | k + 1 => by
  have h := movedTo_pos aa bb k
  unfold movedTo
  split <;> omega
theorem movedTo_zero {aa bb : List (List Int)} : ∀ k, movedTo aa bb k = 0 → ∀ i, i < k → aa.getD i [] = bb.getD i []
 | 0, _, i, hi => absurd hi (Nat.not_lt_zero _)
 | k + 1, h, i, hi => by
  have h0 := movedTo_pos aa bb k
  unfold movedTo at h
  split at h
  ·next e =>
   by_cases hk : i = k
   ·rw [hk]; exact e
   ·exact movedTo_zero k (by omega) i (by omega)
  ·omega
theorem moved_same {aa bb : List (List Int)} (h : movedI aa bb = 0) : aa = bb := by
 unfold movedI at h
 split at h
 ·next e =>
  refine List.ext_getElem (by omega) (fun i h1 h2 => ?_)
  have h3 := movedTo_zero 8 h i (by omega)
  simpa [h1, h2] using h3
 ·omega
theorem samePB_eq {m1 m2 : Pm} (h : samePB m1 m2 = true) : m1 = m2 := by
 unfold samePB ringSame at h
 simp only [Bool.and_eq_true, decide_eq_true_eq, List.all_eq_true, List.mem_range, beq_iff_eq] at h
 obtain ⟨⟨h1, h2⟩, h3, h4⟩ := h
 obtain ⟨k1, l1, r1⟩ := m1
 obtain ⟨k2, l2, r2⟩ := m2
 dsimp only at h1 h2 h3 h4
 subst h1 h2
 have e : r1 = r2 := List.ext_getElem h3 (fun i a b => by
  have h5 := moved_same (h4 i a)
  simpa [a, b] using h5)
 rw [e]
theorem balB_jrn {m : Bm} (h : balB m = true) : journalB m.j.key m.j.l m.j.safe = true := by
 unfold balB at h
 rw [Bool.and_eq_true] at h
 exact h.1
theorem balB_same {m : Bm} (h : balB m = true) : m.p = replayM m.j := by
 unfold balB at h
 simp only [Bool.and_eq_true] at h
 exact (samePB_eq h.2.2).symm
theorem balB_pool {m : Bm} (h : balB m = true) : poolB m.p = true := by
 rw [balB_same h]
 exact replay_pool (balB_jrn h)
theorem balB_fit {m : Bm} (h : balB m = true) : fitPm m.p := by
 rw [balB_same h]
 exact replay_fit _
theorem balB_val {m : Bm} (h : balB m = true) (a b : Int) : (endL m.t a b).2 = true → 0 ≤ (getL m.t a b).v := fun he => by
 have ht := balB_tab h
 have h3 := (tableOkB_iff.1 ht).2.2
 rcases endL_cases m.t (balB_pos h) a b with e | ⟨k, hk, ⟨e, _⟩ | ⟨e, _⟩⟩
 ·rw [e] at he; cases he
 ·rw [e] at he; cases he
 ·rw [getL_yes e]
  have h4 := h3 k hk
  unfold tabAt at h4
  rw [Bool.and_eq_true] at h4
  exact slotB_v h4.1

end Go.Proofs.YtajfkcpifnpkeaaGreat

/- How a pool that comes in is opened. -/
namespace Go.Proofs.YtajfkcpifnpkeaaGreat
open Go.ChangeShapes Go.WideShapes Go.ChangeAt Go.RowKit Go.Joins
set_option linter.unusedVariables false
set_option linter.unusedSimpArgs false


theorem cellsLawsPool : Tryz.prog.cellsOf 28 = 3 := by kernel_rfl
theorem cellsIntSS : Tryz.prog.cellsOf 152 = 1 := by kernel_rfl
/-- Rows of rows of ints that came in. -/
theorem open_rows3_cells {H : Type} {enc : TypeId × Value → H} {W : World} {fuel : Nat} {cs : List Value} {x : DataW H × List MemPlace} (h : DataW.trod enc Tryz.prog W 0 (fun _ => true) true fuel 26 cs = some x) :
  ∃ (o : Option Addr) (cap : Nat) (ll : List (List (List Int))), cs = [.slice o ll.length cap] ∧ ll.length ≤ maxLen ∧ RiR 0 W.heap.size W (.slice o ll.length cap) ll ∧ (∀ i, i < ll.length → (ll.getD i []).length ≤ maxLen) ∧ ∀ i, i < ll.length → ∀ j, j < (ll.getD i []).length → ((ll.getD i []).getD j []).length ≤ maxLen := by
 rcases Go.Deep.open_slice1 Tryz.underlying26 cellsIntSS h with ⟨hcs, _⟩ | ⟨a, len, cap, m, n, V, D, Pl, hcs, _, hl, hm, hmm, _, hx⟩
 ·exact ⟨none, 0, [], hcs, Nat.zero_le _, ⟨[], rfl, ⟨none, 0, rfl, .inl rfl⟩, fun i hi => absurd hi (Nat.not_lt_zero _)⟩, fun i hi => absurd hi (Nat.not_lt_zero _), fun i hi => absurd hi (Nat.not_lt_zero _)⟩
 ·have hlm : len ≤ m := by rw [hmm]; split <;> omega
  have ex : ∀ i, i < len → ∃ y : Hd × List (List Int), V i = .slice y.1.1 y.1.2.1 y.1.2.2 ∧ y.1.2.1 = y.2.length ∧ y.2.length ≤ maxLen ∧ RdLL W.heap.size W y.1.1 y.2 ∧ ∀ j, j < y.2.length → (y.2.getD j []).length ≤ maxLen := fun i hi => by
   obtain ⟨o', c', l', e, hl', hr, hj⟩ := open_rows_cells (hx i (by omega)).2
   simp at e
   exact ⟨((o', l'.length, c'), l'), e, rfl, hl', hr, hj⟩
  have hne : Inhabited (Hd × List (List Int)) := ⟨((none, 0, 0), [])⟩
  obtain ⟨f, hf⟩ := Go.Deep.choose_lt ex
  have gd : ∀ i, i < len → ((List.range len).map (fun i => (f i).2)).getD i [] = (f i).2 := fun i hi => by simp [hi]
  have gh : ∀ i, i < len → ((List.range len).map (fun i => (f i).1)).getD i (none, 0, 0) = (f i).1 := fun i hi => by simp [hi]
  refine ⟨some a, cap, (List.range len).map (fun i => (f i).2), by simpa using hcs, by simp; omega, ⟨(List.range len).map (fun i => (f i).1), by simp, ⟨some a, cap, by simp, ?_⟩, fun i hi => ?_⟩, fun i hi => ?_, fun i hi => ?_⟩
  ·by_cases h0 : len = 0
   ·left; simp [h0]
   ·right
    obtain ⟨b, off, spot⟩ := a
    have hc := (hx 0 (by omega)).1
    have hspot : spot = none := by simpa [Addr.add] using World.cell?_spot hc
    subst hspot
    have e2 : ∀ j, (⟨b, off, none⟩ : Addr).add j = ⟨b, off + j, none⟩ := fun j => by by_cases h : j = 0 <;> simp [Addr.add, h]
    refine ⟨b, off, rfl, Nat.zero_le _, ?_, fun i hi j hj => ?_⟩
    ·rw [e2] at hc
     rcases Nat.lt_or_ge b W.heap.size with h | h
     ·exact h
     ·simp [World.cell?, Array.getElem?_eq_none h] at hc
    ·have hi' : i < len := by simpa using hi
     have hj' : j = 0 := by have : j < 1 := hj; omega
     subst hj'
     have h1 := (hx i (by omega)).1
     rw [e2] at h1
     rw [show layH.d = (none, 0, 0) from rfl, gh i hi', show layH.k = 1 from rfl, Nat.mul_one, Nat.add_zero, h1, (hf i hi').1]
     rfl
  ·have hi' : i < len := by simpa using hi
   have hv' : hv ((List.range len).map (fun i => (f i).1)) i = .slice (f i).1.1 (f i).2.length (f i).1.2.2 := by unfold hv; rw [gh i hi', (hf i hi').2.1]
   rw [gd i hi', hv']
   exact RiT.of (hf i hi').2.2.2.1
  ·have hi' : i < len := by simpa using hi
   rw [gd i hi']
   exact (hf i hi').2.2.1
  ·have hi' : i < len := by simpa using hi
   rw [gd i hi']
   exact (hf i hi').2.2.2.2
end Go.Proofs.YtajfkcpifnpkeaaGreat

/- Balancers as an argument of the laws: how they are counted. -/
namespace Go.Proofs.YtajfkcpifnpkeaaGreat
open Go.ChangeShapes Go.WideShapes Go.ChangeAt Go.RowKit Go.Joins
set_option linter.unusedVariables false
set_option linter.unusedSimpArgs false


set_option maxHeartbeats 400000 in
theorem szJournal_n (k s : Int) (o : Option Addr) (len c : Nat) (n : Int) (w : World) (hl : len ≤ maxLen) (h0 : 0 ≤ n) (h1 : n ≤ 1048576) :
  Calls Tryz.prog 44 #[jrn k (.slice o len c) s, .int .i64 n] w fun e w' => e = .returned (.int .i64 (if n - len < 0 then -1 else n - len)) ∧ Below w.heap.size w w' := by
 have hB : Below w.heap.size w w := Below.refl _ _
 have hs := fun W => szPoolCmdS_any o len c n W hl h0 h1
 by_cases h : n - len < 0
 ·rw [if_pos h] at hs
  rw [if_pos h]
  go_enter Tryz.func44, Tryz.ntmps44
  go_wp2_with (go_at_call 97; refine (hs _).mono ?_; rintro e w1 ⟨rfl, rfl⟩)
  go_ret
  exact ⟨rfl, by (repeat (first | with_reducible exact hB | with_reducible exact Below.refl _ _ | with_reducible refine Below.drew ?_ | with_reducible refine below_drewN ?_ _ | with_reducible refine Below.alloc ?_ ?_ _ | with_reducible refine Below.setCell ?_ ?_ _ | (focus (simp; done)) | (focus (simp; omega)) | omega))⟩
 ·rw [if_neg h] at hs
  rw [if_neg h]
  have h' : 0 ≤ n - (len : Int) := by omega
  go_enter Tryz.func44, Tryz.ntmps44
  go_wp2_with (go_at_call 97; refine (hs _).mono ?_; rintro e w1 ⟨rfl, rfl⟩)
  go_ret
  exact ⟨rfl, by (repeat (first | with_reducible exact hB | with_reducible exact Below.refl _ _ | with_reducible refine Below.drew ?_ | with_reducible refine below_drewN ?_ _ | with_reducible refine Below.alloc ?_ ?_ _ | with_reducible refine Below.setCell ?_ ?_ _ | (focus (simp; done)) | (focus (simp; omega)) | omega))⟩
/-- A balancer's lengths may be lengths. -/
def lenBm (m : Bm) : Prop := m.j.l.length ≤ maxLen ∧ lenPm m.p ∧ m.t.length ≤ maxLen

set_option maxRecDepth 100000 in
set_option maxHeartbeats 2000000 in
theorem szBal_sh (v : Value) (m : Bm) (w : World) (hR : RdBm w.heap.size w v m) (hl : lenBm m) :
  Calls Tryz.prog 11 #[v, .int .i64 1048576] w fun e w' => (∃ z : Int, e = .returned (.int .i64 z) ∧ ((z < 0 ∧ -1 ≤ z) ∨ (0 ≤ z ∧ z ≤ 1048576 ∧ fitB0 m))) ∧ Below w.heap.size w w' := by
 obtain ⟨o, c, ob, cb, oR, cR, ot, ct, rfl⟩ := hR.opn
 obtain ⟨vl, vb, vr, vt, e, a1, a2, a3⟩ := hR
 simp only [Value.agg.injEq, Array.mk.injEq, List.cons.injEq, and_true, true_and] at e
 obtain ⟨e1, e2, e3, e4⟩ := e
 subst e1 e2 e3 e4
 obtain ⟨l1, l2, l3⟩ := hl
 have HJ := hide (fun W => szJournal_n m.j.key m.j.safe o m.j.l.length c 1048576 W l1 (by decide) (by decide))
 have HP := hide (fun W (hb : Below w.heap.size w W) n h0 h1 => szPool_n (plv m.p.key (.slice ob m.p.l.length cb) (.slice oR m.p.ring.length cR)) m.p n W ((a2.kept hb (Nat.le_refl _)).le hb.size) l2 h0 h1)
 have HT := hide (fun W n h0 h1 => szTable_n ot m.t.length ct n W l3 h0 h1)
 have HFI := hide (show m.j.l.length ≤ 1048576 → fitPm m.p → m.t.length ≤ 1048576 → fitB0 m from fun x y z => ⟨x, y, z⟩)
 clear a1 a2 a3 l1 l2 l3
 generalize m.j.l.length = nj at *
 generalize m.p.l.length = np at *
 generalize m.p.ring.length = nr at *
 generalize m.t.length = nt at *
 generalize m.j.key = kj at *
 generalize m.j.safe = sj at *
 generalize m.p.key = kp at *
 obtain ⟨W0, hW0⟩ : ∃ W, (w.alloc (.cells #[.int .i64 kj, .slice o nj c, .int .i64 sj, .int .i64 kp, .slice ob np cb, .slice oR nr cR, .slice ot nt ct] 33)) = W := ⟨_, rfl⟩
 have hb_W0 : Below w.heap.size w W0 := by rw [← hW0]; exact ((Below.refl _ _).alloc (Nat.le_refl _) _)
 have HB := hide hb_W0
 clear hb_W0
 have zz : w.heap.size < W0.heap.size := by rw [← hW0]; simp
 have z0 : W0.cell? ⟨w.heap.size, 0, none⟩ = some (.int .i64 kj) := by rw [← hW0]; simp [go_sem]
 have z1 : W0.cell? ⟨w.heap.size, 1, none⟩ = some (.slice o nj c) := by rw [← hW0]; simp [go_sem]
 have z2 : W0.cell? ⟨w.heap.size, 2, none⟩ = some (.int .i64 sj) := by rw [← hW0]; simp [go_sem]
 have z3 : W0.cell? ⟨w.heap.size, 3, none⟩ = some (.int .i64 kp) := by rw [← hW0]; simp [go_sem]
 have z4 : W0.cell? ⟨w.heap.size, 4, none⟩ = some (.slice ob np cb) := by rw [← hW0]; simp [go_sem]
 have z5 : W0.cell? ⟨w.heap.size, 5, none⟩ = some (.slice oR nr cR) := by rw [← hW0]; simp [go_sem]
 have z6 : W0.cell? ⟨w.heap.size, 6, none⟩ = some (.slice ot nt ct) := by rw [← hW0]; simp [go_sem]
 go_enter Tryz.func11, Tryz.ntmps11
 go_wp2_with fail
 refine (HJ.out W0).mono ?_
 rintro e v1 ⟨rfl, hb⟩
 replace z0 := bC hb z0 zz
 replace z1 := bC hb z1 zz
 replace z2 := bC hb z2 zz
 replace z3 := bC hb z3 zz
 replace z4 := bC hb z4 zz
 replace z5 := bC hb z5 zz
 replace z6 := bC hb z6 zz
 replace zz := Nat.lt_of_lt_of_le zz hb.size
 replace HB := hide (HB.out.trans (hb.mono HB.out.size))
 clear hb
 by_cases hj : (1048576 : Int) - nj < 0
 ·rw [if_pos hj]
  go_wp2
  go_ret
  exact ⟨⟨_, rfl, .inl ⟨by decide, by decide⟩⟩, HB.out⟩
 rw [if_neg hj]
 have hj0 : (0 : Int) ≤ 1048576 - (nj : Int) := by omega
 have hj1 : (1048576 : Int) - (nj : Int) ≤ 1048576 := by omega
 have HPQ := hide (HP.out v1 HB.out _ hj0 hj1)
 clear HP
 obtain ⟨y, hy⟩ : ∃ y, (1048576 : Int) - (nj : Int) = y := ⟨_, rfl⟩
 rw [hy] at HPQ hj0 hj1 ⊢
 have HY := hide hy
 clear hy hj
 go_wp2_with fail
 refine (HPQ.out).mono ?_
 rintro e v2 ⟨⟨z, rfl, hz⟩, hb⟩
 replace z0 := bC hb z0 zz
 replace z1 := bC hb z1 zz
 replace z2 := bC hb z2 zz
 replace z3 := bC hb z3 zz
 replace z4 := bC hb z4 zz
 replace z5 := bC hb z5 zz
 replace z6 := bC hb z6 zz
 replace zz := Nat.lt_of_lt_of_le zz hb.size
 replace HB := hide (HB.out.trans (hb.mono HB.out.size))
 clear hb
 rcases hz with ⟨hz1, hz2⟩ | ⟨hz1, hz2, HF⟩
 ·go_wp2
  go_ret
  exact ⟨⟨_, rfl, .inl ⟨by decide, by decide⟩⟩, HB.out⟩
 have HF' := hide HF
 clear HF
 have HTQ := hide (HT.out v2 z hz1 (by omega))
 clear HT
 go_wp2_with fail
 refine (HTQ.out).mono ?_
 rintro e v3 ⟨rfl, hb⟩
 replace z0 := bC hb z0 zz
 replace z1 := bC hb z1 zz
 replace z2 := bC hb z2 zz
 replace z3 := bC hb z3 zz
 replace z4 := bC hb z4 zz
 replace z5 := bC hb z5 zz
 replace z6 := bC hb z6 zz
 replace zz := Nat.lt_of_lt_of_le zz hb.size
 replace HB := hide (HB.out.trans (hb.mono HB.out.size))
 clear hb
 by_cases ht : z - (nt : Int) < 0
 ·rw [if_pos ht]
  go_wp2
  go_ret
  exact ⟨⟨_, rfl, .inl ⟨by decide, by decide⟩⟩, HB.out⟩
 rw [if_neg ht]
 have ht0 : (0 : Int) ≤ z - (nt : Int) := by omega
 have HFF : Hid (fitB0 m) := HFI.out (by have := HY.out; omega) HF'.out (by omega)
 go_wp2
 go_ret
 exact ⟨⟨_, rfl, .inr ⟨ht0, by omega, HFF.out⟩⟩, HB.out⟩

end Go.Proofs.YtajfkcpifnpkeaaGreat

/- Balancers as an argument of the laws: how they are copied. -/
namespace Go.Proofs.YtajfkcpifnpkeaaGreat
open Go.ChangeShapes Go.WideShapes Go.ChangeAt Go.RowKit Go.Joins
set_option linter.unusedVariables false
set_option linter.unusedSimpArgs false


theorem inJm_wideB {a b a' b' : Nat} {w : World} {v : Value} {m : Jm} (h : InJm a b w v m) (h1 : a' ≤ a) (h2 : b ≤ b') : InJm a' b' w v m := by
 obtain ⟨vl, e, i1⟩ := h
 exact ⟨vl, e, InRow.mono i1 h1 h2⟩
set_option maxRecDepth 100000 in
set_option maxHeartbeats 4000000 in
theorem toBal_go (kj : Int) (o : Option Addr) (nj c : Nat) (sj kp : Int) (ob : Option Addr) (np cb : Nat) (oR : Option Addr) (nr cR : Nat) (ot : Option Addr) (nt ct : Nat) (m : Bm) (w : World)
  (hkj : m.j.key = kj) (hsj : m.j.safe = sj) (hkp : m.p.key = kp) (hnj : m.j.l.length = nj) (hnp : m.p.l.length = np) (hnr : m.p.ring.length = nr) (hnt : m.t.length = nt)
  (h1 : RdJm w.heap.size w (jrn kj (.slice o nj c) sj) m.j) (h2 : RdPm w.heap.size w (plv kp (.slice ob np cb) (.slice oR nr cR)) m.p) (h3 : RdT w.heap.size w (tab (.slice ot nt ct)) m.t) (hf : fitB0 m) :
  Calls Tryz.prog 13 #[balv kj (.slice o nj c) sj kp (.slice ob np cb) (.slice oR nr cR) (.slice ot nt ct)] w fun e w' => ∃ v', e = .returned v' ∧ InBm w.heap.size w'.heap.size w' v' m ∧ Below w.heap.size w w' := by
 have HJ := hide (fun W (hb : Below w.heap.size w W) => toJournal_sh (jrn kj (.slice o nj c) sj) m.j W ((h1.kept hb (Nat.le_refl _)).le hb.size) hf.1)
 have HP := hide (fun W (hb : Below w.heap.size w W) => toPool_sh (plv kp (.slice ob np cb) (.slice oR nr cR)) m.p W ((h2.kept hb (Nat.le_refl _)).le hb.size) hf.2.1)
 have HT := hide (fun W (hb : Below w.heap.size w W) => toTable_sh (tab (.slice ot nt ct)) m.t W ((h3.kept hb (Nat.le_refl _)).le hb.size) hf.2.2)
 have HK := hide (And.intro hkj (And.intro hsj (And.intro hkp (And.intro hnj (And.intro hnp (And.intro hnr hnt))))))
 clear h1 h2 h3 hf hkj hsj hkp hnj hnp hnr hnt
 obtain ⟨W0, hW0⟩ : ∃ W, (((w.alloc (.cells #[.int .i64 kj, .slice o nj c, .int .i64 sj, .int .i64 kp, .slice ob np cb, .slice oR nr cR, .slice ot nt ct] 33)).alloc (.cells #[.int .i64 0, .slice none 0 0, .int .i64 0, .int .i64 0, .slice none 0 0, .slice none 0 0, .slice none 0 0] 46)).alloc (.cells #[.int .i64 0, .slice none 0 0, .int .i64 0, .int .i64 0, .slice none 0 0, .slice none 0 0, .slice none 0 0] 46)) = W := ⟨_, rfl⟩
 have HB0 := hide (show Below w.heap.size w W0 by rw [← hW0]; exact ((((Below.refl _ _).alloc (Nat.le_refl _) _).alloc (by simp <;> omega) _).alloc (by simp <;> omega) _))
 have zx : w.heap.size + 1 + 1 < W0.heap.size := by rw [← hW0]; simp
 have a00 : W0.cell? ⟨w.heap.size, 0, none⟩ = some (.int .i64 kj) := by rw [← hW0]; simp [go_sem]
 have a01 : W0.cell? ⟨w.heap.size, 1, none⟩ = some (.slice o nj c) := by rw [← hW0]; simp [go_sem]
 have a02 : W0.cell? ⟨w.heap.size, 2, none⟩ = some (.int .i64 sj) := by rw [← hW0]; simp [go_sem]
 have a03 : W0.cell? ⟨w.heap.size, 3, none⟩ = some (.int .i64 kp) := by rw [← hW0]; simp [go_sem]
 have a04 : W0.cell? ⟨w.heap.size, 4, none⟩ = some (.slice ob np cb) := by rw [← hW0]; simp [go_sem]
 have a05 : W0.cell? ⟨w.heap.size, 5, none⟩ = some (.slice oR nr cR) := by rw [← hW0]; simp [go_sem]
 have a06 : W0.cell? ⟨w.heap.size, 6, none⟩ = some (.slice ot nt ct) := by rw [← hW0]; simp [go_sem]
 have HX0 := hide (show W0.heap[w.heap.size + 1 + 1]? = some (.cells #[.int .i64 0, .slice none 0 0, .int .i64 0, .int .i64 0, .slice none 0 0, .slice none 0 0, .slice none 0 0] 46 (0, 0)) by rw [← hW0]; exact box_new3 w _ _ _ _)
 have HR0 := hide (show W0.heap[w.heap.size + 1]? = some (.cells #[.int .i64 0, .slice none 0 0, .int .i64 0, .int .i64 0, .slice none 0 0, .slice none 0 0, .slice none 0 0] 46 (0, 0)) by rw [← hW0]; exact box_mid3 w _ _ _ _)
 have hsW : w.heap.size ≤ W0.heap.size := HB0.out.size
 go_enter Tryz.func13, Tryz.ntmps13
 go_wp2_with fail
 refine (HJ.out W0 HB0.out).mono ?_
 rintro e v1 ⟨u0v, rfl, inA, hb⟩
 obtain ⟨vl7, ev7, o7, c7, el7, _⟩ := inA.rd
 rw [HK.out.1, HK.out.2.1] at ev7
 rw [HK.out.2.2.2.1] at el7
 subst el7 ev7
 have hs0v : W0.heap.size ≤ v1.heap.size := hb.size
 have hx := (hb.block _ (show w.heap.size + 1 + 1 < W0.heap.size by omega)).trans HX0.out
 have hr := (hb.block _ (show w.heap.size + 1 < W0.heap.size by omega)).trans HR0.out
 have y0 := bC hb a00 (show w.heap.size < W0.heap.size by omega)
 have y1 := bC hb a01 (show w.heap.size < W0.heap.size by omega)
 have y2 := bC hb a02 (show w.heap.size < W0.heap.size by omega)
 have y3 := bC hb a03 (show w.heap.size < W0.heap.size by omega)
 have y4 := bC hb a04 (show w.heap.size < W0.heap.size by omega)
 have y5 := bC hb a05 (show w.heap.size < W0.heap.size by omega)
 have y6 := bC hb a06 (show w.heap.size < W0.heap.size by omega)
 have p0 := bx_cell hx 0 _ rfl
 have p1 := bx_cell hx 1 _ rfl
 have p2 := bx_cell hx 2 _ rfl
 have q0 := bx_frozen hx 0
 have q1 := bx_frozen hx 1
 have q2 := bx_frozen hx 2
 obtain ⟨W1, hW1⟩ : ∃ W, (((v1.setCell ⟨w.heap.size + 1 + 1, 0, none⟩ (.int .i64 kj)).setCell ⟨w.heap.size + 1 + 1, 1, none⟩ (.slice o7 nj c7)).setCell ⟨w.heap.size + 1 + 1, 2, none⟩ (.int .i64 sj)) = W := ⟨_, rfl⟩
 have HX1 := hide (show W1.heap[w.heap.size + 1 + 1]? = some (.cells #[.int .i64 kj, .slice o7 nj c7, .int .i64 sj, .int .i64 0, .slice none 0 0, .slice none 0 0, .slice none 0 0] 46 (0, 0)) by rw [← hW1]; exact (box_put (box_put (box_put hx 0 (.int .i64 kj)) 1 (.slice o7 nj c7)) 2 (.int .i64 sj)))
 have HR1 := hide (show W1.heap[w.heap.size + 1]? = some (.cells #[.int .i64 0, .slice none 0 0, .int .i64 0, .int .i64 0, .slice none 0 0, .slice none 0 0, .slice none 0 0] 46 (0, 0)) by rw [← hW1]; exact ((far_block (by omega) _ _).trans ((far_block (by omega) _ _).trans ((far_block (by omega) _ _).trans hr))))
 have hs1 : W1.heap.size = v1.heap.size := by rw [← hW1]; simp
 have HB1 := hide (show Below w.heap.size w W1 by rw [← hW1]; exact ((((HB0.out.trans (hb.mono HB0.out.size)).setCell (p := ⟨w.heap.size + 1 + 1, 0, none⟩) (show w.heap.size ≤ w.heap.size + 1 + 1 by omega) _).setCell (p := ⟨w.heap.size + 1 + 1, 1, none⟩) (show w.heap.size ≤ w.heap.size + 1 + 1 by omega) _).setCell (p := ⟨w.heap.size + 1 + 1, 2, none⟩) (show w.heap.size ≤ w.heap.size + 1 + 1 by omega) _))
 have sp : Stp (w.heap.size + 1 + 1) (w.heap.size + 1 + 1 + 1) v1 W1 := by rw [← hW1]; exact (((stp_set v1 (w.heap.size + 1 + 1) 0 (.int .i64 kj)).trans (stp_set (v1.setCell ⟨w.heap.size + 1 + 1, 0, none⟩ (.int .i64 kj)) (w.heap.size + 1 + 1) 1 (.slice o7 nj c7))).trans (stp_set ((v1.setCell ⟨w.heap.size + 1 + 1, 0, none⟩ (.int .i64 kj)).setCell ⟨w.heap.size + 1 + 1, 1, none⟩ (.slice o7 nj c7)) (w.heap.size + 1 + 1) 2 (.int .i64 sj)))
 have IN0 := hide (inA.step sp (.inl (by omega)))
 have a10 : W1.cell? ⟨w.heap.size, 0, none⟩ = some (.int .i64 kj) := by rw [← hW1]; exact ((cell_far (by omega)).trans ((cell_far (by omega)).trans ((cell_far (by omega)).trans y0)))
 have a11 : W1.cell? ⟨w.heap.size, 1, none⟩ = some (.slice o nj c) := by rw [← hW1]; exact ((cell_far (by omega)).trans ((cell_far (by omega)).trans ((cell_far (by omega)).trans y1)))
 have a12 : W1.cell? ⟨w.heap.size, 2, none⟩ = some (.int .i64 sj) := by rw [← hW1]; exact ((cell_far (by omega)).trans ((cell_far (by omega)).trans ((cell_far (by omega)).trans y2)))
 have a13 : W1.cell? ⟨w.heap.size, 3, none⟩ = some (.int .i64 kp) := by rw [← hW1]; exact ((cell_far (by omega)).trans ((cell_far (by omega)).trans ((cell_far (by omega)).trans y3)))
 have a14 : W1.cell? ⟨w.heap.size, 4, none⟩ = some (.slice ob np cb) := by rw [← hW1]; exact ((cell_far (by omega)).trans ((cell_far (by omega)).trans ((cell_far (by omega)).trans y4)))
 have a15 : W1.cell? ⟨w.heap.size, 5, none⟩ = some (.slice oR nr cR) := by rw [← hW1]; exact ((cell_far (by omega)).trans ((cell_far (by omega)).trans ((cell_far (by omega)).trans y5)))
 have a16 : W1.cell? ⟨w.heap.size, 6, none⟩ = some (.slice ot nt ct) := by rw [← hW1]; exact ((cell_far (by omega)).trans ((cell_far (by omega)).trans ((cell_far (by omega)).trans y6)))
 clear hx hr hb inA sp y0 a00 y1 a01 y2 a02 y3 a03 y4 a04 y5 a05 y6 a06 HB0 HX0 HR0
 go_wp2_with fail
 refine (HP.out W1 HB1.out).mono ?_
 rintro e v2 ⟨u1v, rfl, inA, hb⟩
 obtain ⟨o8, c8, oR8, cR8, ev8⟩ := inA.opn
 rw [HK.out.2.2.1, HK.out.2.2.2.2.1, HK.out.2.2.2.2.2.1] at ev8
 subst ev8
 have hs1v : W1.heap.size ≤ v2.heap.size := hb.size
 have hx := (hb.block _ (show w.heap.size + 1 + 1 < W1.heap.size by omega)).trans HX1.out
 have hr := (hb.block _ (show w.heap.size + 1 < W1.heap.size by omega)).trans HR1.out
 have y0 := bC hb a10 (show w.heap.size < W1.heap.size by omega)
 have y1 := bC hb a11 (show w.heap.size < W1.heap.size by omega)
 have y2 := bC hb a12 (show w.heap.size < W1.heap.size by omega)
 have y3 := bC hb a13 (show w.heap.size < W1.heap.size by omega)
 have y4 := bC hb a14 (show w.heap.size < W1.heap.size by omega)
 have y5 := bC hb a15 (show w.heap.size < W1.heap.size by omega)
 have y6 := bC hb a16 (show w.heap.size < W1.heap.size by omega)
 replace IN0 := hide (IN0.out.step (Stp.of (lo := 0) (hi := 0) hb) (.inl (Nat.zero_le _)))
 have p3 := bx_cell hx 3 _ rfl
 have p4 := bx_cell hx 4 _ rfl
 have p5 := bx_cell hx 5 _ rfl
 have q3 := bx_frozen hx 3
 have q4 := bx_frozen hx 4
 have q5 := bx_frozen hx 5
 obtain ⟨W2, hW2⟩ : ∃ W, (((v2.setCell ⟨w.heap.size + 1 + 1, 3, none⟩ (.int .i64 kp)).setCell ⟨w.heap.size + 1 + 1, 4, none⟩ (.slice o8 np c8)).setCell ⟨w.heap.size + 1 + 1, 5, none⟩ (.slice oR8 nr cR8)) = W := ⟨_, rfl⟩
 have HX2 := hide (show W2.heap[w.heap.size + 1 + 1]? = some (.cells #[.int .i64 kj, .slice o7 nj c7, .int .i64 sj, .int .i64 kp, .slice o8 np c8, .slice oR8 nr cR8, .slice none 0 0] 46 (0, 0)) by rw [← hW2]; exact (box_put (box_put (box_put hx 3 (.int .i64 kp)) 4 (.slice o8 np c8)) 5 (.slice oR8 nr cR8)))
 have HR2 := hide (show W2.heap[w.heap.size + 1]? = some (.cells #[.int .i64 0, .slice none 0 0, .int .i64 0, .int .i64 0, .slice none 0 0, .slice none 0 0, .slice none 0 0] 46 (0, 0)) by rw [← hW2]; exact ((far_block (by omega) _ _).trans ((far_block (by omega) _ _).trans ((far_block (by omega) _ _).trans hr))))
 have hs2 : W2.heap.size = v2.heap.size := by rw [← hW2]; simp
 have HB2 := hide (show Below w.heap.size w W2 by rw [← hW2]; exact ((((HB1.out.trans (hb.mono HB1.out.size)).setCell (p := ⟨w.heap.size + 1 + 1, 3, none⟩) (show w.heap.size ≤ w.heap.size + 1 + 1 by omega) _).setCell (p := ⟨w.heap.size + 1 + 1, 4, none⟩) (show w.heap.size ≤ w.heap.size + 1 + 1 by omega) _).setCell (p := ⟨w.heap.size + 1 + 1, 5, none⟩) (show w.heap.size ≤ w.heap.size + 1 + 1 by omega) _))
 have sp : Stp (w.heap.size + 1 + 1) (w.heap.size + 1 + 1 + 1) v2 W2 := by rw [← hW2]; exact (((stp_set v2 (w.heap.size + 1 + 1) 3 (.int .i64 kp)).trans (stp_set (v2.setCell ⟨w.heap.size + 1 + 1, 3, none⟩ (.int .i64 kp)) (w.heap.size + 1 + 1) 4 (.slice o8 np c8))).trans (stp_set ((v2.setCell ⟨w.heap.size + 1 + 1, 3, none⟩ (.int .i64 kp)).setCell ⟨w.heap.size + 1 + 1, 4, none⟩ (.slice o8 np c8)) (w.heap.size + 1 + 1) 5 (.slice oR8 nr cR8)))
 replace IN0 := hide (IN0.out.step sp (.inl (by omega)))
 have IN1 := hide (inA.step sp (.inl (by omega)))
 have a20 : W2.cell? ⟨w.heap.size, 0, none⟩ = some (.int .i64 kj) := by rw [← hW2]; exact ((cell_far (by omega)).trans ((cell_far (by omega)).trans ((cell_far (by omega)).trans y0)))
 have a21 : W2.cell? ⟨w.heap.size, 1, none⟩ = some (.slice o nj c) := by rw [← hW2]; exact ((cell_far (by omega)).trans ((cell_far (by omega)).trans ((cell_far (by omega)).trans y1)))
 have a22 : W2.cell? ⟨w.heap.size, 2, none⟩ = some (.int .i64 sj) := by rw [← hW2]; exact ((cell_far (by omega)).trans ((cell_far (by omega)).trans ((cell_far (by omega)).trans y2)))
 have a23 : W2.cell? ⟨w.heap.size, 3, none⟩ = some (.int .i64 kp) := by rw [← hW2]; exact ((cell_far (by omega)).trans ((cell_far (by omega)).trans ((cell_far (by omega)).trans y3)))
 have a24 : W2.cell? ⟨w.heap.size, 4, none⟩ = some (.slice ob np cb) := by rw [← hW2]; exact ((cell_far (by omega)).trans ((cell_far (by omega)).trans ((cell_far (by omega)).trans y4)))
 have a25 : W2.cell? ⟨w.heap.size, 5, none⟩ = some (.slice oR nr cR) := by rw [← hW2]; exact ((cell_far (by omega)).trans ((cell_far (by omega)).trans ((cell_far (by omega)).trans y5)))
 have a26 : W2.cell? ⟨w.heap.size, 6, none⟩ = some (.slice ot nt ct) := by rw [← hW2]; exact ((cell_far (by omega)).trans ((cell_far (by omega)).trans ((cell_far (by omega)).trans y6)))
 clear hx hr hb inA sp y0 a10 y1 a11 y2 a12 y3 a13 y4 a14 y5 a15 y6 a16 HB1 HX1 HR1
 go_wp2_with fail
 refine (HT.out W2 HB2.out).mono ?_
 rintro e v3 ⟨u2v, rfl, inA, hb⟩
 obtain ⟨vt9, ev9, o9, c9, el9, _⟩ := inA.rd
 rw [HK.out.2.2.2.2.2.2] at el9
 subst el9 ev9
 have hs2v : W2.heap.size ≤ v3.heap.size := hb.size
 have hx := (hb.block _ (show w.heap.size + 1 + 1 < W2.heap.size by omega)).trans HX2.out
 have hr := (hb.block _ (show w.heap.size + 1 < W2.heap.size by omega)).trans HR2.out
 have y0 := bC hb a20 (show w.heap.size < W2.heap.size by omega)
 have y1 := bC hb a21 (show w.heap.size < W2.heap.size by omega)
 have y2 := bC hb a22 (show w.heap.size < W2.heap.size by omega)
 have y3 := bC hb a23 (show w.heap.size < W2.heap.size by omega)
 have y4 := bC hb a24 (show w.heap.size < W2.heap.size by omega)
 have y5 := bC hb a25 (show w.heap.size < W2.heap.size by omega)
 have y6 := bC hb a26 (show w.heap.size < W2.heap.size by omega)
 replace IN0 := hide (IN0.out.step (Stp.of (lo := 0) (hi := 0) hb) (.inl (Nat.zero_le _)))
 replace IN1 := hide (IN1.out.step (Stp.of (lo := 0) (hi := 0) hb) (.inl (Nat.zero_le _)))
 have p6 := bx_cell hx 6 _ rfl
 have q6 := bx_frozen hx 6
 obtain ⟨W3, hW3⟩ : ∃ W, (v3.setCell ⟨w.heap.size + 1 + 1, 6, none⟩ (.slice o9 nt c9)) = W := ⟨_, rfl⟩
 have HX3 := hide (show W3.heap[w.heap.size + 1 + 1]? = some (.cells #[.int .i64 kj, .slice o7 nj c7, .int .i64 sj, .int .i64 kp, .slice o8 np c8, .slice oR8 nr cR8, .slice o9 nt c9] 46 (0, 0)) by rw [← hW3]; exact (box_put hx 6 (.slice o9 nt c9)))
 have HR3 := hide (show W3.heap[w.heap.size + 1]? = some (.cells #[.int .i64 0, .slice none 0 0, .int .i64 0, .int .i64 0, .slice none 0 0, .slice none 0 0, .slice none 0 0] 46 (0, 0)) by rw [← hW3]; exact ((far_block (by omega) _ _).trans hr))
 have hs3 : W3.heap.size = v3.heap.size := by rw [← hW3]; simp
 have HB3 := hide (show Below w.heap.size w W3 by rw [← hW3]; exact ((HB2.out.trans (hb.mono HB2.out.size)).setCell (p := ⟨w.heap.size + 1 + 1, 6, none⟩) (show w.heap.size ≤ w.heap.size + 1 + 1 by omega) _))
 have sp : Stp (w.heap.size + 1 + 1) (w.heap.size + 1 + 1 + 1) v3 W3 := by rw [← hW3]; exact (stp_set v3 (w.heap.size + 1 + 1) 6 (.slice o9 nt c9))
 replace IN0 := hide (IN0.out.step sp (.inl (by omega)))
 replace IN1 := hide (IN1.out.step sp (.inl (by omega)))
 have IN2 := hide (inA.step sp (.inl (by omega)))
 have a30 : W3.cell? ⟨w.heap.size, 0, none⟩ = some (.int .i64 kj) := by rw [← hW3]; exact ((cell_far (by omega)).trans y0)
 have a31 : W3.cell? ⟨w.heap.size, 1, none⟩ = some (.slice o nj c) := by rw [← hW3]; exact ((cell_far (by omega)).trans y1)
 have a32 : W3.cell? ⟨w.heap.size, 2, none⟩ = some (.int .i64 sj) := by rw [← hW3]; exact ((cell_far (by omega)).trans y2)
 have a33 : W3.cell? ⟨w.heap.size, 3, none⟩ = some (.int .i64 kp) := by rw [← hW3]; exact ((cell_far (by omega)).trans y3)
 have a34 : W3.cell? ⟨w.heap.size, 4, none⟩ = some (.slice ob np cb) := by rw [← hW3]; exact ((cell_far (by omega)).trans y4)
 have a35 : W3.cell? ⟨w.heap.size, 5, none⟩ = some (.slice oR nr cR) := by rw [← hW3]; exact ((cell_far (by omega)).trans y5)
 have a36 : W3.cell? ⟨w.heap.size, 6, none⟩ = some (.slice ot nt ct) := by rw [← hW3]; exact ((cell_far (by omega)).trans y6)
 clear hx hr hb inA sp y0 a20 y1 a21 y2 a22 y3 a23 y4 a24 y5 a25 y6 a26 HB2 HX2 HR2
 have x0 := bx_cell HX3.out 0 _ rfl
 have x1 := bx_cell HX3.out 1 _ rfl
 have x2 := bx_cell HX3.out 2 _ rfl
 have x3 := bx_cell HX3.out 3 _ rfl
 have x4 := bx_cell HX3.out 4 _ rfl
 have x5 := bx_cell HX3.out 5 _ rfl
 have x6 := bx_cell HX3.out 6 _ rfl
 have r0 := bx_cell HR3.out 0 _ rfl
 have r1 := bx_cell HR3.out 1 _ rfl
 have r2 := bx_cell HR3.out 2 _ rfl
 have r3 := bx_cell HR3.out 3 _ rfl
 have r4 := bx_cell HR3.out 4 _ rfl
 have r5 := bx_cell HR3.out 5 _ rfl
 have r6 := bx_cell HR3.out 6 _ rfl
 have fr0 := bx_frozen HR3.out 0
 have fr1 := bx_frozen HR3.out 1
 have fr2 := bx_frozen HR3.out 2
 have fr3 := bx_frozen HR3.out 3
 have fr4 := bx_frozen HR3.out 4
 have fr5 := bx_frozen HR3.out 5
 have fr6 := bx_frozen HR3.out 6
 have HFI : Hid (InBm w.heap.size (setB W3 (w.heap.size + 1) (.int .i64 kj) (.slice o7 nj c7) (.int .i64 sj) (.int .i64 kp) (.slice o8 np c8) (.slice oR8 nr cR8) (.slice o9 nt c9)).heap.size (setB W3 (w.heap.size + 1) (.int .i64 kj) (.slice o7 nj c7) (.int .i64 sj) (.int .i64 kp) (.slice o8 np c8) (.slice oR8 nr cR8) (.slice o9 nt c9)) (balv kj (.slice o7 nj c7) sj kp (.slice o8 np c8) (.slice oR8 nr cR8) (.slice o9 nt c9)) m) := by
  have s9 := stp_setB W3 (w.heap.size + 1) (.int .i64 kj) (.slice o7 nj c7) (.int .i64 sj) (.int .i64 kp) (.slice o8 np c8) (.slice oR8 nr cR8) (.slice o9 nt c9)
  obtain ⟨e1, e2, e3, _⟩ := HK.out
  refine ⟨.slice o7 nj c7, .slice o8 np c8, .slice oR8 nr cR8, .slice o9 nt c9, w.heap.size, v1.heap.size, v1.heap.size, v2.heap.size, v2.heap.size, W3.heap.size, by rw [e1, e2, e3], by rw [setB_size]; omega, ?_, ?_, ?_⟩
  ·rw [e1, e2]; exact inJm_wideB (IN0.out.step s9 (.inl (by omega))) (by omega) (by omega)
  ·rw [e3]; exact inPm_wide (IN1.out.step s9 (.inl (by omega))) (by omega) (by omega)
  ·exact (IN2.out.step s9 (.inl (by omega))).mono (by omega) (by omega)
 go_wp2
 refine bodyPost_ret (v := balv kj (.slice o7 nj c7) sj kp (.slice o8 np c8) (.slice oR8 nr cR8) (.slice o9 nt c9)) (by simp [results, Tryz.results13, go_sem, r0, r1, r2, r3, r4, r5, r6]) rfl ⟨_, rfl, HFI.out, setB_below HB3.out (Nat.le_succ _) _ _ _ _ _ _ _⟩

theorem toBal_sh (v : Value) (m : Bm) (w : World) (hR : RdBm w.heap.size w v m) (hf : fitB0 m) :
  Calls Tryz.prog 13 #[v] w fun e w' => ∃ v', e = .returned v' ∧ InBm w.heap.size w'.heap.size w' v' m ∧ Below w.heap.size w w' := by
 obtain ⟨o, c, ob, cb, oR, cR, ot, ct, rfl⟩ := hR.opn
 obtain ⟨vl, vb, vr, vt, e, a1, a2, a3⟩ := hR
 simp only [Value.agg.injEq, Array.mk.injEq, List.cons.injEq, and_true, true_and] at e
 obtain ⟨e1, e2, e3, e4⟩ := e
 subst e1 e2 e3 e4
 exact toBal_go _ o _ c _ _ ob _ cb oR _ cR ot _ ct m w rfl rfl rfl rfl rfl rfl rfl a1 a2 a3 hf

end Go.Proofs.YtajfkcpifnpkeaaGreat

/- A balancer's copy, opened. -/
namespace Go.Proofs.YtajfkcpifnpkeaaGreat
open Go.ChangeShapes Go.WideShapes Go.ChangeAt Go.RowKit Go.Joins
set_option linter.unusedVariables false
set_option linter.unusedSimpArgs false

theorem balIn_open {lo hi : Nat} {w : World} {v : Value} {m : Bm} (h : InBm lo hi w v m) (hh : hi ≤ w.heap.size) : ∃ (o : Option Addr) (c : Nat) (ob : Option Addr) (cb : Nat) (oR : Option Addr) (cR : Nat) (ot : Option Addr) (ct : Nat), v = balv m.j.key (.slice o m.j.l.length c) m.j.safe m.p.key (.slice ob m.p.l.length cb) (.slice oR m.p.ring.length cR) (.slice ot m.t.length ct) ∧ RdC w.heap.size w o m.j.l ∧ (o = none → c = 0) ∧ RdPm w.heap.size w (plv m.p.key (.slice ob m.p.l.length cb) (.slice oR m.p.ring.length cR)) m.p ∧ RdS w.heap.size w ot m.t := by
 obtain ⟨vl, vb, vr, vt, j0, j1, p0, p1, t0, t1, e, kk, hj, hp, ht⟩ := h
 have cj := hj.cap
 obtain ⟨vl', e1, o, c, e1', r1⟩ := hj.rd
 obtain ⟨ob, cb, oR, cR, e2⟩ := hp.opn
 obtain ⟨vt', e3, ot, ct, e3', r3⟩ := ht.rd
 simp only [Value.agg.injEq, Array.mk.injEq, List.cons.injEq, and_true, true_and] at e1 e2 e3
 obtain ⟨e21, e22⟩ := e2
 subst e1 e1' e3 e3' e21 e22
 exact ⟨o, c, ob, cb, oR, cR, ot, ct, e, r1.le (by omega), capJm.one cj, hp.rd.le (by omega), r3.le (by omega)⟩
end Go.Proofs.YtajfkcpifnpkeaaGreat

/- RouteOf, on both sides. -/
namespace Go.Proofs.YtajfkcpifnpkeaaGreat
open Go.ChangeShapes Go.WideShapes Go.ChangeAt Go.RowKit Go.Joins
set_option linter.unusedVariables false
set_option linter.unusedSimpArgs false


theorem packet_flow {a b f s : Int} {n : Nat} (h : packetOkB a b f s n = true) : flowOkB a b = true := by
 unfold packetOkB at h
 simp only [Bool.and_eq_true] at h
 simp_all

end Go.Proofs.YtajfkcpifnpkeaaGreat

