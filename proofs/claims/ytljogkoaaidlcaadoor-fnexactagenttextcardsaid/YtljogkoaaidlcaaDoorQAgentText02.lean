/- Several texts in one: Bytes, Boxes, LBytes, LMark. -/
import Derived.RegionTactic
import Derived.Deep.QuietTactic
import Derived.BigQuiet
import Derived.Test.YtljogkoaaidlcaaDoorQAgentText01
/- Slices of bytes: how they read. -/
namespace Go.Proofs.YtljogkoaaidlcaaDoor
open Go.ChangeShapes Go.WideShapes Go.ChangeAt Go.RowKit Go.Joins
set_option linter.unusedVariables false
set_option linter.unusedSimpArgs false

/-- The slice that begins at o reads as the bytes l. -/
def Rd (w : World) (o : Option Addr) (l : List Int) : Prop :=
 l = [] ∨ ∃ b off, o = some ⟨b, off, none⟩ ∧ b < w.heap.size ∧ ∀ i, i < l.length → w.cell? ⟨b, off + i, none⟩ = some (.int .u8 (l.getD i 0))
theorem Rd.kept {w w' : World} {o : Option Addr} {l : List Int} (h : Rd w o l) (hb : Below w.heap.size w w') : Rd w' o l := by
 rcases h with h | ⟨b, off, ho, hlt, hc⟩
 ·exact .inl h
 ·exact .inr ⟨b, off, ho, Nat.lt_of_lt_of_le hlt hb.size, fun i hi => (hb.cell (p := ⟨b, off + i, none⟩) hlt).trans (hc i hi)⟩

/-- A row of the call's own that holds the bytes l. -/
abbrev ownB (w : World) (base : Nat) (v : Value) (l : List Int) : Prop := w.ownsRow base 5 1 v l.length (l.map (Value.int .u8))

theorem ownB.rd {w : World} {base g n cap : Nat} {l : List Int} (h : ownB w base (.slice (some ⟨g, 0, none⟩) n cap) l) : Rd w (some ⟨g, 0, none⟩) l := by
 have hn : n = l.length := by
  rcases h.2 with ⟨h', _⟩ | ⟨g', cap', cur, h', _⟩
  ·simp at h'
  ·simp at h'; exact h'.2.1
 subst hn
 refine .inr ⟨g, 0, rfl, ?_, fun i hi => ?_⟩
 ·exact (h.lt g rfl).2
 ·have := h.cellAt i (by omega)
  rw [Nat.zero_add, this]
  simp [hi]

theorem ownB.open {w : World} {base : Nat} {v : Value} {l : List Int} (h : ownB w base v l) : ∃ o cap, v = .slice o l.length cap ∧ Rd w o l := by
 have h0 := h
 rcases h.2 with ⟨h1, h2⟩ | ⟨g, cap, cur, hv, _⟩
 ·have e : l = [] := List.eq_nil_of_length_eq_zero h2
  subst e
  exact ⟨none, 0, by simpa using h1, .inl rfl⟩
 ·subst hv
  exact ⟨_, cap, rfl, h0.rd⟩
theorem ownB.pos {w : World} {base : Nat} {v : Value} {l : List Int} (h : ownB w base v l) (hp : 0 < l.length) : ∃ g cap, v = .slice (some ⟨g, 0, none⟩) l.length cap ∧ base ≤ g := by
 rcases h.2 with ⟨h1, h2⟩ | ⟨g, cap, cur, hv, hg, _⟩
 ·omega
 ·exact ⟨g, cap, hv, hg⟩

theorem Rd.news {w : World} {ad : Addr} {l : List Int} (h : Rd w (some ad) l) : ∀ j u, (l.map (Value.int .u8))[j]? = some u → w.cell? (ad.add j) = some u := by
 intro j u hj
 rcases h with h | ⟨b, off, ho, _, hc⟩
 ·subst h; simp at hj
 ·cases ho
  have hlt : j < l.length := by
   rcases Nat.lt_or_ge j l.length with h | h
   ·exact h
   ·simp [List.getElem?_eq_none h] at hj
  have e2 : (⟨b, off, none⟩ : Addr).add j = ⟨b, off + j, none⟩ := by by_cases h : j = 0 <;> simp [Addr.add, h]
  rw [e2, hc j hlt]
  simpa [hlt] using hj
theorem Rd.nil {w : World} {l : List Int} (h : Rd w none l) : l = [] := by
 rcases h with h | ⟨b, off, ho, _⟩
 ·exact h
 ·cases ho

/-- As Rd, in a block below C. -/
def RdB (C : Nat) (w : World) (o : Option Addr) (l : List Int) : Prop :=
 l = [] ∨ ∃ b off, o = some ⟨b, off, none⟩ ∧ b < C ∧ ∀ i, i < l.length → w.cell? ⟨b, off + i, none⟩ = some (.int .u8 (l.getD i 0))
theorem RdB.rd {C : Nat} {w : World} {o : Option Addr} {l : List Int} (h : RdB C w o l) (hc : C ≤ w.heap.size) : Rd w o l := by
 rcases h with h | ⟨b, off, ho, hb, r⟩
 ·exact .inl h
 ·exact .inr ⟨b, off, ho, Nat.lt_of_lt_of_le hb hc, r⟩
theorem RdB.kept {C D : Nat} {w w' : World} {o : Option Addr} {l : List Int} (h : RdB C w o l) (hb : Below D w w') (hc : C ≤ D) : RdB C w' o l := by
 rcases h with h | ⟨b, off, ho, hlt, r⟩
 ·exact .inl h
 ·exact .inr ⟨b, off, ho, hlt, fun i hi => (hb.cell (p := ⟨b, off + i, none⟩) (Nat.lt_of_lt_of_le hlt hc)).trans (r i hi)⟩
theorem own_kept {w w' : World} {base : Nat} {e : TypeId} {size : Nat} {v : Value} {n : Nat} {xs : List Value} (h : w.ownsRow base e size v n xs) (hb : Below w.heap.size w w') : w'.ownsRow base e size v n xs :=
 h.kept (row := none) ⟨hb.os, hb.tape, hb.output, hb.size, fun k hk _ => hb.block k hk⟩ (by cases v.ownBlock <;> simp)

theorem infoU8 : (Tryd.prog.info? 5).map (fun i => (i.zero, i.size, i.bytes)) = some (some (.int .u8 0), 1, 1) := by kernel_rfl

theorem getD_lt (l : List Int) (k : Nat) (h : k < l.length) : l.getD k 0 = l[k] := by simp [h]
theorem take_succ_getD (l : List Int) (k : Nat) (h : k < l.length) : l.take (k + 1) = l.take k ++ [l.getD k 0] := by
 rw [List.take_succ_eq_append_getElem h, getD_lt l k h]

end Go.Proofs.YtljogkoaaidlcaaDoor

/- The boxes of packets. -/
namespace Go.Proofs.YtljogkoaaidlcaaDoor
open Go.ChangeShapes Go.WideShapes Go.ChangeAt Go.RowKit Go.Joins
set_option linter.unusedVariables false
set_option linter.unusedSimpArgs false

/-- The cells of a packet's box that are read. -/
def boxed (k : Nat) (a b f s : Int) (v : Value) (w : World) : Prop :=
 w.cell? ⟨k, 0, none⟩ = some (.int .i64 a) ∧ w.cell? ⟨k, 1, none⟩ = some (.int .i64 b) ∧ w.cell? ⟨k, 2, none⟩ = some (.int .i64 f) ∧ w.cell? ⟨k, 3, none⟩ = some (.int .i64 s) ∧ w.cell? ⟨k, 4, none⟩ = some v
theorem boxed.kept {k : Nat} {a b f s : Int} {v : Value} {w w' : World} {B : Nat} (h : boxed k a b f s v w) (hb : Below B w w') (hk : k < B) : boxed k a b f s v w' :=
 ⟨(hb.cell (p := ⟨k, 0, none⟩) hk).trans h.1, (hb.cell (p := ⟨k, 1, none⟩) hk).trans h.2.1, (hb.cell (p := ⟨k, 2, none⟩) hk).trans h.2.2.1, (hb.cell (p := ⟨k, 3, none⟩) hk).trans h.2.2.2.1, (hb.cell (p := ⟨k, 4, none⟩) hk).trans h.2.2.2.2⟩
/-- The box of a result that is not yet written. -/
def empty5 (k : Nat) (w : World) : Prop := boxed k 0 0 0 0 (.slice none 0 0) w ∧ (w.frozen? ⟨k, 0, none⟩ = false ∧ w.frozen? ⟨k, 1, none⟩ = false ∧ w.frozen? ⟨k, 2, none⟩ = false ∧ w.frozen? ⟨k, 3, none⟩ = false ∧ w.frozen? ⟨k, 4, none⟩ = false)
theorem empty5.kept {k : Nat} {w w' : World} {B : Nat} (h : empty5 k w) (hb : Below B w w') (hk : k < B) : empty5 k w' :=
 ⟨h.1.kept hb hk, (hb.frozen (p := ⟨k, 0, none⟩) hk).trans h.2.1, (hb.frozen (p := ⟨k, 1, none⟩) hk).trans h.2.2.1, (hb.frozen (p := ⟨k, 2, none⟩) hk).trans h.2.2.2.1, (hb.frozen (p := ⟨k, 3, none⟩) hk).trans h.2.2.2.2.1, (hb.frozen (p := ⟨k, 4, none⟩) hk).trans h.2.2.2.2.2⟩
end Go.Proofs.YtljogkoaaidlcaaDoor

/- Contracts of the laws' own helpers over bytes: szByteS, toByteS, eqByteS. -/
namespace Go.Proofs.YtljogkoaaidlcaaDoor
open Go.ChangeShapes Go.WideShapes Go.ChangeAt Go.RowKit Go.Joins
set_option linter.unusedVariables false
set_option linter.unusedSimpArgs false

set_option maxHeartbeats 1000000 in
theorem eqByteS_any (o1 o2 : Option Addr) (c1 c2 : Nat) (l1 l2 : List Int) (w : World) (h1 : Rd w o1 l1) (h2 : Rd w o2 l2) (hl1 : l1.length ≤ 1048576) (hl2 : l2.length ≤ 1048576) :
  Calls Tryd.prog 8 #[.slice o1 l1.length c1, .slice o2 l2.length c2] w fun e w' => e = .returned (.bool (decide (l1 = l2))) ∧ Below w.heap.size w w' := by
 by_cases hlen : l1.length = l2.length
 ·have hne : ((l1.length : Int) != (l2.length : Int)) = false := by simp [hlen]
  have HL := hide hlen
  have hle : l1.length ≤ l2.length := by omega
  have hge : l2.length ≤ l1.length := by omega
  clear hlen
  go_enter Tryd.func8, Tryd.ntmps8
  go_wp2
  go_loopw [5] (fun i wr => ∃ k : Nat, k ≤ l1.length ∧ i = .int .i64 k ∧ l1.take k = l2.take k ∧ Below w.heap.size w wr)
   (fun i _ => l1.length - (intOf i).toNat)
  case atStart => exact ⟨0, Nat.zero_le _, rfl, rfl, Below.refl _ _⟩
  case round =>
   obtain ⟨k, hk, rfl, htk, hBr⟩ := hrel
   have HT := hide htk
   by_cases hlt : k < l1.length
   ·rcases h1 with h1 | ⟨b1, off1, rfl, hb1, hcell1⟩
    ·subst h1; simp at hlt
    rcases h2 with h2 | ⟨b2, off2, rfl, hb2, hcell2⟩
    ·subst h2; simp at hle; simp [hle] at hlt
    have hlt2 : k < l2.length := by omega
    have hc1 : wr.cell? ⟨b1, off1 + k, none⟩ = some (.int .u8 (l1.getD k 0)) := (hBr.cell (p := ⟨b1, off1 + k, none⟩) hb1).trans (hcell1 k hlt)
    have hc2 : wr.cell? ⟨b2, off2 + k, none⟩ = some (.int .u8 (l2.getD k 0)) := (hBr.cell (p := ⟨b2, off2 + k, none⟩) hb2).trans (hcell2 k (by omega))
    have HB := hide hBr
    have t1 := hide (take_succ_getD l1 k hlt)
    have t2 := hide (take_succ_getD l2 k hlt2)
    have n12 : l1 = l2 → l1.getD k 0 = l2.getD k 0 := fun h => by rw [h]
    have N12 := hide n12
    clear n12 hcell1 hcell2
    have i1 : (k : Int) < (l1.length : Int) := by omega
    have i2 : (k : Int) < (l2.length : Int) := by omega
    generalize l1.getD k 0 = x at *
    generalize l2.getD k 0 = y at *
    clear htk hBr
    by_cases hxy : x = y
    ·have hb : (x != y) = false := by simp [hxy]
     have HX := hide hxy
     clear hxy N12
     go_wp2
     go_quiet (fail)
     go_wp2
     go_roundw
     case rel =>
      refine ⟨k + 1, by omega, by go_num, ?_, ?_⟩
      ·rw [t1.out, t2.out, HT.out, HX.out]
      ·exact below_drewN HB.out _
     case measure => simp [intOf]; omega
    ·have hb : (x != y) = true := by simp [hxy]
     have HX : Hid (l1 ≠ l2) := fun h => hxy (N12.out h)
     clear hxy N12 t1 t2
     go_wp2
     go_quiet (fail)
     go_wp2
     go_ret
     exact ⟨ret_bool (decide_eq_false HX.out).symm, below_drewN HB.out _⟩
   ·have e : l1 = l2 := by
     have := htk; rw [List.take_of_length_le (by omega), List.take_of_length_le (by omega)] at this; exact this
    have HE := hide e
    have HB := hide hBr
    clear e htk hBr
    go_wp2
    go_ret
    exact ⟨ret_bool (decide_eq_true HE.out).symm, HB.out⟩
 ·have hne : ((l1.length : Int) != (l2.length : Int)) = true := by simp; omega
  have HE : Hid (l1 ≠ l2) := fun h => hlen (by rw [h])
  go_enter Tryd.func8, Tryd.ntmps8
  go_wp2
  go_ret
  exact ⟨ret_bool (decide_eq_false HE.out).symm, Below.refl _ _⟩

theorem eqByteS_same (o1 o2 : Option Addr) (c1 c2 : Nat) (l : List Int) (w : World) (h1 : Rd w o1 l) (h2 : Rd w o2 l) (hl : l.length ≤ 1048576) :
  Calls Tryd.prog 8 #[.slice o1 l.length c1, .slice o2 l.length c2] w fun e w' => e = .returned (.bool true) ∧ Below w.heap.size w w' := by
 have := eqByteS_any o1 o2 c1 c2 l l w h1 h2 hl hl
 simpa using this

end Go.Proofs.YtljogkoaaidlcaaDoor

/- The laws' marks: a row is filled with numbers that go up, and held against them. -/
namespace Go.Proofs.YtljogkoaaidlcaaDoor
open Go.ChangeShapes Go.WideShapes Go.ChangeAt Go.RowKit Go.Joins
set_option linter.unusedVariables false
set_option linter.unusedSimpArgs false

def markL (k : Int) (n : Nat) : List Int := (List.range n).map (fun (i : Nat) => (k + (i : Int)) % 256)
theorem markL_length (k : Int) (n : Nat) : (markL k n).length = n := by simp [markL]
theorem markL_get (k : Int) (n i : Nat) (h : i < n) : (markL k n).getD i 0 = (k + (i : Int)) % 256 := by simp [markL, h]
def markTo (l : List Int) (k : Int) (i : Nat) : List Int := markL k i ++ l.drop i
theorem markTo_zero (l : List Int) (k : Int) : markTo l k 0 = l := by simp [markTo, markL]
theorem markTo_all (l : List Int) (k : Int) : markTo l k l.length = markL k l.length := by simp [markTo]
theorem markTo_length (l : List Int) (k : Int) (i : Nat) (h : i ≤ l.length) : (markTo l k i).length = l.length := by simp [markTo, markL]; omega
theorem markTo_set (l : List Int) (k : Int) (i : Nat) (h : i < l.length) : ((markTo l k i).map (Value.int .u8)).set i (.int .u8 ((k + (i : Int)) % 256)) = (markTo l k (i + 1)).map (Value.int .u8) := by
 rw [← List.map_set]
 congr 1
 have e2 : (markL k i).length = i := markL_length k i
 unfold markTo
 rw [List.drop_eq_getElem_cons h, List.set_append_right _ _ (by omega), e2, Nat.sub_self, List.set_cons_zero]
 have e3 : markL k (i + 1) = markL k i ++ [(k + (i : Int)) % 256] := by simp [markL, List.range_succ]
 rw [e3, List.append_assoc]
 rfl

theorem mark_step {w wr : World} {base g cap : Nat} {l : List Int} {k : Int} {i : Nat} (hi : i < l.length) (hown : wr.ownsRow base 5 1 (.slice (some ⟨g, 0, none⟩) l.length cap) l.length ((markTo l k i).map (Value.int .u8)))
  (hg : w.grownBy wr (some g)) : (wr.setCell ⟨g, i, none⟩ (.int .u8 ((k + (i : Int)) % 256))).ownsRow base 5 1 (.slice (some ⟨g, 0, none⟩) l.length cap) l.length ((markTo l k (i + 1)).map (Value.int .u8)) ∧
   w.grownBy (wr.setCell ⟨g, i, none⟩ (.int .u8 ((k + (i : Int)) % 256))) (some g) := by
 have h := hown.stored i (.int .u8 ((k + (i : Int)) % 256))
 rw [markTo_set l k i hi] at h
 exact ⟨h.1, ⟨hg.os, hg.tape, hg.output, by have := h.2.size; have := hg.size; omega, fun j hj hne => (h.2.block j (Nat.lt_of_lt_of_le hj hg.size) hne).trans (hg.block j hj hne)⟩⟩

set_option maxHeartbeats 1000000 in
theorem markByteS_any (base : Nat) (v : Value) (l : List Int) (k : Int) (w : World) (hv : ownB w base v l) (h0 : 0 ≤ k) (h1 : k ≤ 1073741824) (hlen : l.length ≤ 1048576) :
  Calls Tryd.prog 11 #[v, .int .i64 k] w fun e w' => e = .returned (.int .i64 (k + l.length)) ∧ ownB w' base v (markL k l.length) ∧ w.grownBy w' v.ownBlock := by
 rcases hv.2 with ⟨rfl, h2⟩ | ⟨g, cap, cur, rfl, hg, _⟩
 ·have e : l = [] := List.eq_nil_of_length_eq_zero h2
  subst e
  go_enter Tryd.func11, Tryd.ntmps11
  go_wp2
  refine wp_loop_rounds 1 ?_
  rw [rounds_succ]
  go_wp2
  go_ret
  exact ⟨by simp, by simpa [markL] using hv, World.grownBy.refl _ _⟩
 ·go_enter Tryd.func11, Tryd.ntmps11
  go_wp2
  have hv0 : w.ownsRow base 5 1 (.slice (some ⟨g, 0, none⟩) l.length cap) l.length ((markTo l k 0).map (Value.int .u8)) := by rw [markTo_zero]; exact hv
  go_loopw [1, 5] (fun m j wr => ∃ i : Nat, i ≤ l.length ∧ j = .int .i64 i ∧ m = .int .i64 (k + (i : Int)) ∧ wr.ownsRow base 5 1 (.slice (some ⟨g, 0, none⟩) l.length cap) l.length ((markTo l k i).map (Value.int .u8)) ∧ w.grownBy wr (some g))
   (fun _ j _ => l.length - (intOf j).toNat)
  case atStart => exact ⟨0, Nat.zero_le _, rfl, by simp, hv0, World.grownBy.refl _ _⟩
  case round =>
   obtain ⟨i, hi, rfl, rfl, hown, hgr⟩ := hrel
   by_cases hlt : i < l.length
   ·have hcl := hown.cellAt i (by omega)
    have hfr := hown.frozenAt i
    obtain ⟨u, hu⟩ : ∃ u, wr.cell? ⟨g, i, none⟩ = some u := ⟨_, hcl.trans (List.getElem?_eq_getElem (by simp [markTo_length l k i hi]; omega))⟩
    have R := hide (mark_step hlt hown hgr)
    clear hcl hown hgr hv hv0
    go_wp2
    go_roundw
    case rel => exact ⟨i + 1, by omega, by go_num, by go_num, R.out.1, R.out.2⟩
    case measure => simp [intOf]; omega
   ·have e : i = l.length := by omega
    subst e
    rw [markTo_all] at hown
    have HO := hide hown
    clear hown
    go_wp2
    go_ret
    exact ⟨rfl, by unfold ownB; rw [markL_length]; exact HO.out, hgr⟩

set_option maxHeartbeats 1000000 in
theorem heldByteS_any (o : Option Addr) (cap n : Nat) (k : Int) (w : World) (hR : Rd w o (markL k n)) (h0 : 0 ≤ k) (h1 : k ≤ 1073741824) (hlen : n ≤ 1048576) :
  Calls Tryd.prog 12 #[.slice o n cap, .int .i64 k] w fun e w' => e = .returned (.int .i64 (k + n)) ∧ w = w' := by
 go_enter Tryd.func12, Tryd.ntmps12
 go_wp2
 go_loop [1, 5] (fun m j => ∃ i : Nat, i ≤ n ∧ j = .int .i64 i ∧ m = .int .i64 (k + (i : Int)))
  (fun _ j => n - (intOf j).toNat)
 case atStart => exact ⟨0, Nat.zero_le _, rfl, by simp⟩
 case round =>
  obtain ⟨i, hi, rfl, rfl⟩ := hrel
  by_cases hlt : i < n
  ·rcases hR with hR | ⟨b, off, rfl, hbl, hcell⟩
   ·have := markL_length k n; rw [hR] at this; simp at this; omega
   have hc := hcell i (by rw [markL_length]; exact hlt)
   rw [markL_get k n i hlt] at hc
   clear hcell
   go_wp2
   go_round
   case rel => exact ⟨i + 1, by omega, by go_num, by go_num⟩
   case measure => simp [intOf]; omega
  ·have e : i = n := by omega
   subst e
   go_wp2
   go_ret
   exact ⟨rfl, rfl⟩

end Go.Proofs.YtljogkoaaidlcaaDoor

