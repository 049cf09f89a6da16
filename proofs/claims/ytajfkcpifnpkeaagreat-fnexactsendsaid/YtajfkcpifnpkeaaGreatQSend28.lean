/- Several texts in one: SPdo, SCan, SSeg, LSeg. -/
import Derived.Deep.RegionHeld3
import Derived.Deep.CutRange
import Derived.BigQuiet
import Derived.Test.YtajfkcpifnpkeaaGreatQSend27
import Derived.Test.YtajfkcpifnpkeaaGreatQSend06
import Derived.Test.YtajfkcpifnpkeaaGreatQSend01
/- PoolDo, on both sides. -/
namespace Go.Proofs.YtajfkcpifnpkeaaGreat
open Go.ChangeShapes Go.WideShapes Go.ChangeAt Go.RowKit Go.Joins
set_option linter.unusedVariables false
set_option linter.unusedSimpArgs false

theorem pool_facts {m : Pm} (h : poolB m = true) : keyB m.key = true ∧ backsOkB m.l = true ∧ 1 ≤ m.ring.length ∧ m.ring.length ≤ 3 ∧ ∀ i, i < m.ring.length → tabOkB (m.ring.getD i []) = true := by
 unfold poolB at h
 simp only [Bool.and_eq_true, decide_eq_true_eq, List.all_eq_true, List.mem_range] at h
 obtain ⟨⟨⟨⟨⟨h1, h2⟩, h3⟩, h4⟩, h5⟩, h6⟩ := h
 exact ⟨h1, h2, h3, h4, h5⟩
theorem pair_len {l : List Int} (h : pairOkB l = true) : l.length ≤ 2 := by
 unfold pairOkB at h
 simp only [Bool.or_eq_true, Bool.and_eq_true, decide_eq_true_eq] at h
 omega
end Go.Proofs.YtajfkcpifnpkeaaGreat

/- The candidates of a bucket; the model's side. -/
namespace Go.Proofs.YtajfkcpifnpkeaaGreat
open Go.ChangeShapes Go.WideShapes Go.ChangeAt Go.RowKit Go.Joins
set_option linter.unusedVariables false
set_option linter.unusedSimpArgs false


def addTo (out : List Int) (x : Int) : List Int := if out.contains x = true then out else out ++ [x]
def addAll (out l : List Int) : List Int := l.foldl addTo out
/-- Those of the tables' lists of bucket b, each once. -/
def candL (R : List (List (List Int))) (b : Nat) : List Int := R.foldl (fun out t => addAll out (t.getD b [])) []
def candM (m : Pm) (b : Int) : List Int := if (poolB m && decide (0 ≤ b) && decide (b < 8)) = true then candL m.ring b.toNat else []
theorem addAll_take (out l : List Int) (k : Nat) (h : k < l.length) : addAll out (l.take (k + 1)) = addTo (addAll out (l.take k)) (l.getD k 0) := by
 unfold addAll
 rw [List.take_succ_eq_append_getElem h, List.foldl_append, List.getD_eq_getElem?_getD, List.getElem?_eq_getElem h]
 rfl
theorem candL_take (R : List (List (List Int))) (b i : Nat) (h : i < R.length) : candL (R.take (i + 1)) b = addAll (candL (R.take i) b) ((R.getD i []).getD b []) := by
 unfold candL
 rw [List.take_succ_eq_append_getElem h, List.foldl_append, List.getD_eq_getElem?_getD (l := R), List.getElem?_eq_getElem h]
 rfl
theorem has_yes {l : List Int} {k : Nat} {x : Int} (h : k < l.length) (e : l.getD k 0 = x) : l.contains x = true := by
 rw [List.contains_iff_mem, ← e, List.getD_eq_getElem?_getD, List.getElem?_eq_getElem h]
 exact List.getElem_mem h
theorem has_no {l : List Int} {x : Int} (h : ∀ j, j < l.length → l.getD j 0 ≠ x) : l.contains x = false := by
 rw [Bool.eq_false_iff]
 intro hc
 rw [List.contains_iff_mem] at hc
 obtain ⟨j, hj, e⟩ := List.getElem_of_mem hc
 exact h j hj (by rw [List.getD_eq_getElem?_getD, List.getElem?_eq_getElem hj]; exact e)
theorem addTo_yes {out : List Int} {x : Int} (h : out.contains x = true) : addTo out x = out := by unfold addTo; rw [if_pos h]
theorem addTo_no {out : List Int} {x : Int} (h : out.contains x = false) : addTo out x = out ++ [x] := by unfold addTo; rw [if_neg (by rw [h]; decide)]
theorem no_more {l : List Int} {x : Int} {k : Nat} (h : ∀ j, j < k → l.getD j 0 ≠ x) (h2 : l.getD k 0 ≠ x) : ∀ j, j < k + 1 → l.getD j 0 ≠ x := fun j hj => by
 by_cases e : j = k
 ·subst e; exact h2
 ·exact h j (by omega)
theorem rd_oneI {w : World} {x : Int} {T : TypeId} : RdL layI (w.alloc (.cells #[.int .i64 x] T)).heap.size (w.alloc (.cells #[.int .i64 x] T)) (some ⟨w.heap.size, 0, none⟩) [x] :=
 .inr ⟨w.heap.size, 0, rfl, by simp, fun i hi j hj => by
  have e1 : i = 0 := by simpa using hi
  subst e1
  match j, hj with
  | 0, _ => simp [layI]⟩

set_option maxRecDepth 100000 in
theorem l4has_any (o : Option Addr) (c : Nat) (l : List Int) (x : Int) (w : World) (hR : RdI w.heap.size w o l) (hl : l.length ≤ 1048576) :
  Calls Tryz.prog 182 #[.slice o l.length c, .int .i64 x] w fun e w' => e = .returned (.bool (l.contains x)) ∧ w' = w := by
 go_enter Tryz.func182, Tryz.ntmps182
 go_wp2
 go_loopw [5] (fun i wr => ∃ k : Nat, k ≤ l.length ∧ i = .int .i64 k ∧ wr = w ∧ Hid (∀ j, j < k → l.getD j 0 ≠ x))
  (fun i _ => l.length - (intOf i).toNat)
 case atStart => exact ⟨0, Nat.zero_le _, rfl, rfl, fun j h => absurd h (Nat.not_lt_zero _)⟩
 case round =>
  obtain ⟨k, hk, rfl, rfl, HN⟩ := hrel
  by_cases hlt : k < l.length
  ·rcases hR with hR | ⟨b, off, rfl, hb, hcell⟩
   ·subst hR; simp at hlt
   have hc := RdL.int hcell k hlt
   clear hcell
   have i1 : (k : Int) < (l.length : Int) := by omega
   by_cases hx : l.getD k 0 = x
   ·have HX := hide (has_yes hlt hx)
    rw [hx] at hc
    clear hx HN
    go_wp2
    go_ret
    exact ⟨by rw [HX.out]; rfl, rfl⟩
   ·have HX := hide (no_more HN.out hx)
    obtain ⟨y, hy⟩ : ∃ y, l.getD k 0 = y := ⟨_, rfl⟩
    rw [hy] at hc hx
    clear hy HN
    go_wp2
    go_roundw
    case rel => exact ⟨k + 1, by omega, by go_num, by trivial, HX.out⟩
    case measure => simp [intOf]; omega
  ·have e : k = l.length := by omega
   subst e
   have HX := hide (has_no HN.out)
   clear HN
   go_wp2
   go_ret
   exact ⟨by rw [HX.out]; rfl, rfl⟩

set_option maxRecDepth 100000 in
theorem index_any (o : Option Addr) (c : Nat) (l : List Int) (x : Int) (w : World) (hR : RdI w.heap.size w o l) (hl : l.length ≤ 1048576) :
  Calls Tryz.prog 218 #[.slice o l.length c, .int .i64 x] w fun e w' => ∃ r : Int, e = .returned (.int .i64 r) ∧ decide (0 ≤ r) = l.contains x ∧ w' = w := by
 go_enter Tryz.func218, Tryz.ntmps218
 go_wp2
 go_loopw [8] (fun i wr => ∃ k : Nat, k ≤ l.length ∧ i = .int .i64 k ∧ wr = w ∧ Hid (∀ j, j < k → l.getD j 0 ≠ x))
  (fun i _ => l.length - (intOf i).toNat)
 case atStart => exact ⟨0, Nat.zero_le _, rfl, rfl, fun j h => absurd h (Nat.not_lt_zero _)⟩
 case round =>
  obtain ⟨k, hk, rfl, rfl, HN⟩ := hrel
  by_cases hlt : k < l.length
  ·rcases hR with hR | ⟨b, off, rfl, hb, hcell⟩
   ·subst hR; simp at hlt
   have hc := RdL.int hcell k hlt
   clear hcell
   have i1 : (k : Int) < (l.length : Int) := by omega
   by_cases hx : l.getD k 0 = x
   ·have HX := hide (has_yes hlt hx)
    rw [hx] at hc
    clear hx HN
    go_wp2
    go_ret
    exact ⟨(k : Int), rfl, by rw [HX.out]; simp, rfl⟩
   ·have HX := hide (no_more HN.out hx)
    obtain ⟨y, hy⟩ : ∃ y, l.getD k 0 = y := ⟨_, rfl⟩
    rw [hy] at hc hx
    have hx' : ¬ x = y := fun e => hx e.symm
    clear hy HN
    go_wp2
    go_roundw
    case rel => exact ⟨k + 1, by omega, by go_num, by trivial, HX.out⟩
    case measure => simp [intOf]; omega
  ·have e : k = l.length := by omega
   subst e
   have HX := hide (has_no HN.out)
   clear HN
   go_wp2
   go_ret
   exact ⟨-1, rfl, by rw [HX.out]; rfl, rfl⟩

set_option maxRecDepth 100000 in
theorem contains_any (o : Option Addr) (c : Nat) (l : List Int) (x : Int) (w : World) (hR : RdI w.heap.size w o l) (hl : l.length ≤ 1048576) :
  Calls Tryz.prog 189 #[.slice o l.length c, .int .i64 x] w fun e w' => e = .returned (.bool (l.contains x)) ∧ w' = w := by
 have HC := hide (index_any o c l x w hR hl)
 clear hR
 go_enter Tryz.func189, Tryz.ntmps189
 go_wp2_with fail
 refine HC.out.mono ?_
 rintro e w1 ⟨r, rfl, hr, rfl⟩
 have HR := hide hr
 clear hr HC
 go_wp2
 go_ret
 exact ⟨by rw [← HR.out]; rfl, rfl⟩

set_option maxRecDepth 100000 in
set_option maxHeartbeats 8000000 in
theorem l4candidates_go (key : Int) (o : Option Addr) (nb cap : Nat) (oR : Option Addr) (cR : Nat) (lll : List (List (List Int))) (n : Nat) (hnn : n = lll.length) (b : Nat) (hb8 : b < 8) (w : World) (hG : RiR 0 w.heap.size w (.slice oR n cR) lll) (hn3 : n ≤ 3) (h8 : ∀ i, i < lll.length → (lll.getD i []).length = 8) (h2 : ∀ i, i < lll.length → ((lll.getD i []).getD b []).length ≤ 2) :
  Calls Tryz.prog 134 #[plv key (.slice o nb cap) (.slice oR n cR), .int .i64 (b : Int)] w fun e w' => ∃ v, e = .returned v ∧ ownI w' w.heap.size v (candL lll b) ∧ Below w.heap.size w w' := by
 have HNN := hide hnn
 have HG := hide hG
 have H8 := hide h8
 have H2 := hide h2
 clear hnn hG h8 h2
 have hb8' : (b : Int) < 8 := by omega
 obtain ⟨W0, hW0⟩ : ∃ W, (w.alloc (.cells #[.int .i64 key, .slice o nb cap, .slice oR n cR] 41)) = W := ⟨_, rfl⟩
 have hb_W0 : Below w.heap.size w W0 := by rw [← hW0]; exact (Below.refl _ _).alloc (Nat.le_refl _) _
 have HB := hide hb_W0
 clear hb_W0
 have zz : w.heap.size < W0.heap.size := by rw [← hW0]; simp
 have z2 : W0.cell? ⟨w.heap.size, 2, none⟩ = some (.slice oR n cR) := by rw [← hW0]; simp [go_sem]
 go_enter Tryz.func134, Tryz.ntmps134
 go_wp2
 go_loopw [5, 6] (fun ov iv wr => ∃ i : Nat, i ≤ n ∧ iv = .int .i64 (i : Int) ∧ Hid (ownI wr W0.heap.size ov (candL (lll.take i) b)) ∧ (candL (lll.take i) b).length ≤ 2 * i ∧ Hid (Below W0.heap.size W0 wr))
  (fun _ iv _ => n - (intOf iv).toNat)
 case atStart => exact ⟨0, Nat.zero_le _, rfl, World.ownsRow_nil _ _ _ _, by simp [candL], Below.refl _ _⟩
 case round =>
  rename World => wr
  rename_i ov _
  obtain ⟨i, hi', rfl, HO, hL, HBr⟩ := hrel
  have z2' := bC HBr.out z2 zz
  have HBW := hide (HB.out.trans (HBr.out.mono HB.out.size))
  by_cases hlt : i < n
  ·have hlt' : (i : Int) < (n : Int) := by omega
   have hif : i < lll.length := by rw [← HNN.out]; exact hlt
   obtain ⟨b1, off, u, rfl, hbl, hcu, hru⟩ := RiRows.at HG.out (Nat.le_refl _) i hif
   obtain ⟨o3, c3, rfl, _⟩ := RiT.rd hru
   obtain ⟨b2, off2, u2, e2, hbl2, hcu2, hrow⟩ := RiRows.at hru (Nat.le_refl _) b (by rw [H8.out i hif]; exact hb8)
   subst e2
   obtain ⟨o9, c9, rfl, hr9⟩ := RiV.open hrow
   rw [H8.out i hif] at hcu
   have hc1 := bC HBW.out hcu hbl
   have hc2 := bC HBW.out hcu2 hbl2
   have HR9 := hide hr9
   have hy9 := H2.out i hif
   have HTK := hide (candL_take lll b i hif)
   clear hcu hcu2 hrow hr9 hru
   obtain ⟨row, hrw⟩ : ∃ row, (lll.getD i []).getD b [] = row := ⟨_, rfl⟩
   rw [hrw] at hc2 HR9 hy9 HTK
   clear hrw
   obtain ⟨bas, hbs⟩ : ∃ q, candL (lll.take i) b = q := ⟨_, rfl⟩
   rw [hbs] at HO hL HTK
   clear hbs
   obtain ⟨m, hm⟩ : ∃ r, row.length = r := ⟨_, rfl⟩
   rw [hm] at hc2 hy9
   have HM := hide hm
   clear hm
   go_wp2
   go_loopw [5, 8] (fun ov kv wq => ∃ k : Nat, k ≤ m ∧ kv = .int .i64 (k : Int) ∧ Hid (ownI wq W0.heap.size ov (addAll bas (row.take k))) ∧ (addAll bas (row.take k)).length ≤ 2 * i + k ∧ Hid (Below W0.heap.size W0 wq))
    (fun _ kv _ => m - (intOf kv).toNat)
   case atStart => exact ⟨0, Nat.zero_le _, rfl, HO.out, by simpa [addAll] using hL, HBr.out⟩
   case round =>
    rename World => wq
    rename_i ov2 _
    obtain ⟨k, hk', rfl, HO2, hL2, HBq⟩ := hrel
    clear HO HBr z2' HBW hc1 hc2
    have HBW := hide (HB.out.trans (HBq.out.mono HB.out.size))
    by_cases hlk : k < m
    ·have hlk' : (k : Int) < (m : Int) := by omega
     have hkr : k < row.length := by rw [HM.out]; exact hlk
     rcases HR9.out with hh | ⟨b3, off3, rfl, hb3, hcell⟩
     ·rw [hh] at hkr; exact absurd hkr (Nat.not_lt_zero _)
     have hc3 := bC HBW.out (RdL.int hcell k hkr) hb3
     have HTK2 := hide (addAll_take bas row k hkr)
     clear hcell
     obtain ⟨y, hy⟩ : ∃ y, row.getD k 0 = y := ⟨_, rfl⟩
     rw [hy] at hc3 HTK2
     clear hy
     obtain ⟨cur, hcu⟩ : ∃ q, addAll bas (row.take k) = q := ⟨_, rfl⟩
     rw [hcu] at HO2 hL2 HTK2
     clear hcu
     obtain ⟨oo, co, e5, hrd⟩ := ownL.open (L := layI) HO2.out
     subst e5
     have HH := hide (l4has_any oo co cur y wq hrd (by omega))
     clear hrd
     go_wp2_with fail
     refine HH.out.mono ?_
     rintro e w4 ⟨rfl, rfl⟩
     clear HH
     cases hh : cur.contains y with
     | true =>
      have HY := hide (addTo_yes hh)
      go_wp2
      go_roundw
      case rel => exact ⟨k + 1, by omega, by go_num, by rw [HTK2.out, HY.out]; exact HO2.out, by rw [HTK2.out, HY.out]; omega, HBq.out⟩
      case measure => simp [intOf]; omega
     | false =>
      have HY := hide (addTo_no hh)
      have hsq := HBq.out.size
      have HA := hide (World.ownsRow.alloc HO2.out (.cells #[.int .i64 y] 3))
      have hc4 : (w4.alloc (.cells #[.int .i64 y] 3)).cell? ⟨b3, off3 + k, none⟩ = some (.int .i64 y) := bC ((Below.refl _ _).alloc (Nat.le_refl _) _) hc3 (by omega)
      go_wp2_with (first | (at_builtin; refine wpList_append_lay appII rfl (.tmp 37) (.tmp 42) rfl W0.heap.size _ cur rfl HA.out (some ⟨w4.heap.size, 0, none⟩) 1 _ [y] 1 rfl rfl (by simp) rd_oneI (by simp; omega) (by simp; omega) ?_))
      intro v5 w5 ho5 hg5 _
      have HB5 := hide ((HBq.out.alloc HBq.out.size _).grown hg5 (by simp; omega) (fun k h => (HA.out.lt k h).1))
      have HO5 := hide ho5
      clear hg5 ho5
      go_wp2
      go_roundw
      case rel => exact ⟨k + 1, by omega, by go_num, by rw [HTK2.out, HY.out]; exact HO5.out, by rw [HTK2.out, HY.out, List.length_append]; simp; omega, HB5.out⟩
      case measure => simp [intOf]; omega
    ·have e : k = m := by omega
     subst e
     rw [← HM.out, List.take_length, ← HTK.out] at HO2 hL2
     go_wp2
     go_roundw
     case rel => exact ⟨i + 1, by omega, by go_num, HO2.out, by rw [HM.out] at hL2; omega, HBq.out⟩
     case measure => simp [intOf]; omega
  ·have e : i = n := by omega
   subst e
   rw [HNN.out, List.take_length] at HO
   go_wp2
   go_ret
   exact ⟨_, rfl, own_mono HO.out HB.out.size, HBW.out⟩
theorem pair_row {ll : List (List Int)} (h : tabOkB ll = true) : ll.length = 8 ∧ ∀ b, b < 8 → pairOkB (ll.getD b []) = true := by
 unfold tabOkB at h
 simp only [Bool.and_eq_true, decide_eq_true_eq, List.all_eq_true, List.mem_range] at h
 exact ⟨h.1, h.2⟩

end Go.Proofs.YtajfkcpifnpkeaaGreat

/- Contracts of SegOk, on both sides. -/
namespace Go.Proofs.YtajfkcpifnpkeaaGreat
open Go.ChangeShapes Go.WideShapes Go.ChangeAt Go.RowKit Go.Joins
set_option linter.unusedVariables false
set_option linter.unusedSimpArgs false

/-- Back is one of six, Fn one of two. -/
def segOkB (b f : Int) : Bool := decide (0 ≤ b) && decide (b < 6) && decide (0 ≤ f) && decide (f ≤ 1)
abbrev seg (b f : Int) : Value := .agg #[.int .i64 b, .int .i64 f]

end Go.Proofs.YtajfkcpifnpkeaaGreat

/- Contracts of the laws' own helpers over segs: one that came in, its copy, its comparison. -/
namespace Go.Proofs.YtajfkcpifnpkeaaGreat
open Go.ChangeShapes Go.WideShapes Go.ChangeAt Go.RowKit Go.Joins
set_option linter.unusedVariables false
set_option linter.unusedSimpArgs false

set_option maxHeartbeats 400000 in
theorem eqSeg_any (a b c d : Int) (w : World) :
  Calls Tryz.prog 76 #[seg a b, seg c d] w fun e w' => e = .returned (.bool (decide (a = c ∧ b = d))) ∧ Below w.heap.size w w' := by
 have hB : Below w.heap.size w w := Below.refl _ _
 go_enter Tryz.func76, Tryz.ntmps76
 go_wp2
 all_goals go_ret
 all_goals refine ⟨?_, by (repeat (first | with_reducible exact hB | with_reducible exact Below.refl _ _ | with_reducible refine Below.drew ?_ | with_reducible refine below_drewN ?_ _ | with_reducible refine Below.alloc ?_ ?_ _ | with_reducible refine Below.setCell ?_ ?_ _ | (focus (simp; done)) | (focus (simp; omega)) | omega))⟩
 all_goals (simp_all)

theorem eqSeg_same (a b : Int) (w : World) :
  Calls Tryz.prog 76 #[seg a b, seg a b] w fun e w' => e = .returned (.bool true) ∧ Below w.heap.size w w' := by
 have := eqSeg_any a b a b w
 simpa using this

end Go.Proofs.YtajfkcpifnpkeaaGreat

