/- Several texts in one: SPt, SPt2, SPt3, RowsP, LRing. -/
import Derived.Deep.MidRow
import Derived.Deep.WholeRow
import Derived.Test.YtmmhgkkcpjhiiaaDoorQPoolText21
import Derived.Test.YtmmhgkkcpjhiiaaDoorQPoolText19
import Derived.Test.YtmmhgkkcpjhiiaaDoorQPoolText17
/- A table of pairs as a value (the program's pairTable): idPairFrom, list. -/
namespace Go.Proofs.YtmmhgkkcpjhiiaaDoor
open Go.ChangeShapes Go.WideShapes Go.ChangeAt Go.RowKit Go.Joins
set_option linter.unusedVariables false
set_option linter.unusedSimpArgs false

/-- A list of a table as a value: whether there is one, and the two. -/
abbrev Ip := Bool × Int × Int
def layP : Lay Ip := ⟨3, fun a => [.bool a.1, .int .i64 a.2.1, .int .i64 a.2.2], (false, 0, 0), fun _ => rfl⟩
abbrev ipv (a : Ip) : Value := .agg #[.bool a.1, .int .i64 a.2.1, .int .i64 a.2.2]
def ipOf (l : List Int) : Ip := if l.length = 0 then (false, 0, 0) else (true, l.getD 0 0, l.getD 1 0)
def ipList (a : Ip) : List Int := if a.1 = true then [a.2.1, a.2.2] else []
def idB (x : Int) : Bool := decide (0 ≤ x) && decide (x < 6)
/-- A list that may stand in a table. -/
def pairOkB (l : List Int) : Bool := decide (l.length = 0) || (decide (l.length = 2) && idB (l.getD 0 0) && idB (l.getD 1 0))
theorem ipList_of {l : List Int} (h : pairOkB l = true) : ipList (ipOf l) = l := by
 unfold pairOkB at h
 simp only [Bool.or_eq_true, Bool.and_eq_true, decide_eq_true_eq] at h
 rcases h with h | ⟨⟨h, _⟩, _⟩
 ·have e : l = [] := List.eq_nil_of_length_eq_zero h
  subst e; rfl
 ·match l, h with
  | [a, b], _ => rfl
theorem isBackP_any (x : Int) (w : World) : Calls Tryd.prog 72 #[.int .i64 x] w fun e w' => e = .returned (.bool (idB x)) ∧ w = w' := isBack_any x w

set_option maxRecDepth 100000 in
set_option maxHeartbeats 4000000 in
theorem idPairFrom_any (o : Option Addr) (cap : Nat) (l : List Int) (w : World) (hR : RdI w.heap.size w o l) (hlen : l.length ≤ 1048576) :
  Calls Tryd.prog 113 #[.slice o l.length cap] w fun e w' => e = .returned (.tuple #[ipv (if pairOkB l = true then ipOf l else (false, 0, 0)), .bool (pairOkB l)]) ∧ Below w.heap.size w w' := by
 by_cases h0 : l.length = 0
 ·have e : l = [] := List.eq_nil_of_length_eq_zero h0
  subst e
  rw [show pairOkB [] = true from rfl, show ipOf [] = (false, 0, 0) from rfl]
  simp only [if_true]
  go_enter Tryd.func113, Tryd.ntmps113
  go_wp2
  refine bodyPost_ret (v := .tuple #[ipv (false, 0, 0), .bool true]) (by simp [results, Tryd.results113, go_sem]) rfl ⟨rfl, by (repeat (first | with_reducible exact hB | with_reducible exact Below.refl _ _ | with_reducible refine Below.drew ?_ | with_reducible refine below_drewN ?_ _ | with_reducible refine Below.alloc ?_ ?_ _ | with_reducible refine Below.setCell ?_ ?_ _ | (focus (simp; done)) | (focus (simp; omega)) | omega))⟩
 ·by_cases h2 : l.length = 2
  ·match l, h2 with
   | [x, y], _ =>
    rcases hR with hR | ⟨b, off, rfl, hbl, hcell⟩
    ·cases hR
    have c0 : w.cell? ⟨b, off, none⟩ = some (.int .i64 x) := hcell 0 (by simp) 0 (by decide)
    have c1 : w.cell? ⟨b, off + 1, none⟩ = some (.int .i64 y) := hcell 1 (by simp) 0 (by decide)
    have hx := fun w => isBackP_any x w
    have hy := fun w => isBackP_any y w
    have hE : pairOkB [x, y] = (idB x && idB y) := by simp [pairOkB]
    rw [hE, show ipOf [x, y] = (true, x, y) from rfl]
    clear hcell hE
    cases h3 : idB x with
    | false =>
     rw [h3] at hx; try simp only [Bool.false_and, Bool.true_and, Bool.false_eq_true, if_false]
     go_enter Tryd.func113, Tryd.ntmps113
     go_wp2_with (first | (go_at_call 72; refine (hx _).mono ?_; rintro e w1 ⟨rfl, rfl⟩))
     refine bodyPost_ret (v := .tuple #[ipv (false, 0, 0), .bool false]) (by simp [results, Tryd.results113, go_sem]) rfl ⟨rfl, by (repeat (first | with_reducible exact hB | with_reducible exact Below.refl _ _ | with_reducible refine Below.drew ?_ | with_reducible refine below_drewN ?_ _ | with_reducible refine Below.alloc ?_ ?_ _ | with_reducible refine Below.setCell ?_ ?_ _ | (focus (simp; done)) | (focus (simp; omega)) | omega))⟩
    | true =>
     rw [h3] at hx; try simp only [Bool.false_and, Bool.true_and, Bool.false_eq_true, if_false]
     cases h4 : idB y with
     | false =>
      rw [h4] at hy; simp only [Bool.false_eq_true, if_false, if_true]
      go_enter Tryd.func113, Tryd.ntmps113
      go_wp2_with (first | (go_at_call 72; first | (refine (hx _).mono ?_; rintro e w1 ⟨rfl, rfl⟩) | (refine (hy _).mono ?_; rintro e w1 ⟨rfl, rfl⟩)))
      refine bodyPost_ret (v := .tuple #[ipv (false, 0, 0), .bool false]) (by simp [results, Tryd.results113, go_sem]) rfl ⟨rfl, by (repeat (first | with_reducible exact hB | with_reducible exact Below.refl _ _ | with_reducible refine Below.drew ?_ | with_reducible refine below_drewN ?_ _ | with_reducible refine Below.alloc ?_ ?_ _ | with_reducible refine Below.setCell ?_ ?_ _ | (focus (simp; done)) | (focus (simp; omega)) | omega))⟩
     | true =>
      rw [h4] at hy; simp only [Bool.false_eq_true, if_false, if_true]
      go_enter Tryd.func113, Tryd.ntmps113
      go_wp2_with (first | (go_at_call 72; first | (refine (hx _).mono ?_; rintro e w1 ⟨rfl, rfl⟩) | (refine (hy _).mono ?_; rintro e w1 ⟨rfl, rfl⟩)))
      go_region
      all_goals (go_wp2; refine bodyPost_ret (v := .tuple #[ipv (true, x, y), .bool true]) (by simp [results, Tryd.results113, go_sem]) rfl ⟨rfl, by (repeat (first | with_reducible exact hB | with_reducible exact Below.refl _ _ | with_reducible refine Below.drew ?_ | with_reducible refine below_drewN ?_ _ | with_reducible refine Below.alloc ?_ ?_ _ | with_reducible refine Below.setCell ?_ ?_ _ | (focus (simp; done)) | (focus (simp; omega)) | omega))⟩)
  ·rw [show pairOkB l = false by simp [pairOkB, h0, h2]]
   simp only [Bool.false_eq_true, if_false]
   have h2' : ((l.length : Int) == 2) = false := beq_eq_false_iff_ne.2 (by omega)
   go_enter Tryd.func113, Tryd.ntmps113
   go_wp2
   refine bodyPost_ret (v := .tuple #[ipv (false, 0, 0), .bool false]) (by simp [results, Tryd.results113, go_sem]) rfl ⟨rfl, by (repeat (first | with_reducible exact hB | with_reducible exact Below.refl _ _ | with_reducible refine Below.drew ?_ | with_reducible refine below_drewN ?_ _ | with_reducible refine Below.alloc ?_ ?_ _ | with_reducible refine Below.setCell ?_ ?_ _ | (focus (simp; done)) | (focus (simp; omega)) | omega))⟩

end Go.Proofs.YtmmhgkkcpjhiiaaDoor

/- A table of pairs as a value (the program's pairTable): pairTableFrom, lists. -/
namespace Go.Proofs.YtmmhgkkcpjhiiaaDoor
open Go.ChangeShapes Go.WideShapes Go.ChangeAt Go.RowKit Go.Joins
set_option linter.unusedVariables false
set_option linter.unusedSimpArgs false

/-- A table as a value: what each bucket has. -/
abbrev Pt := Nat → Ip
def ptL (f : Pt) : List Value := ((List.range 8).map f).flatMap layP.cs
def ptA (f : Pt) : Array Value := (ptL f).toArray
abbrev ptv (f : Pt) : Value := .agg (ptA f)
def ptZ : Pt := fun _ => (false, 0, 0)
def upd (f : Pt) (k : Nat) (p : Ip) : Pt := fun i => if i = k then p else f i
theorem below_row {B g : Nat} {w0 w : World} (hb : Below B w0 w) (hBg : B ≤ g) (cs : Array Value) : Below B w0 (w.setRow g cs) := ⟨hb.os, hb.tape, hb.output, by simpa using hb.size, fun k hk => (setRow_other w g k cs (by omega)).trans (hb.block k hk)⟩
theorem ptL_len (f : Pt) : (ptL f).length = 24 := rfl
theorem ptA_size (f : Pt) : (ptA f).size = 24 := rfl
theorem map_upd (f : Pt) (k : Nat) (p : Ip) : ((List.range 8).map f).set k p = (List.range 8).map (upd f k p) := by
 apply List.ext_getElem
 ·simp
 ·intro i h1 h2
  simp at h1 h2
  by_cases h : k = i
  ·subst h; simp [upd]
  ·have h' : ¬ i = k := fun e => h e.symm
   simp [upd, h, h', List.getElem_set]
theorem ptL_upd (f : Pt) (k : Nat) (p : Ip) : (((ptL f).set (k * 3) (.bool p.1)).set (k * 3 + 1) (.int .i64 p.2.1)).set (k * 3 + 2) (.int .i64 p.2.2) = ptL (upd f k p) := by
 unfold ptL
 rw [← map_upd]
 exact flat_set3 layP rfl rfl _ k
theorem ptA_upd (f : Pt) (k : Nat) (p : Ip) : (((ptA f).setIfInBounds (k * 3) (.bool p.1)).setIfInBounds (k * 3 + 1) (.int .i64 p.2.1)).setIfInBounds (k * 3 + 2) (.int .i64 p.2.2) = ptA (upd f k p) := by
 unfold ptA
 rw [← ptL_upd]
 simp
theorem ptA_get (f : Pt) (j : Nat) (h : j < 24) : ∃ u, (ptA f)[j]? = some u := ⟨_, Array.getElem?_eq_getElem (by rw [ptA_size]; exact h)⟩
theorem ptA_part (f : Pt) (k : Nat) (h : k < 8) : (ptA f).extract (k * 3) (k * 3 + 3) = #[.bool (f k).1, .int .i64 (f k).2.1, .int .i64 (f k).2.2] := by
 match k, h with
 | 0, _ => rfl
 | 1, _ => rfl
 | 2, _ => rfl
 | 3, _ => rfl
 | 4, _ => rfl
 | 5, _ => rfl
 | 6, _ => rfl
 | 7, _ => rfl
 | n + 8, h => exact absurd h (by omega)
theorem ptA_one (f : Pt) : (ptA f).all (·.oneCell') = true := all_oneCell_toArray (fun v hv => by
 unfold ptL at hv
 simp only [List.mem_flatMap, layP, List.mem_cons, List.not_mem_nil, or_false] at hv
 obtain ⟨a, _, rfl | rfl | rfl⟩ := hv <;> rfl)
theorem ptU : Tryd.prog.underlying 148 = some (.array 8 146) := by kernel_rfl
theorem ptI : (Tryd.prog.info? 148).map (·.size) = some 24 := by kernel_rfl
theorem ptIf (f : Pt) : (Tryd.prog.info? 148).map (·.size) = some (ptA f).size := ptI
theorem ipI : (Tryd.prog.info? 146).map (·.size) = some 3 := by kernel_rfl
theorem ipAgg (w : World) : (isAgg 146).run Tryd.prog w = .ok true w := by
 simp [go_sem]
theorem ipSize (w : World) : (sizeOf 146).run Tryd.prog w = .ok 3 w := by
 have h := ipI
 cases hq : Tryd.prog.info? 146 with
 | none => simp [hq] at h
 | some i =>
  simp [hq] at h
  simp [sizeOf, typeInfo, hq, h]
theorem wpList_load_pt {ops : Array Oper} {rest : List Oper} {o : Oper} {a : Act} {w : World} {Q : Exit → Act → World → Prop} (hgd : o.guard = none) (x : Operand) (ho : o.op = .load 148 x)
  (g : Nat) (hx : a.eval x = .pointer (some ⟨g, 0, none⟩)) (f : Pt) (hg : w.heap[g]? = some (.cells (ptA f) 148 (0, 0)))
  (h : wpList Tryd.prog ops Q rest (a.put o.dst (ptv f)) w) : wpList Tryd.prog ops Q (o :: rest) a w :=
 wpList_load_row hgd _ x ho g hx _ _ _ _ hg ptU rfl (ptIf f) h
theorem wpList_store_pt {ops : Array Oper} {rest : List Oper} {o : Oper} {a : Act} {w : World} {Q : Exit → Act → World → Prop} (hgd : o.guard = none) (x y : Operand) (ho : o.op = .store 148 x y)
  (g : Nat) (f old : Pt) (hx : a.eval x = .pointer (some ⟨g, 0, none⟩)) (hy : a.eval y = ptv f) (hg : w.heap[g]? = some (.cells (ptA old) 148 (0, 0)))
  (h : wpList Tryd.prog ops Q rest (a.put o.dst undef) (w.setRow g (ptA f))) : wpList Tryd.prog ops Q (o :: rest) a w :=
 wpList_store_row hgd _ x y ho g (ptA f) hx hy _ _ hg (ptIf f) rfl (ptA_one f) h
end Go.Proofs.YtmmhgkkcpjhiiaaDoor

/- A table of pairs as a value (the program's pairTable): pairTableFrom, lists, newestTable. -/
namespace Go.Proofs.YtmmhgkkcpjhiiaaDoor
open Go.ChangeShapes Go.WideShapes Go.ChangeAt Go.RowKit Go.Joins
set_option linter.unusedVariables false
set_option linter.unusedSimpArgs false

/-- Lists that are a table. -/
def tabOkB (ll : List (List Int)) : Bool := decide (ll.length = 8) && (List.range 8).all (fun i => pairOkB (ll.getD i []))
def tabF (ll : List (List Int)) : Pt := fun i => ipOf (ll.getD i [])
def ptTo (ll : List (List Int)) (k : Nat) : Pt := fun i => if i < k then ipOf (ll.getD i []) else (false, 0, 0)
theorem ptA_congr {f g : Pt} (h : ∀ i, i < 8 → f i = g i) : ptA f = ptA g := by
 unfold ptA ptL
 rw [List.map_congr_left (fun a ha => h a (by simpa using ha))]
theorem far_block {w : World} {B b : Nat} (h : b ≠ B) (j : Nat) (u : Value) : (w.setCell ⟨B, j, none⟩ u).heap[b]? = w.heap[b]? := by
 by_cases hb : b < w.heap.size
 ·exact (grown_set w B j u).block b hb (by simp [h])
 ·have h1 : w.heap[b]? = none := Array.getElem?_eq_none (by omega)
  have h2 : (w.setCell ⟨B, j, none⟩ u).heap[b]? = none := Array.getElem?_eq_none (by simp; omega)
  rw [h1, h2]
theorem tabTo_zero (ll : List (List Int)) : ptTo ll 0 = ptZ := by funext i; simp [ptTo, ptZ]
theorem tabTo_all (ll : List (List Int)) : ptA (ptTo ll 8) = ptA (tabF ll) := ptA_congr (fun i hi => by simp [ptTo, tabF, hi])
theorem ptTo_succ (ll : List (List Int)) (k : Nat) : upd (ptTo ll k) k (ipOf (ll.getD k [])) = ptTo ll (k + 1) := by
 funext i
 unfold upd ptTo
 by_cases h : i = k
 ·subst h; simp
 ·by_cases h2 : i < k
  ·simp [h, h2, show i < k + 1 by omega]
  ·simp [h, h2, show ¬ i < k + 1 by omega]
theorem tabOk_no {ll : List (List Int)} {k : Nat} (hk : k < 8) (h : pairOkB (ll.getD k []) = false) : tabOkB ll = false := by
 unfold tabOkB
 have : (List.range 8).all (fun i => pairOkB (ll.getD i [])) = false := by
  rw [List.all_eq_false]
  exact ⟨k, by simpa using hk, by rw [h]; simp⟩
 rw [this, Bool.and_false]
theorem tabOk_yes {ll : List (List Int)} (h8 : ll.length = 8) (h : ∀ i, i < 8 → pairOkB (ll.getD i []) = true) : tabOkB ll = true := by
 unfold tabOkB
 rw [decide_eq_true h8, Bool.true_and, List.all_eq_true]
 exact fun i hi => h i (by simpa using hi)
theorem ok_next {ll : List (List Int)} {k : Nat} (h : ∀ i, i < k → pairOkB (ll.getD i []) = true) (hk : pairOkB (ll.getD k []) = true) : ∀ i, i < k + 1 → pairOkB (ll.getD i []) = true := fun i hi => by
 rcases Nat.lt_succ_iff_lt_or_eq.1 hi with h' | h'
 ·exact h i h'
 ·subst h'; exact hk
theorem results_pt {fn : Func} {p q : Tmp} (h : fn.results = #[.cell p 148, .tmp q]) (tmps : Array Value) (w : World) (g : Nat) (f : Pt) (hp : tmps.getD p undef = .pointer (some ⟨g, 0, none⟩)) (hg : w.heap[g]? = some (.cells (ptA f) 148 (0, 0))) :
  (results fn tmps).run Tryd.prog w = .ok (.tuple #[ptv f, tmps.getD q undef]) w := by
 have hp' : tmps[p]?.getD undef = .pointer (some ⟨g, 0, none⟩) := by simpa using hp
 simp [results, h, hp', asAddr, run_loadVar_row w g 148 148 (ptA f) (0, 0) _ hg ptU rfl (ptIf f)]

set_option maxRecDepth 100000 in
set_option maxHeartbeats 4000000 in
theorem pairTableFrom_any (o : Option Addr) (cap : Nat) (ll : List (List Int)) (w : World) (hR : RdLL w.heap.size w o ll) (hl : ll.length ≤ 1048576) (hx : ∀ i, i < ll.length → (ll.getD i []).length ≤ 1048576) :
  Calls Tryd.prog 89 #[.slice o ll.length cap] w fun e w' => e = .returned (.tuple #[ptv (if tabOkB ll = true then tabF ll else ptZ), .bool (tabOkB ll)]) ∧ Below w.heap.size w w' := by
 obtain ⟨W0, hW0⟩ : ∃ W, ((w.alloc (.cells #[.bool false, .int .i64 0, .int .i64 0, .bool false, .int .i64 0, .int .i64 0, .bool false, .int .i64 0, .int .i64 0, .bool false, .int .i64 0, .int .i64 0, .bool false, .int .i64 0, .int .i64 0, .bool false, .int .i64 0, .int .i64 0, .bool false, .int .i64 0, .int .i64 0, .bool false, .int .i64 0, .int .i64 0] 148)).alloc (.cells #[.bool false, .int .i64 0, .int .i64 0, .bool false, .int .i64 0, .int .i64 0, .bool false, .int .i64 0, .int .i64 0, .bool false, .int .i64 0, .int .i64 0, .bool false, .int .i64 0, .int .i64 0, .bool false, .int .i64 0, .int .i64 0, .bool false, .int .i64 0, .int .i64 0, .bool false, .int .i64 0, .int .i64 0] 148)) = W := ⟨_, rfl⟩
 have hb0 : Below w.heap.size w W0 := by rw [← hW0]; exact ((Below.refl _ _).alloc (Nat.le_refl _) _).alloc (by simp) _
 have hz2 : W0.heap[w.heap.size]? = some (.cells (ptA ptZ) 148 (0, 0)) := by rw [← hW0]; exact box_old2 w _ _ _
 have hz4 : W0.heap[w.heap.size + 1]? = some (.cells (ptA ptZ) 148 (0, 0)) := by rw [← hW0]; exact box_new2 w _ _ _
 have hs0 : W0.heap.size = w.heap.size + 1 + 1 := by rw [← hW0]; simp
 have HB0 := hide hb0
 have HZ2 := hide hz2
 have HZ4 := hide hz4
 clear hb0 hz2 hz4
 by_cases h8 : ll.length = 8
 ·rw [h8]
  have H8 := hide h8
  clear h8 hl
  have HR := hide hR
  have HX := hide hx
  clear hR hx
  obtain ⟨A, hA⟩ : ∃ A, (.tuple #[ptv (if tabOkB ll = true then tabF ll else ptZ), .bool (tabOkB ll)] : Value) = A := ⟨_, rfl⟩
  rw [hA]
  have HA := hide hA
  clear hA
  go_enter Tryd.func89, Tryd.ntmps89
  go_wp2
  go_loopw [15] (fun iv wr => ∃ k : Nat, k ≤ 8 ∧ iv = .int .i64 (k : Int) ∧ Hid (wr.heap[w.heap.size]? = some (.cells (ptA ptZ) 148 (0, 0))) ∧ Hid (wr.heap[w.heap.size + 1]? = some (.cells (ptA (ptTo ll k)) 148 (0, 0))) ∧ Hid (∀ i, i < k → pairOkB (ll.getD i []) = true) ∧ Hid (Below w.heap.size w wr))
   (fun iv _ => 8 - (intOf iv).toNat)
  case atStart => exact ⟨0, Nat.zero_le _, rfl, HZ2.out, by rw [tabTo_zero]; exact HZ4.out, fun i hi => absurd hi (Nat.not_lt_zero _), HB0.out⟩
  case round =>
   obtain ⟨k, hk, rfl, H2, H4, HOK, HBr⟩ := hrel
   clear HZ2 HZ4 HB0 hs0 hW0
   have hs4 := (Array.getElem?_eq_some_iff.1 H4.out).1
   by_cases hlt : k < 8
   ·have hlt' : (k : Int) < 8 := by omega
    obtain ⟨b, off, o', c', rfl, hb, hc, hr⟩ := ((HR.out.kept HBr.out (Nat.le_refl _)).le HBr.out.size).at (Nat.le_refl _) k (by rw [H8.out]; exact hlt)
    have hp := idPairFrom_any o' c' (ll.getD k []) wr hr (HX.out k (by rw [H8.out]; exact hlt))
    clear hr
    cases hq : pairOkB (ll.getD k []) with
    | false =>
     rw [hq] at hp
     simp only [Bool.false_eq_true, if_false] at hp
     have hA' : A = .tuple #[ptv ptZ, .bool false] := by rw [← HA.out, tabOk_no hlt hq]; rfl
     clear hq HA
     subst hA'
     generalize (ll.getD k []).length = q at *
     go_wp2_with fail
     refine hp.mono ?_
     rintro e v1 ⟨rfl, hb1⟩
     have h2 := hide ((hb1.block _ (show w.heap.size < wr.heap.size by omega)).trans H2.out)
     have HB1 := hide (HBr.out.trans (hb1.mono HBr.out.size))
     have hs1 := hb1.size
     clear hb1 hp
     have H2' : Hid ((v1.alloc (.cells #[.bool false, .int .i64 0, .int .i64 0] 146)).heap[w.heap.size]? = some (.cells (ptA ptZ) 148 (0, 0))) := (Below.heap_alloc _ _ _ (by omega)).trans h2.out
     have HB2 : Hid (Below w.heap.size w (v1.alloc (.cells #[.bool false, .int .i64 0, .int .i64 0] 146))) := HB1.out.alloc HB1.out.size _
     clear HB1 h2
     go_wp2_with (first | (refine wpList_store_pt rfl (.tmp 2) (.tmp 27) rfl w.heap.size ptZ ptZ rfl rfl H2'.out ?_))
     refine bodyPost_ret (results_pt rfl _ _ w.heap.size ptZ rfl (setRow_heap _ _ _ _ _ _ H2'.out)) rfl ⟨rfl, below_row HB2.out (Nat.le_refl _) _⟩
    | true =>
     rw [hq] at hp
     simp only [if_true] at hp
     have HQ := hide hq
     have HS := hide (ptTo_succ ll k)
     obtain ⟨p, hpe⟩ : ∃ p, ipOf (ll.getD k []) = p := ⟨_, rfl⟩
     rw [hpe] at hp HS
     clear hpe hq
     obtain ⟨s, x, y⟩ := p
     generalize (ll.getD k []).length = q at *
     go_wp2_with fail
     refine hp.mono ?_
     rintro e v1 ⟨rfl, hb1⟩
     have h2 := hide ((hb1.block _ (show w.heap.size < wr.heap.size by omega)).trans H2.out)
     have h4 := hide ((hb1.block _ hs4).trans H4.out)
     have HB1 := hide (HBr.out.trans (hb1.mono HBr.out.size))
     have hs1 := hb1.size
     clear hb1 hp
     obtain ⟨W1, hW1⟩ : ∃ W, v1.alloc (.cells #[.bool s, .int .i64 x, .int .i64 y] 146) = W := ⟨_, rfl⟩
     have h2' : W1.heap[w.heap.size]? = some (.cells (ptA ptZ) 148 (0, 0)) := by rw [← hW1]; exact (Below.heap_alloc _ _ _ (by omega)).trans h2.out
     have h4' : W1.heap[w.heap.size + 1]? = some (.cells (ptA (ptTo ll k)) 148 (0, 0)) := by rw [← hW1]; exact (Below.heap_alloc _ _ _ (by omega)).trans h4.out
     have u0 : W1.cell? ⟨v1.heap.size, 0, none⟩ = some (.bool s) := by rw [← hW1]; simp [go_sem]
     have u1 : W1.cell? ⟨v1.heap.size, 1, none⟩ = some (.int .i64 x) := by rw [← hW1]; simp [go_sem]
     have u2 : W1.cell? ⟨v1.heap.size, 2, none⟩ = some (.int .i64 y) := by rw [← hW1]; simp [go_sem]
     have HB2 : Hid (Below w.heap.size w W1) := by rw [← hW1]; exact HB1.out.alloc HB1.out.size _
     obtain ⟨q0, e0⟩ := ptA_get (ptTo ll k) (k * 3) (by omega)
     obtain ⟨q1, e1⟩ := ptA_get (ptTo ll k) (k * 3 + 1) (by omega)
     obtain ⟨q2, e2⟩ := ptA_get (ptTo ll k) (k * 3 + 2) (by omega)
     have a0 : W1.cell? ⟨w.heap.size + 1, k * 3, none⟩ = some q0 := bx_cell h4' _ _ e0
     have g0 := bx_frozen h4' (k * 3)
     have h5 := box_put h4' (k * 3) (.bool s)
     obtain ⟨W2, hW2⟩ : ∃ W, W1.setCell ⟨w.heap.size + 1, k * 3, none⟩ (.bool s) = W := ⟨_, rfl⟩
     rw [hW2] at h5
     have a1 : W2.cell? ⟨w.heap.size + 1, k * 3 + 1, none⟩ = some q1 := bx_cell h5 _ _ (by rw [Array.getElem?_setIfInBounds_ne (by omega)]; exact e1)
     have g1 := bx_frozen h5 (k * 3 + 1)
     have h6 := box_put h5 (k * 3 + 1) (.int .i64 x)
     obtain ⟨W3, hW3⟩ : ∃ W, W2.setCell ⟨w.heap.size + 1, k * 3 + 1, none⟩ (.int .i64 x) = W := ⟨_, rfl⟩
     rw [hW3] at h6
     have a2 : W3.cell? ⟨w.heap.size + 1, k * 3 + 2, none⟩ = some q2 := bx_cell h6 _ _ (by rw [Array.getElem?_setIfInBounds_ne (by omega), Array.getElem?_setIfInBounds_ne (by omega)]; exact e2)
     have g2 := bx_frozen h6 (k * 3 + 2)
     have h7 := box_put h6 (k * 3 + 2) (.int .i64 y)
     obtain ⟨W4, hW4⟩ : ∃ W, W3.setCell ⟨w.heap.size + 1, k * 3 + 2, none⟩ (.int .i64 y) = W := ⟨_, rfl⟩
     rw [hW4] at h7
     have H4n : Hid (W4.heap[w.heap.size + 1]? = some (.cells (ptA (ptTo ll (k + 1))) 148 (0, 0))) := by rw [← HS.out, ← ptA_upd]; exact h7
     have H2n : Hid (W4.heap[w.heap.size]? = some (.cells (ptA ptZ) 148 (0, 0))) := by
      rw [← hW4, ← hW3, ← hW2]
      exact (far_block (by omega) _ _).trans ((far_block (by omega) _ _).trans ((far_block (by omega) _ _).trans h2'))
     have HBn : Hid (Below w.heap.size w W4) := by
      rw [← hW4, ← hW3, ← hW2]
      exact ((HB2.out.setCell (p := ⟨w.heap.size + 1, k * 3, none⟩) (Nat.le_succ _) _).setCell (p := ⟨w.heap.size + 1, k * 3 + 1, none⟩) (Nat.le_succ _) _).setCell (p := ⟨w.heap.size + 1, k * 3 + 2, none⟩) (Nat.le_succ _) _
     clear h5 h6 h7 h4' h2' e0 e1 e2 h2 h4 HB1 HB2 HS
     go_wp2
     go_roundw
     case rel => exact ⟨k + 1, by omega, by go_num, H2n.out, H4n.out, (ok_next HOK.out HQ.out), HBn.out⟩
     case measure => simp [intOf]; omega
   ·have e : k = 8 := by omega
    subst e
    have hA' : A = .tuple #[ptv (ptTo ll 8), .bool true] := by rw [← HA.out, tabOk_yes H8.out HOK.out, if_pos rfl]; unfold ptv; rw [tabTo_all]
    clear HA
    subst hA'
    go_wp2_with (first | (refine wpList_load_pt rfl (.tmp 4) rfl (w.heap.size + 1) rfl _ H4.out ?_) | (refine wpList_store_pt rfl (.tmp 2) (.tmp 32) rfl w.heap.size _ ptZ rfl rfl H2.out ?_))
    refine bodyPost_ret (results_pt rfl _ _ w.heap.size _ rfl (setRow_heap _ _ _ _ _ _ H2.out)) rfl ⟨rfl, below_row HBr.out (Nat.le_refl _) _⟩
 ·rw [show tabOkB ll = false by unfold tabOkB; rw [decide_eq_false h8, Bool.false_and]]
  simp only [Bool.false_eq_true, if_false]
  have h8' : ((ll.length : Int) == 8) = false := beq_eq_false_iff_ne.2 (by omega)
  have h8n : ¬ ((ll.length : Int) = 8) := by omega
  go_enter Tryd.func89, Tryd.ntmps89
  go_wp2_with (first | (refine wpList_load_pt rfl (.tmp 4) rfl (w.heap.size + 1) rfl _ HZ4.out ?_) | (refine wpList_store_pt rfl (.tmp 2) (.tmp 12) rfl w.heap.size _ ptZ rfl rfl HZ2.out ?_))
  refine bodyPost_ret (results_pt rfl _ _ w.heap.size _ rfl (setRow_heap _ _ _ _ _ _ HZ2.out)) rfl ⟨rfl, below_row HB0.out (Nat.le_refl _) _⟩

end Go.Proofs.YtmmhgkkcpjhiiaaDoor

/- Rows of rows: how they read, and what owns its memory, each row in blocks of its own. -/
namespace Go.Proofs.YtmmhgkkcpjhiiaaDoor
open Go.ChangeShapes Go.WideShapes Go.ChangeAt Go.RowKit Go.Joins
set_option linter.unusedVariables false
set_option linter.unusedSimpArgs false

theorem Stp.cellP {lo hi : Nat} {w w' : World} {p : Addr} {u : Value} (s : Stp lo hi w w') (h : w.cell? p = some u) (hk : p.block < lo ∨ hi ≤ p.block) : w'.cell? p = some u := by
 have hlt : p.block < w.heap.size := by
  rcases Nat.lt_or_ge p.block w.heap.size with h' | h'
  ·exact h'
  ·simp [World.cell?, Array.getElem?_eq_none h'] at h
 have e := s.block p.block hlt hk
 simp only [World.cell?, e] at h ⊢
 exact h
/-- A slice that reads as l, its block from lo on, below hi. -/
def RiV {α : Type} (L : Lay α) (lo hi : Nat) (w : World) (v : Value) (l : List α) : Prop := ∃ o c, v = .slice o l.length c ∧ RdLo L lo hi w o l
theorem RiV.step {α : Type} {L : Lay α} {a b lo hi : Nat} {w w' : World} {v : Value} {l : List α} (h : RiV L a b w v l) (s : Stp lo hi w w') (hd : hi ≤ a ∨ b ≤ lo) : RiV L a b w' v l := by
 obtain ⟨o, c, e, r⟩ := h
 refine ⟨o, c, e, ?_⟩
 rcases r with r | ⟨g, off, ho, h0, h1, r⟩
 ·exact .inl r
 ·refine .inr ⟨g, off, ho, h0, h1, fun i hi' j hj => ?_⟩
  have h := r i hi' j hj
  have hl : (L.cs (l.getD i L.d)).length = L.k := L.len _
  rw [List.getElem?_eq_getElem (by omega)] at h ⊢
  exact s.cellP h (by simp only; omega)
theorem RiV.mono {α : Type} {L : Lay α} {a b a' b' : Nat} {w : World} {v : Value} {l : List α} (h : RiV L a b w v l) (h1 : a' ≤ a) (h2 : b ≤ b') : RiV L a' b' w v l := by
 obtain ⟨o, c, e, r⟩ := h
 refine ⟨o, c, e, ?_⟩
 rcases r with r | ⟨g, off, ho, h3, h4, r⟩
 ·exact .inl r
 ·exact .inr ⟨g, off, ho, by omega, by omega, r⟩
theorem RiV.open {α : Type} {L : Lay α} {a b : Nat} {w : World} {v : Value} {l : List α} (h : RiV L a b w v l) : ∃ o c, v = .slice o l.length c ∧ RdL L b w o l := by
 obtain ⟨o, c, e, r⟩ := h
 exact ⟨o, c, e, r.rd⟩
theorem RiV.of {α : Type} {L : Lay α} {C : Nat} {w : World} {o : Option Addr} {c : Nat} {l : List α} (h : RdL L C w o l) : RiV L 0 C w (.slice o l.length c) l := by
 refine ⟨o, c, rfl, ?_⟩
 rcases h with h | ⟨g, off, ho, h1, r⟩
 ·exact .inl h
 ·exact .inr ⟨g, off, ho, Nat.zero_le _, h1, r⟩
theorem InRow.ri {α : Type} {L : Lay α} {e : TypeId} {lo hi : Nat} {w : World} {v : Value} {l : List α} (h : InL L e lo hi w v l) : RiV L lo hi w v l := by
 obtain ⟨o, c, e1, r⟩ := InL.rd (L := L) h
 refine ⟨o, c, e1, ?_⟩
 rcases r with r | ⟨g, off, ho, h1, r⟩
 ·exact .inl r
 ·refine .inr ⟨g, off, ho, (h.1.lt g (by rw [e1, ho]; rfl)).1, h1, r⟩
/-- A slice of slices. -/
def RiRows {α : Type} (Q : Nat → Nat → World → Value → α → Prop) (d : α) (lo hi : Nat) (w : World) (v : Value) (xs : List α) : Prop := ∃ hs : List Hd, hs.length = xs.length ∧ RiV layH lo hi w v hs ∧ ∀ i, i < xs.length → Q lo hi w (hv hs i) (xs.getD i d)
/-- What a step elsewhere leaves. -/
structure Stps {α : Type} (Q : Nat → Nat → World → Value → α → Prop) : Prop where
 go : ∀ {a b lo hi : Nat} {w w' : World} {v : Value} {x : α}, Q a b w v x → Stp lo hi w w' → (hi ≤ a ∨ b ≤ lo) → Q a b w' v x
structure Monos {α : Type} (Q : Nat → Nat → World → Value → α → Prop) : Prop where
 go : ∀ {a b a' b' : Nat} {w : World} {v : Value} {x : α}, Q a b w v x → a' ≤ a → b ≤ b' → Q a' b' w v x
theorem RiRows.step {α : Type} {Q : Nat → Nat → World → Value → α → Prop} {d : α} (hQ : Stps Q) : Stps (RiRows Q d) := ⟨fun ⟨hs, h0, h1, h2⟩ s hd => ⟨hs, h0, h1.step s hd, fun i hi => hQ.go (h2 i hi) s hd⟩⟩
theorem RiRows.mono {α : Type} {Q : Nat → Nat → World → Value → α → Prop} {d : α} (hQ : Monos Q) : Monos (RiRows Q d) := ⟨fun ⟨hs, h0, h1, h2⟩ k1 k2 => ⟨hs, h0, h1.mono k1 k2, fun i hi => hQ.go (h2 i hi) k1 k2⟩⟩
abbrev RiI := RiV layI
abbrev RiT := RiRows RiI []
abbrev RiR := RiRows RiT []
theorem RiI.stp : Stps RiI := ⟨fun h s hd => RiV.step h s hd⟩
theorem RiI.mon : Monos RiI := ⟨fun h h1 h2 => RiV.mono h h1 h2⟩
theorem RiT.stp : Stps RiT := RiRows.step RiI.stp
theorem RiT.mon : Monos RiT := RiRows.mono RiI.mon
theorem RiR.stp : Stps RiR := RiRows.step RiT.stp
theorem RiR.mon : Monos RiR := RiRows.mono RiT.mon
theorem RiT.rd {a b : Nat} {w : World} {v : Value} {ll : List (List Int)} (h : RiT a b w v ll) : ∃ o c, v = .slice o ll.length c ∧ RdLL b w o ll := by
 obtain ⟨hs, h0, h1, h2⟩ := h
 obtain ⟨o, c, e, r⟩ := h1.open
 refine ⟨o, c, by rw [e, h0], hs, h0, r, fun i hi => ?_⟩
 obtain ⟨o', c', e', r'⟩ := (h2 i hi).open
 unfold hv at e'
 injection e' with e1 e2 e3
 exact ⟨e2, by rw [e1]; exact r'⟩
theorem RiT.of {C : Nat} {w : World} {o : Option Addr} {c : Nat} {ll : List (List Int)} (h : RdLL C w o ll) : RiT 0 C w (.slice o ll.length c) ll := by
 obtain ⟨hs, h0, r, h2⟩ := h
 refine ⟨hs, h0, by rw [← h0]; exact RiV.of r, fun i hi => ?_⟩
 have h3 := RiV.of (c := (hs.getD i (none, 0, 0)).2.2) (h2 i hi).2
 unfold hv
 rw [(h2 i hi).1]
 exact h3
/-- The head of table i, and how the table reads. -/
theorem RiR.at {a C : Nat} {w : World} {o : Option Addr} {n c : Nat} {lll : List (List (List Int))} (h : RiR a C w (.slice o n c) lll) (hC : C ≤ w.heap.size) (i : Nat) (hi : i < lll.length) :
  ∃ b off o' c', o = some ⟨b, off, none⟩ ∧ b < w.heap.size ∧ w.cell? ⟨b, off + i, none⟩ = some (.slice o' (lll.getD i []).length c') ∧ RdLL w.heap.size w o' (lll.getD i []) := by
 obtain ⟨hs, h0, h1, h2⟩ := h
 obtain ⟨o1, c1, e, r⟩ := h1.open
 injection e with e1 e2 e3
 subst e1
 rcases r with r | ⟨b, off, ho, hb, r⟩
 ·subst r; simp at h0; omega
 ·have hc := RdL.head r i (by omega)
  obtain ⟨o', c', e', r'⟩ := RiT.rd (h2 i hi)
  unfold hv at e'
  rw [e'] at hc
  exact ⟨b, off, o', c', ho, Nat.lt_of_lt_of_le hb hC, hc, r'.le hC⟩

/-- The rows, each in blocks of its own. -/
structure Rw {α : Type} (Q : Nat → Nat → World → Value → α → Prop) (d : α) (xs : List α) (lo hi : Nat) (w : World) (hs : List Hd) (L H : Nat → Nat) : Prop where
 len : hs.length = xs.length
 bd : ∀ i, i < xs.length → lo ≤ L i ∧ H i ≤ hi
 sep : ∀ i j, i < j → j < xs.length → H i ≤ L j
 row : ∀ i, i < xs.length → Q (L i) (H i) w (hv hs i) (xs.getD i d)
theorem Rw.nil {α : Type} (Q : Nat → Nat → World → Value → α → Prop) (d : α) (lo hi : Nat) (w : World) (L H : Nat → Nat) : Rw Q d [] lo hi w [] L H := ⟨rfl, fun i h => absurd h (Nat.not_lt_zero _), fun i j _ h => absurd h (Nat.not_lt_zero _), fun i h => absurd h (Nat.not_lt_zero _)⟩
theorem Rw.step {α : Type} {Q : Nat → Nat → World → Value → α → Prop} {d : α} {xs : List α} {a b lo hi : Nat} {w w' : World} {hs : List Hd} {L H : Nat → Nat} (hQ : Stps Q) (h : Rw Q d xs a b w hs L H) (s : Stp lo hi w w') (hd : ∀ i, i < xs.length → hi ≤ L i ∨ H i ≤ lo) : Rw Q d xs a b w' hs L H :=
 ⟨h.len, h.bd, h.sep, fun i hi' => hQ.go (h.row i hi') s (hd i hi')⟩
theorem Rw.kept {α : Type} {Q : Nat → Nat → World → Value → α → Prop} {d : α} {xs : List α} {a b : Nat} {w w' : World} {hs : List Hd} {L H : Nat → Nat} (hQ : Stps Q) (h : Rw Q d xs a b w hs L H) (hb : Below w.heap.size w w') : Rw Q d xs a b w' hs L H :=
 h.step hQ (Stp.of (lo := 0) (hi := 0) hb) (fun i _ => .inl (Nat.zero_le _))
theorem Rw.mono {α : Type} {Q : Nat → Nat → World → Value → α → Prop} {d : α} {xs : List α} {a b a' b' : Nat} {w : World} {hs : List Hd} {L H : Nat → Nat} (h : Rw Q d xs a b w hs L H) (h1 : a' ≤ a) (h2 : b ≤ b') : Rw Q d xs a' b' w hs L H :=
 ⟨h.len, fun i hi => ⟨Nat.le_trans h1 (h.bd i hi).1, Nat.le_trans (h.bd i hi).2 h2⟩, h.sep, h.row⟩
/-- One more row. -/
theorem Rw.snoc {α : Type} {Q : Nat → Nat → World → Value → α → Prop} {d : α} {xs : List α} {lo b l2 h2 : Nat} {w : World} {hs : List Hd} {L H : Nat → Nat} {o : Option Addr} {m c : Nat} {x : α} (h : Rw Q d xs lo b w hs L H) (hb : b ≤ l2) (hlo : lo ≤ l2) (hl : l2 ≤ h2) (q : Q l2 h2 w (.slice o m c) x) :
  Rw Q d (xs ++ [x]) lo h2 w (hs ++ [(o, m, c)]) (fun i => if i < xs.length then L i else l2) (fun i => if i < xs.length then H i else h2) := by
 have hl' := h.len
 refine ⟨by simp [hl'], fun i hi => ?_, fun i j hij hj => ?_, fun i hi => ?_⟩
 ·by_cases hi' : i < xs.length
  ·have := h.bd i hi'; simp only [hi', if_true]; omega
  ·simp only [hi', if_false]; omega
 ·simp at hj
  have hi' : i < xs.length := by omega
  by_cases hj' : j < xs.length
  ·simp only [hi', hj', if_true]; exact h.sep i j hij hj'
  ·have := h.bd i hi'; simp only [hi', hj', if_true, if_false]; omega
 ·by_cases hi' : i < xs.length
  ·have e1 : (xs ++ [x]).getD i d = xs.getD i d := by rw [List.getD_eq_getElem?_getD, List.getElem?_append_left hi', ← List.getD_eq_getElem?_getD]
   simp only [hi', if_true]
   rw [hv_left (by omega), e1]; exact h.row i hi'
  ·have e0 : i = xs.length := by simp at hi; omega
   subst e0
   have e1 : (xs ++ [x]).getD xs.length d = x := by simp
   simp only [Nat.lt_irrefl, if_false]
   rw [e1, ← hl', hv_last]; exact q
/-- A row is turned. -/
theorem Rw.mark {α : Type} {Q : Nat → Nat → World → Value → α → Prop} {d : α} {xs : List α} {a b : Nat} {w w' : World} {hs : List Hd} {L H : Nat → Nat} (hQ : Stps Q) (h : Rw Q d xs a b w hs L H) {i : Nat} (hi : i < xs.length) {y : α} (s : Stp (L i) (H i) w w') (q : Q (L i) (H i) w' (hv hs i) y) : Rw Q d (xs.set i y) a b w' hs L H := by
 refine ⟨by rw [List.length_set]; exact h.len, fun j hj => h.bd j (by simpa using hj), fun j k hjk hk => h.sep j k hjk (by simpa using hk), fun j hj => ?_⟩
 have hj' : j < xs.length := by simpa using hj
 by_cases e : j = i
 ·subst e
  have e1 : (xs.set j y).getD j d = y := by simp [List.getD_eq_getElem?_getD, hj']
  rw [e1]; exact q
 ·have e' : ¬ i = j := fun h => e h.symm
  have e1 : (xs.set i y).getD j d = xs.getD j d := by simp [List.getD_eq_getElem?_getD, List.getElem?_set, e']
  rw [e1]
  refine hQ.go (h.row j hj') s ?_
  rcases Nat.lt_or_ge j i with h' | h'
  ·exact .inr (h.sep j i h' hi)
  ·exact .inl (h.sep i j (by omega) hj')
def outB (v : Value) (n : Nat) (L H : Nat → Nat) : Prop := ∀ i, i < n → ∀ b, v.ownBlock = some b → b < L i ∨ H i ≤ b
/-- A slice of slices that owns its memory, each row in blocks of its own. -/
def InRows {α : Type} (Q : Nat → Nat → World → Value → α → Prop) (d : α) (T : TypeId) (lo hi : Nat) (w : World) (v : Value) (xs : List α) : Prop := ∃ hs L H, InL layH T lo hi w v hs ∧ Rw Q d xs lo hi w hs L H ∧ outB v xs.length L H
theorem InRows.step {α : Type} {Q : Nat → Nat → World → Value → α → Prop} {d : α} {T : TypeId} (hQ : Stps Q) : Stps (InRows Q d T) := ⟨fun ⟨hs, L, H, h0, h1, h2⟩ s hd =>
 ⟨hs, L, H, InRow.step h0 s hd, h1.step hQ s (fun i hi => by have := h1.bd i hi; omega), h2⟩⟩
theorem InRows.mono {α : Type} {Q : Nat → Nat → World → Value → α → Prop} {d : α} {T : TypeId} : Monos (InRows Q d T) := ⟨fun ⟨hs, L, H, h0, h1, h2⟩ k1 k2 =>
 ⟨hs, L, H, InRow.mono h0 k1 k2, h1.mono k1 k2, h2⟩⟩
theorem InRows.ri {α : Type} {Q Q' : Nat → Nat → World → Value → α → Prop} {d : α} {T : TypeId} (hm : Monos Q') (hq : ∀ {lo hi : Nat} {w : World} {v : Value} {x : α}, Q lo hi w v x → Q' lo hi w v x) {lo hi : Nat} {w : World} {v : Value} {xs : List α} (h : InRows Q d T lo hi w v xs) : RiRows Q' d lo hi w v xs := by
 obtain ⟨hs, L, H, h0, h1, h2⟩ := h
 exact ⟨hs, h1.len, InRow.ri h0, fun i hi => hm.go (hq (h1.row i hi)) (h1.bd i hi).1 (h1.bd i hi).2⟩
abbrev InI := InL layI 3
abbrev InT := InRows InI [] 72
abbrev InR := InRows InT [] 71
theorem InI.stp : Stps InI := ⟨fun h s hd => InRow.step h s hd⟩
theorem InT.stp : Stps InT := InRows.step InI.stp
theorem InR.stp : Stps InR := InRows.step InT.stp
theorem InT.ri {lo hi : Nat} {w : World} {v : Value} {ll : List (List Int)} (h : InT lo hi w v ll) : RiT lo hi w v ll := InRows.ri RiI.mon (fun q => InRow.ri q) h
theorem InR.ri {lo hi : Nat} {w : World} {v : Value} {ll : List (List (List Int))} (h : InR lo hi w v ll) : RiR lo hi w v ll := InRows.ri RiT.mon (fun q => InT.ri q) h

end Go.Proofs.YtmmhgkkcpjhiiaaDoor

/- The laws' own helpers over rows of rows of rows: marks, what is held, sameness. -/
namespace Go.Proofs.YtmmhgkkcpjhiiaaDoor
open Go.ChangeShapes Go.WideShapes Go.ChangeAt Go.RowKit Go.Joins
set_option linter.unusedVariables false
set_option linter.unusedSimpArgs false

def sumN (S : Nat → Nat) : Nat → Nat
  | 0 => 0
  | n + 1 => sumN S n + S n
theorem sumN_le (S : Nat → Nat) {i n : Nat} (h : i ≤ n) : sumN S i ≤ sumN S n := by
  induction n with
  | zero => have : i = 0 := by omega
            subst this; exact Nat.le_refl _
  | succ n ih =>
    by_cases h' : i ≤ n
    · have := ih h'; show sumN S i ≤ sumN S n + S n; omega
    · have : i = n + 1 := by omega
      subst this; exact Nat.le_refl _
theorem sumN_at (S : Nat → Nat) {i n : Nat} (h : i < n) : sumN S i + S i ≤ sumN S n := sumN_le S (show i + 1 ≤ n from h)
def lenT (ll : List (List Int)) (i : Nat) : Nat := (ll.getD i []).length
def szT (ll : List (List Int)) : Nat := sumN (lenT ll) ll.length
def lenR (lll : List (List (List Int))) (i : Nat) : Nat := szT (lll.getD i [])
def szR (lll : List (List (List Int))) : Nat := sumN (lenR lll) lll.length
def mk2To {α : Type} (f : Nat → α) (xs : List α) (d : α) (i : Nat) : List α := (List.range xs.length).map (fun j => if j < i then f j else xs.getD j d)
theorem mk2To_zero {α : Type} (f : Nat → α) (xs : List α) (d : α) : mk2To f xs d 0 = xs := by
  apply List.ext_getElem
  · simp [mk2To]
  · intro i h1 h2; simp [mk2To, h2]
theorem mk2To_len {α : Type} (f : Nat → α) (xs : List α) (d : α) (i : Nat) : (mk2To f xs d i).length = xs.length := by simp [mk2To]
theorem mk2To_get {α : Type} (f : Nat → α) (xs : List α) (d : α) (i : Nat) (h : i < xs.length) : (mk2To f xs d i).getD i d = xs.getD i d := by simp [mk2To, h]
theorem mk2To_set {α : Type} (f : Nat → α) (xs : List α) (d : α) (i : Nat) : (mk2To f xs d i).set i (f i) = mk2To f xs d (i + 1) := by
  apply List.ext_getElem
  · simp [mk2To]
  · intro j h1 h2
    simp [mk2To] at h1 h2
    by_cases e : i = j
    · subst e; simp [mk2To]
    · by_cases h3 : j < i
      · simp [mk2To, List.getElem_set, e, h3, show j < i + 1 by omega]
      · simp [mk2To, List.getElem_set, e, h3, show ¬ j < i + 1 by omega]
theorem mk2To_all {α : Type} (f : Nat → α) (xs : List α) (d : α) : mk2To f xs d xs.length = (List.range xs.length).map f := by
  unfold mk2To
  exact List.map_congr_left (fun a ha => by simp at ha; simp [ha])
def mkTf (k : Int) (ll : List (List Int)) (j : Nat) : List Int := markI (k + (sumN (lenT ll) j : Int)) (lenT ll j)
def mkT (k : Int) (ll : List (List Int)) : List (List Int) := (List.range ll.length).map (mkTf k ll)
def mkRf (k : Int) (lll : List (List (List Int))) (j : Nat) : List (List Int) := mkT (k + (sumN (lenR lll) j : Int)) (lll.getD j [])
def mkR (k : Int) (lll : List (List (List Int))) : List (List (List Int)) := (List.range lll.length).map (mkRf k lll)
theorem mkT_len (k : Int) (ll : List (List Int)) : (mkT k ll).length = ll.length := by simp [mkT]
theorem mkR_len (k : Int) (ll : List (List (List Int))) : (mkR k ll).length = ll.length := by simp [mkR]
theorem Stp.wide2 {a b lo hi : Nat} {w w' : World} (s : Stp a b w w') (h1 : lo ≤ a) (h2 : b ≤ hi) : Stp lo hi w w' := ⟨s.os, s.tape, s.output, s.size, fun k hk hn => s.block k hk (by omega)⟩

set_option maxRecDepth 100000 in
set_option maxHeartbeats 1000000 in
theorem markIntSS_in (lo hi : Nat) (v : Value) (ll : List (List Int)) (k : Int) (w : World) (h : InT lo hi w v ll) (h0 : 0 ≤ k) (h1 : k + (szT ll : Int) ≤ 10000000) (hn : ll.length ≤ 1048576) (hz : szT ll ≤ 1048576) :
    Calls Tryd.prog 67 #[v, .int .i64 k] w fun e w' => e = .returned (.int .i64 (k + (szT ll : Int))) ∧ InT lo hi w' v (mkT k ll) ∧ Stp lo hi w w' := by
  obtain ⟨hs, L, H, i0, i1, i2⟩ := h
  have hl := i1.len
  obtain ⟨o, c, e, r⟩ := InL.rd (L := layH) i0
  subst e
  rw [hl] at i0 i2 ⊢
  have HOUT := hide i2
  have HBD := hide i1.bd
  have I0 := hide i0
  have I1 := hide (show Rw InI [] (mk2To (mkTf k ll) ll [] 0) lo hi w hs L H by rw [mk2To_zero]; exact i1)
  have HL := hide hl
  clear i0 i1 i2 r hl
  go_enter Tryd.func67, Tryd.ntmps67
  go_wp2
  go_loopw [1, 5] (fun m j wr => ∃ i : Nat, i ≤ ll.length ∧ j = .int .i64 (i : Int) ∧ m = .int .i64 (k + (sumN (lenT ll) i : Int)) ∧ Hid (InL layH 72 lo hi wr (.slice o ll.length c) hs) ∧ Hid (Rw InI [] (mk2To (mkTf k ll) ll [] i) lo hi wr hs L H) ∧ Hid (Stp lo hi w wr))
    (fun _ j _ => ll.length - (intOf j).toNat)
  case atStart => exact ⟨0, Nat.zero_le _, rfl, by simp [sumN], I0.out, I1.out, Stp.refl _⟩
  case round =>
    obtain ⟨i, hi', rfl, rfl, HI, HR, HS⟩ := hrel
    clear I0 I1
    have hsm := sumN_le (lenT ll) hi'
    have hsz : sumN (lenT ll) ll.length = szT ll := rfl
    rw [hsz] at hsm
    clear hsz
    by_cases hlt : i < ll.length
    · obtain ⟨o', c', e', r⟩ := InL.rd (L := layH) HI.out
      injection e' with e1 e2 e3
      rw [← e1] at r
      rcases r with r | ⟨b, off, rfl, hb, r⟩
      · have := HL.out; rw [r] at this; simp at this; omega
      have hc := RdL.head r i (by rw [HL.out]; exact hlt)
      have hrow := HR.out.row i (by rw [mk2To_len]; exact hlt)
      rw [mk2To_get _ _ _ _ hlt] at hrow
      have hsa := sumN_at (lenT ll) hlt
      rw [show sumN (lenT ll) ll.length = szT ll from rfl] at hsa
      have hm := markIntS_any (L i) (hv hs i) (ll.getD i []) (k + (sumN (lenT ll) i : Int)) wr hrow.1 (by omega) (by omega) (by unfold lenT at hsa; omega)
      have HSU := hide (show k + (sumN (lenT ll) i : Int) + ((ll.getD i []).length : Int) = k + (sumN (lenT ll) (i + 1) : Int) by rw [show sumN (lenT ll) (i + 1) = sumN (lenT ll) i + (ll.getD i []).length from rfl]; omega)
      have HLT := hide (fun b e => And.intro (hrow.1.lt b e).1 (hrow.2 b e))
      have HNX := hide (fun w2 (s : Stp (L i) (H i) wr w2) q => Rw.mark InI.stp HR.out (i := i) (by rw [mk2To_len]; exact hlt) s (y := mkTf k ll i) q)
      have HBI := hide (HBD.out i hlt)
      have HRW := hide (hrow.2)
      have z1 : (i : Int) < (ll.length : Int) := by omega
      change wr.cell? ⟨b, off + i, none⟩ = some (hv hs i) at hc
      obtain ⟨q, hq⟩ : ∃ q, (ll.getD i []).length = q := ⟨_, rfl⟩
      rw [hq] at hm HSU
      have HQ := hide hq
      clear hq
      clear hrow r hsa HR e1 e2 e3
      generalize hv hs i = rv at *
      generalize hst : sumN (lenT ll) i = s0 at *
      have HST := hide hst
      clear hst
      go_wp2_with fail
      refine hm.mono ?_
      rintro e w2 ⟨rfl, ho2, hg2⟩
      have HS2 : Hid (Stp (L i) (H i) wr w2) := Stp.grown hg2 HLT.out
      have HO2 := hide (HNX.out w2 HS2.out ⟨by unfold mkTf; rw [HST.out, show lenT ll i = q from HQ.out]; exact ho2, HRW.out⟩)
      have HI2 := hide (InRow.steps HI.out HS2.out (fun g e => HOUT.out i hlt g e))
      clear ho2 hg2 hm hc HNX
      go_wp2
      go_roundw
      case rel => exact ⟨i + 1, by omega, by go_num, by rw [HSU.out], HI2.out, by rw [← mk2To_set]; exact HO2.out, HS.out.trans (HS2.out.wide2 HBI.out.1 HBI.out.2)⟩
      case measure => simp [intOf]; omega
    · have e : i = ll.length := by omega
      subst e
      go_wp2
      go_ret
      exact ⟨rfl, ⟨hs, L, H, HI.out, by unfold mkT; rw [← mk2To_all]; exact HR.out, by rw [mkT_len]; exact HOUT.out⟩, HS.out⟩

end Go.Proofs.YtmmhgkkcpjhiiaaDoor

