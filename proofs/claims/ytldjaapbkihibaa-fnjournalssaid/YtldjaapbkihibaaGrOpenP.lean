/- Several texts in one: SPt, SPt2, SPt3, RowsP, LRing, LRing2, LMarkB, ShP, SPl, SPw, SMoved, ShP2, OpenP. -/
import Derived.Test.YtldjaapbkihibaaGrSL4
import Derived.Deep.MidRow
import Derived.Deep.WholeRow
import Derived.Test.YtldjaapbkihibaaGrShJ
import Derived.Test.YtldjaapbkihibaaSTab
import Derived.Deep.RegionHeld3
import Derived.Test.YtldjaapbkihibaaBacks
import Derived.Test.YtldjaapbkihibaaLInts
import Derived.Test.YtldjaapbkihibaaInts
/- A table of pairs as a value (the program's pairTable): idPairFrom, list. -/
namespace Go.Proofs.Ytldjaapbkihibaa
open Go.ChangeShapes Go.WideShapes Go.ChangeAt Go.RowKit Go.Joins
set_option linter.unusedVariables false
set_option linter.unusedSimpArgs false

/-- A list of a table as a value: whether there is one, and the two. -/
abbrev Ip := Bool × Int × Int
def layP : Lay Ip := ⟨3, fun a => [.bool a.1, .int .i64 a.2.1, .int .i64 a.2.2], (false, 0, 0), fun _ => rfl⟩
abbrev ipv (a : Ip) : Value := .agg #[.bool a.1, .int .i64 a.2.1, .int .i64 a.2.2]
def ipOf (l : List Int) : Ip := if l.length = 0 then (false, 0, 0) else (true, l.getD 0 0, l.getD 1 0)
def ipList (a : Ip) : List Int := if a.1 = true then [a.2.1, a.2.2] else []
def idB (x : Int) : Bool := decide (0 ≤ x) && decide (x < 6)
/-- A list that may stand in a table. -/
def pairOkB (l : List Int) : Bool := decide (l.length = 0) || (decide (l.length = 2) && idB (l.getD 0 0) && idB (l.getD 1 0))
theorem ipList_of {l : List Int} (h : pairOkB l = true) : ipList (ipOf l) = l := by
  unfold pairOkB at h
  simp only [Bool.or_eq_true, Bool.and_eq_true, decide_eq_true_eq] at h
  rcases h with h | ⟨⟨h, _⟩, _⟩
  · have e : l = [] := List.eq_nil_of_length_eq_zero h
    subst e; rfl
  · match l, h with
    | [a, b], _ => rfl
theorem ipOf_list (a : Ip) : pairOkB (ipList a) = true → True := fun _ => trivial
theorem two_own (w : World) (x y : Int) : ownI (w.alloc (.cells #[.int .i64 x, .int .i64 y] 3)) w.heap.size (.slice (some ⟨w.heap.size, 0, none⟩) 2 2) [x, y] :=
  ⟨by simp [layI], .inr ⟨w.heap.size, 2, #[.int .i64 x, .int .i64 y], rfl, Nat.le_refl _, heap_alloc_new w _, by simp, by unfold maxLen; omega, by simp [layI], by simp [layI]⟩⟩

set_option maxHeartbeats 1000000 in
theorem list_any (a : Ip) (w : World) :
    Calls Try.prog 64 #[ipv a] w fun e w' => ∃ o c, e = .returned (.slice o (ipList a).length c) ∧ ownI w' w.heap.size (.slice o (ipList a).length c) (ipList a) ∧ Below w.heap.size w w' := by
  obtain ⟨s, x, y⟩ := a
  cases s with
  | false =>
    go_enter Try.func64, Try.ntmps64
    go_wp2
    go_ret
    exact ⟨none, 0, rfl, World.ownsRow_nil _ _ _ _, by (repeat (first | with_reducible exact hB | with_reducible exact Below.refl _ _ | with_reducible refine Below.drew ?_ | with_reducible refine below_drewN ?_ _ | with_reducible refine Below.alloc ?_ ?_ _ | with_reducible refine Below.setCell ?_ ?_ _ | (focus (simp; done)) | (focus (simp; omega)) | omega))⟩
  | true =>
    go_enter Try.func64, Try.ntmps64
    go_wp2
    go_ret
    have h := two_own (w.alloc (.cells #[.bool true, .int .i64 x, .int .i64 y] 106)) x y
    rw [World.size_alloc] at h
    exact ⟨_, _, rfl, own_mono h (Nat.le_succ _), by (repeat (first | with_reducible exact hB | with_reducible exact Below.refl _ _ | with_reducible refine Below.drew ?_ | with_reducible refine below_drewN ?_ _ | with_reducible refine Below.alloc ?_ ?_ _ | with_reducible refine Below.setCell ?_ ?_ _ | (focus (simp; done)) | (focus (simp; omega)) | omega))⟩

theorem isBackP_any (x : Int) (w : World) : Calls Try.prog 131 #[.int .i64 x] w fun e w' => e = .returned (.bool (idB x)) ∧ w = w' := isBack_any x w

set_option maxRecDepth 100000 in
set_option maxHeartbeats 4000000 in
theorem idPairFrom_any (o : Option Addr) (cap : Nat) (l : List Int) (w : World) (hR : RdI w.heap.size w o l) (hlen : l.length ≤ 1048576) :
    Calls Try.prog 129 #[.slice o l.length cap] w fun e w' => e = .returned (.tuple #[ipv (if pairOkB l = true then ipOf l else (false, 0, 0)), .bool (pairOkB l)]) ∧ Below w.heap.size w w' := by
  by_cases h0 : l.length = 0
  · have e : l = [] := List.eq_nil_of_length_eq_zero h0
    subst e
    rw [show pairOkB [] = true from rfl, show ipOf [] = (false, 0, 0) from rfl]
    simp only [if_true]
    go_enter Try.func129, Try.ntmps129
    go_wp2
    refine bodyPost_ret (v := .tuple #[ipv (false, 0, 0), .bool true]) (by simp [results, Try.results129, go_sem]) rfl ⟨rfl, by (repeat (first | with_reducible exact hB | with_reducible exact Below.refl _ _ | with_reducible refine Below.drew ?_ | with_reducible refine below_drewN ?_ _ | with_reducible refine Below.alloc ?_ ?_ _ | with_reducible refine Below.setCell ?_ ?_ _ | (focus (simp; done)) | (focus (simp; omega)) | omega))⟩
  · by_cases h2 : l.length = 2
    · match l, h2 with
      | [x, y], _ =>
        rcases hR with hR | ⟨b, off, rfl, hbl, hcell⟩
        · cases hR
        have c0 : w.cell? ⟨b, off, none⟩ = some (.int .i64 x) := hcell 0 (by simp) 0 (by decide)
        have c1 : w.cell? ⟨b, off + 1, none⟩ = some (.int .i64 y) := hcell 1 (by simp) 0 (by decide)
        have hx := fun w => isBackP_any x w
        have hy := fun w => isBackP_any y w
        have hE : pairOkB [x, y] = (idB x && idB y) := by simp [pairOkB]
        rw [hE, show ipOf [x, y] = (true, x, y) from rfl]
        clear hcell hE
        cases h3 : idB x with
        | false =>
          rw [h3] at hx; try simp only [Bool.false_and, Bool.true_and, Bool.false_eq_true, if_false]
          go_enter Try.func129, Try.ntmps129
          go_wp2_with (first | (go_at_call 131; refine (hx _).mono ?_; rintro e w1 ⟨rfl, rfl⟩))
          refine bodyPost_ret (v := .tuple #[ipv (false, 0, 0), .bool false]) (by simp [results, Try.results129, go_sem]) rfl ⟨rfl, by (repeat (first | with_reducible exact hB | with_reducible exact Below.refl _ _ | with_reducible refine Below.drew ?_ | with_reducible refine below_drewN ?_ _ | with_reducible refine Below.alloc ?_ ?_ _ | with_reducible refine Below.setCell ?_ ?_ _ | (focus (simp; done)) | (focus (simp; omega)) | omega))⟩
        | true =>
          rw [h3] at hx; try simp only [Bool.false_and, Bool.true_and, Bool.false_eq_true, if_false]
          cases h4 : idB y with
          | false =>
            rw [h4] at hy; simp only [Bool.false_eq_true, if_false, if_true]
            go_enter Try.func129, Try.ntmps129
            go_wp2_with (first | (go_at_call 131; first | (refine (hx _).mono ?_; rintro e w1 ⟨rfl, rfl⟩) | (refine (hy _).mono ?_; rintro e w1 ⟨rfl, rfl⟩)))
            refine bodyPost_ret (v := .tuple #[ipv (false, 0, 0), .bool false]) (by simp [results, Try.results129, go_sem]) rfl ⟨rfl, by (repeat (first | with_reducible exact hB | with_reducible exact Below.refl _ _ | with_reducible refine Below.drew ?_ | with_reducible refine below_drewN ?_ _ | with_reducible refine Below.alloc ?_ ?_ _ | with_reducible refine Below.setCell ?_ ?_ _ | (focus (simp; done)) | (focus (simp; omega)) | omega))⟩
          | true =>
            rw [h4] at hy; simp only [Bool.false_eq_true, if_false, if_true]
            go_enter Try.func129, Try.ntmps129
            go_wp2_with (first | (go_at_call 131; first | (refine (hx _).mono ?_; rintro e w1 ⟨rfl, rfl⟩) | (refine (hy _).mono ?_; rintro e w1 ⟨rfl, rfl⟩)))
            go_region
            all_goals (go_wp2; refine bodyPost_ret (v := .tuple #[ipv (true, x, y), .bool true]) (by simp [results, Try.results129, go_sem]) rfl ⟨rfl, by (repeat (first | with_reducible exact hB | with_reducible exact Below.refl _ _ | with_reducible refine Below.drew ?_ | with_reducible refine below_drewN ?_ _ | with_reducible refine Below.alloc ?_ ?_ _ | with_reducible refine Below.setCell ?_ ?_ _ | (focus (simp; done)) | (focus (simp; omega)) | omega))⟩)
    · rw [show pairOkB l = false by simp [pairOkB, h0, h2]]
      simp only [Bool.false_eq_true, if_false]
      have h2' : ((l.length : Int) == 2) = false := beq_eq_false_iff_ne.2 (by omega)
      go_enter Try.func129, Try.ntmps129
      go_wp2
      refine bodyPost_ret (v := .tuple #[ipv (false, 0, 0), .bool false]) (by simp [results, Try.results129, go_sem]) rfl ⟨rfl, by (repeat (first | with_reducible exact hB | with_reducible exact Below.refl _ _ | with_reducible refine Below.drew ?_ | with_reducible refine below_drewN ?_ _ | with_reducible refine Below.alloc ?_ ?_ _ | with_reducible refine Below.setCell ?_ ?_ _ | (focus (simp; done)) | (focus (simp; omega)) | omega))⟩

end Go.Proofs.Ytldjaapbkihibaa

/- A table of pairs as a value (the program's pairTable): pairTableFrom, lists. -/
namespace Go.Proofs.Ytldjaapbkihibaa
open Go.ChangeShapes Go.WideShapes Go.ChangeAt Go.RowKit Go.Joins
set_option linter.unusedVariables false
set_option linter.unusedSimpArgs false

/-- A table as a value: what each bucket has. -/
abbrev Pt := Nat → Ip
def ptL (f : Pt) : List Value := ((List.range 8).map f).flatMap layP.cs
def ptA (f : Pt) : Array Value := (ptL f).toArray
abbrev ptv (f : Pt) : Value := .agg (ptA f)
def ptZ : Pt := fun _ => (false, 0, 0)
def upd (f : Pt) (k : Nat) (p : Ip) : Pt := fun i => if i = k then p else f i
theorem below_row {B g : Nat} {w0 w : World} (hb : Below B w0 w) (hBg : B ≤ g) (cs : Array Value) : Below B w0 (w.setRow g cs) := ⟨hb.os, hb.tape, hb.output, by simpa using hb.size, fun k hk => (setRow_other w g k cs (by omega)).trans (hb.block k hk)⟩
theorem ptL_len (f : Pt) : (ptL f).length = 24 := rfl
theorem ptA_size (f : Pt) : (ptA f).size = 24 := rfl
theorem map_upd (f : Pt) (k : Nat) (p : Ip) : ((List.range 8).map f).set k p = (List.range 8).map (upd f k p) := by
  apply List.ext_getElem
  · simp
  · intro i h1 h2
    simp at h1 h2
    by_cases h : k = i
    · subst h; simp [upd]
    · have h' : ¬ i = k := fun e => h e.symm
      simp [upd, h, h', List.getElem_set]
theorem ptL_upd (f : Pt) (k : Nat) (p : Ip) : (((ptL f).set (k * 3) (.bool p.1)).set (k * 3 + 1) (.int .i64 p.2.1)).set (k * 3 + 2) (.int .i64 p.2.2) = ptL (upd f k p) := by
  unfold ptL
  rw [← map_upd]
  exact flat_set3 layP rfl rfl _ k
theorem ptA_upd (f : Pt) (k : Nat) (p : Ip) : (((ptA f).setIfInBounds (k * 3) (.bool p.1)).setIfInBounds (k * 3 + 1) (.int .i64 p.2.1)).setIfInBounds (k * 3 + 2) (.int .i64 p.2.2) = ptA (upd f k p) := by
  unfold ptA
  rw [← ptL_upd]
  simp
theorem ptA_get (f : Pt) (j : Nat) (h : j < 24) : ∃ u, (ptA f)[j]? = some u := ⟨_, Array.getElem?_eq_getElem (by rw [ptA_size]; exact h)⟩
theorem ptA_part (f : Pt) (k : Nat) (h : k < 8) : (ptA f).extract (k * 3) (k * 3 + 3) = #[.bool (f k).1, .int .i64 (f k).2.1, .int .i64 (f k).2.2] := by
  match k, h with
  | 0, _ => rfl
  | 1, _ => rfl
  | 2, _ => rfl
  | 3, _ => rfl
  | 4, _ => rfl
  | 5, _ => rfl
  | 6, _ => rfl
  | 7, _ => rfl
  | n + 8, h => exact absurd h (by omega)
theorem ptA_one (f : Pt) : (ptA f).all (·.oneCell') = true := all_oneCell_toArray (fun v hv => by
  unfold ptL at hv
  simp only [List.mem_flatMap, layP, List.mem_cons, List.not_mem_nil, or_false] at hv
  obtain ⟨a, _, rfl | rfl | rfl⟩ := hv <;> rfl)
theorem ptU : Try.prog.underlying 108 = some (.array 8 106) := by kernel_rfl
theorem ptI : (Try.prog.info? 108).map (·.size) = some 24 := by kernel_rfl
theorem ptIf (f : Pt) : (Try.prog.info? 108).map (·.size) = some (ptA f).size := ptI
theorem ipI : (Try.prog.info? 106).map (·.size) = some 3 := by kernel_rfl
theorem ipAgg (w : World) : (isAgg 106).run Try.prog w = .ok true w := by
  simp [go_sem]
theorem ipSize (w : World) : (sizeOf 106).run Try.prog w = .ok 3 w := by
  have h := ipI
  cases hq : Try.prog.info? 106 with
  | none => simp [hq] at h
  | some i =>
    simp [hq] at h
    simp [sizeOf, typeInfo, hq, h]
theorem wpList_load_pt {ops : Array Oper} {rest : List Oper} {o : Oper} {a : Act} {w : World} {Q : Exit → Act → World → Prop} (hgd : o.guard = none) (x : Operand) (ho : o.op = .load 108 x)
    (g : Nat) (hx : a.eval x = .pointer (some ⟨g, 0, none⟩)) (f : Pt) (hg : w.heap[g]? = some (.cells (ptA f) 108 (0, 0)))
    (h : wpList Try.prog ops Q rest (a.put o.dst (ptv f)) w) : wpList Try.prog ops Q (o :: rest) a w :=
  wpList_load_row hgd _ x ho g hx _ _ _ _ hg ptU rfl (ptIf f) h
theorem wpList_store_pt {ops : Array Oper} {rest : List Oper} {o : Oper} {a : Act} {w : World} {Q : Exit → Act → World → Prop} (hgd : o.guard = none) (x y : Operand) (ho : o.op = .store 108 x y)
    (g : Nat) (f old : Pt) (hx : a.eval x = .pointer (some ⟨g, 0, none⟩)) (hy : a.eval y = ptv f) (hg : w.heap[g]? = some (.cells (ptA old) 108 (0, 0)))
    (h : wpList Try.prog ops Q rest (a.put o.dst undef) (w.setRow g (ptA f))) : wpList Try.prog ops Q (o :: rest) a w :=
  wpList_store_row hgd _ x y ho g (ptA f) hx hy _ _ hg (ptIf f) rfl (ptA_one f) h
theorem wpList_index_pt {ops : Array Oper} {rest : List Oper} {o : Oper} {a : Act} {w : World} {Q : Exit → Act → World → Prop} (hgd : o.guard = none) (x ix : Operand) (ho : o.op = .index 108 x ix)
    (f : Pt) (k : Nat) (hk : k < 8) (hx : a.eval x = ptv f) (hi : a.eval ix = .int .i64 (k : Int))
    (h : wpList Try.prog ops Q rest (a.put o.dst (ipv (f k))) w) : wpList Try.prog ops Q (o :: rest) a w :=
  wpList_plain hgd fun _ hK => by
    have hk' : (k : Int) < 8 := by omega
    unfold Oper.wp execOp
    simp only [ho, hx, hi, Instr.index, asIntOf, Sem.run_bind, Sem.run_pure, Result.andThen_ok, run_underlying ptU, part, ipAgg, ipSize]
    simp [hk', ptA_part f k hk, part, ipAgg, ipSize, Sem.run_bind]
    exact hK _ _ h

end Go.Proofs.Ytldjaapbkihibaa

/- A table of pairs as a value (the program's pairTable): pairTableFrom, lists, newestTable. -/
namespace Go.Proofs.Ytldjaapbkihibaa
open Go.ChangeShapes Go.WideShapes Go.ChangeAt Go.RowKit Go.Joins
set_option linter.unusedVariables false
set_option linter.unusedSimpArgs false

/-- Lists that are a table. -/
def tabOkB (ll : List (List Int)) : Bool := decide (ll.length = 8) && (List.range 8).all (fun i => pairOkB (ll.getD i []))
def tabF (ll : List (List Int)) : Pt := fun i => ipOf (ll.getD i [])
def tabTo (ll : List (List Int)) (k : Nat) : Pt := fun i => if i < k then ipOf (ll.getD i []) else (false, 0, 0)
def ptLL (f : Pt) : List (List Int) := (List.range 8).map (fun i => ipList (f i))
theorem ptA_congr {f g : Pt} (h : ∀ i, i < 8 → f i = g i) : ptA f = ptA g := by
  unfold ptA ptL
  rw [List.map_congr_left (fun a ha => h a (by simpa using ha))]
theorem far_block {w : World} {B b : Nat} (h : b ≠ B) (j : Nat) (u : Value) : (w.setCell ⟨B, j, none⟩ u).heap[b]? = w.heap[b]? := by
  by_cases hb : b < w.heap.size
  · exact (grown_set w B j u).block b hb (by simp [h])
  · have h1 : w.heap[b]? = none := Array.getElem?_eq_none (by omega)
    have h2 : (w.setCell ⟨B, j, none⟩ u).heap[b]? = none := Array.getElem?_eq_none (by simp; omega)
    rw [h1, h2]
theorem tabTo_zero (ll : List (List Int)) : tabTo ll 0 = ptZ := by funext i; simp [tabTo, ptZ]
theorem tabTo_all (ll : List (List Int)) : ptA (tabTo ll 8) = ptA (tabF ll) := ptA_congr (fun i hi => by simp [tabTo, tabF, hi])
theorem tabTo_succ (ll : List (List Int)) (k : Nat) : upd (tabTo ll k) k (ipOf (ll.getD k [])) = tabTo ll (k + 1) := by
  funext i
  unfold upd tabTo
  by_cases h : i = k
  · subst h; simp
  · by_cases h2 : i < k
    · simp [h, h2, show i < k + 1 by omega]
    · simp [h, h2, show ¬ i < k + 1 by omega]
theorem tabOk_no {ll : List (List Int)} {k : Nat} (hk : k < 8) (h : pairOkB (ll.getD k []) = false) : tabOkB ll = false := by
  unfold tabOkB
  have : (List.range 8).all (fun i => pairOkB (ll.getD i [])) = false := by
    rw [List.all_eq_false]
    exact ⟨k, by simpa using hk, by rw [h]; simp⟩
  rw [this, Bool.and_false]
theorem tabOk_yes {ll : List (List Int)} (h8 : ll.length = 8) (h : ∀ i, i < 8 → pairOkB (ll.getD i []) = true) : tabOkB ll = true := by
  unfold tabOkB
  rw [decide_eq_true h8, Bool.true_and, List.all_eq_true]
  exact fun i hi => h i (by simpa using hi)
theorem ok_next {ll : List (List Int)} {k : Nat} (h : ∀ i, i < k → pairOkB (ll.getD i []) = true) (hk : pairOkB (ll.getD k []) = true) : ∀ i, i < k + 1 → pairOkB (ll.getD i []) = true := fun i hi => by
  rcases Nat.lt_succ_iff_lt_or_eq.1 hi with h' | h'
  · exact h i h'
  · subst h'; exact hk
theorem results_pt {fn : Func} {p q : Tmp} (h : fn.results = #[.cell p 108, .tmp q]) (tmps : Array Value) (w : World) (g : Nat) (f : Pt) (hp : tmps.getD p undef = .pointer (some ⟨g, 0, none⟩)) (hg : w.heap[g]? = some (.cells (ptA f) 108 (0, 0))) :
    (results fn tmps).run Try.prog w = .ok (.tuple #[ptv f, tmps.getD q undef]) w := by
  have hp' : tmps[p]?.getD undef = .pointer (some ⟨g, 0, none⟩) := by simpa using hp
  simp [results, h, hp', asAddr, run_loadVar_row w g 108 108 (ptA f) (0, 0) _ hg ptU rfl (ptIf f)]

set_option maxRecDepth 100000 in
set_option maxHeartbeats 4000000 in
theorem pairTableFrom_any (o : Option Addr) (cap : Nat) (ll : List (List Int)) (w : World) (hR : RdLL w.heap.size w o ll) (hl : ll.length ≤ 1048576) (hx : ∀ i, i < ll.length → (ll.getD i []).length ≤ 1048576) :
    Calls Try.prog 105 #[.slice o ll.length cap] w fun e w' => e = .returned (.tuple #[ptv (if tabOkB ll = true then tabF ll else ptZ), .bool (tabOkB ll)]) ∧ Below w.heap.size w w' := by
  obtain ⟨W0, hW0⟩ : ∃ W, ((w.alloc (.cells #[.bool false, .int .i64 0, .int .i64 0, .bool false, .int .i64 0, .int .i64 0, .bool false, .int .i64 0, .int .i64 0, .bool false, .int .i64 0, .int .i64 0, .bool false, .int .i64 0, .int .i64 0, .bool false, .int .i64 0, .int .i64 0, .bool false, .int .i64 0, .int .i64 0, .bool false, .int .i64 0, .int .i64 0] 108)).alloc (.cells #[.bool false, .int .i64 0, .int .i64 0, .bool false, .int .i64 0, .int .i64 0, .bool false, .int .i64 0, .int .i64 0, .bool false, .int .i64 0, .int .i64 0, .bool false, .int .i64 0, .int .i64 0, .bool false, .int .i64 0, .int .i64 0, .bool false, .int .i64 0, .int .i64 0, .bool false, .int .i64 0, .int .i64 0] 108)) = W := ⟨_, rfl⟩
  have hb0 : Below w.heap.size w W0 := by rw [← hW0]; exact ((Below.refl _ _).alloc (Nat.le_refl _) _).alloc (by simp) _
  have hz2 : W0.heap[w.heap.size]? = some (.cells (ptA ptZ) 108 (0, 0)) := by rw [← hW0]; exact box_old2 w _ _ _
  have hz4 : W0.heap[w.heap.size + 1]? = some (.cells (ptA ptZ) 108 (0, 0)) := by rw [← hW0]; exact box_new2 w _ _ _
  have hs0 : W0.heap.size = w.heap.size + 1 + 1 := by rw [← hW0]; simp
  have HB0 := hide hb0
  have HZ2 := hide hz2
  have HZ4 := hide hz4
  clear hb0 hz2 hz4
  by_cases h8 : ll.length = 8
  · rw [h8]
    have H8 := hide h8
    clear h8 hl
    have HR := hide hR
    have HX := hide hx
    clear hR hx
    obtain ⟨A, hA⟩ : ∃ A, (.tuple #[ptv (if tabOkB ll = true then tabF ll else ptZ), .bool (tabOkB ll)] : Value) = A := ⟨_, rfl⟩
    rw [hA]
    have HA := hide hA
    clear hA
    go_enter Try.func105, Try.ntmps105
    go_wp2
    go_loopw [15] (fun iv wr => ∃ k : Nat, k ≤ 8 ∧ iv = .int .i64 (k : Int) ∧ Hid (wr.heap[w.heap.size]? = some (.cells (ptA ptZ) 108 (0, 0))) ∧ Hid (wr.heap[w.heap.size + 1]? = some (.cells (ptA (tabTo ll k)) 108 (0, 0))) ∧ Hid (∀ i, i < k → pairOkB (ll.getD i []) = true) ∧ Hid (Below w.heap.size w wr))
      (fun iv _ => 8 - (intOf iv).toNat)
    case atStart => exact ⟨0, Nat.zero_le _, rfl, HZ2.out, by rw [tabTo_zero]; exact HZ4.out, fun i hi => absurd hi (Nat.not_lt_zero _), HB0.out⟩
    case round =>
      obtain ⟨k, hk, rfl, H2, H4, HOK, HBr⟩ := hrel
      clear HZ2 HZ4 HB0 hs0 hW0
      have hs4 := (Array.getElem?_eq_some_iff.1 H4.out).1
      by_cases hlt : k < 8
      · have hlt' : (k : Int) < 8 := by omega
        obtain ⟨b, off, o', c', rfl, hb, hc, hr⟩ := ((HR.out.kept HBr.out (Nat.le_refl _)).le HBr.out.size).at (Nat.le_refl _) k (by rw [H8.out]; exact hlt)
        have hp := idPairFrom_any o' c' (ll.getD k []) wr hr (HX.out k (by rw [H8.out]; exact hlt))
        clear hr
        cases hq : pairOkB (ll.getD k []) with
        | false =>
          rw [hq] at hp
          simp only [Bool.false_eq_true, if_false] at hp
          have hA' : A = .tuple #[ptv ptZ, .bool false] := by rw [← HA.out, tabOk_no hlt hq]; rfl
          clear hq HA
          subst hA'
          generalize (ll.getD k []).length = q at *
          go_wp2_with fail
          refine hp.mono ?_
          rintro e v1 ⟨rfl, hb1⟩
          have h2 := hide ((hb1.block _ (show w.heap.size < wr.heap.size by omega)).trans H2.out)
          have HB1 := hide (HBr.out.trans (hb1.mono HBr.out.size))
          have hs1 := hb1.size
          clear hb1 hp
          have H2' : Hid ((v1.alloc (.cells #[.bool false, .int .i64 0, .int .i64 0] 106)).heap[w.heap.size]? = some (.cells (ptA ptZ) 108 (0, 0))) := (Below.heap_alloc _ _ _ (by omega)).trans h2.out
          have HB2 : Hid (Below w.heap.size w (v1.alloc (.cells #[.bool false, .int .i64 0, .int .i64 0] 106))) := HB1.out.alloc HB1.out.size _
          clear HB1 h2
          go_wp2_with (first | (refine wpList_store_pt rfl (.tmp 2) (.tmp 27) rfl w.heap.size ptZ ptZ rfl rfl H2'.out ?_))
          refine bodyPost_ret (results_pt rfl _ _ w.heap.size ptZ rfl (setRow_heap _ _ _ _ _ _ H2'.out)) rfl ⟨rfl, below_row HB2.out (Nat.le_refl _) _⟩
        | true =>
          rw [hq] at hp
          simp only [if_true] at hp
          have HQ := hide hq
          have HS := hide (tabTo_succ ll k)
          obtain ⟨p, hpe⟩ : ∃ p, ipOf (ll.getD k []) = p := ⟨_, rfl⟩
          rw [hpe] at hp HS
          clear hpe hq
          obtain ⟨s, x, y⟩ := p
          generalize (ll.getD k []).length = q at *
          go_wp2_with fail
          refine hp.mono ?_
          rintro e v1 ⟨rfl, hb1⟩
          have h2 := hide ((hb1.block _ (show w.heap.size < wr.heap.size by omega)).trans H2.out)
          have h4 := hide ((hb1.block _ hs4).trans H4.out)
          have HB1 := hide (HBr.out.trans (hb1.mono HBr.out.size))
          have hs1 := hb1.size
          clear hb1 hp
          obtain ⟨W1, hW1⟩ : ∃ W, v1.alloc (.cells #[.bool s, .int .i64 x, .int .i64 y] 106) = W := ⟨_, rfl⟩
          have h2' : W1.heap[w.heap.size]? = some (.cells (ptA ptZ) 108 (0, 0)) := by rw [← hW1]; exact (Below.heap_alloc _ _ _ (by omega)).trans h2.out
          have h4' : W1.heap[w.heap.size + 1]? = some (.cells (ptA (tabTo ll k)) 108 (0, 0)) := by rw [← hW1]; exact (Below.heap_alloc _ _ _ (by omega)).trans h4.out
          have u0 : W1.cell? ⟨v1.heap.size, 0, none⟩ = some (.bool s) := by rw [← hW1]; simp [go_sem]
          have u1 : W1.cell? ⟨v1.heap.size, 1, none⟩ = some (.int .i64 x) := by rw [← hW1]; simp [go_sem]
          have u2 : W1.cell? ⟨v1.heap.size, 2, none⟩ = some (.int .i64 y) := by rw [← hW1]; simp [go_sem]
          have HB2 : Hid (Below w.heap.size w W1) := by rw [← hW1]; exact HB1.out.alloc HB1.out.size _
          obtain ⟨q0, e0⟩ := ptA_get (tabTo ll k) (k * 3) (by omega)
          obtain ⟨q1, e1⟩ := ptA_get (tabTo ll k) (k * 3 + 1) (by omega)
          obtain ⟨q2, e2⟩ := ptA_get (tabTo ll k) (k * 3 + 2) (by omega)
          have a0 : W1.cell? ⟨w.heap.size + 1, k * 3, none⟩ = some q0 := bx_cell h4' _ _ e0
          have g0 := bx_frozen h4' (k * 3)
          have h5 := box_put h4' (k * 3) (.bool s)
          obtain ⟨W2, hW2⟩ : ∃ W, W1.setCell ⟨w.heap.size + 1, k * 3, none⟩ (.bool s) = W := ⟨_, rfl⟩
          rw [hW2] at h5
          have a1 : W2.cell? ⟨w.heap.size + 1, k * 3 + 1, none⟩ = some q1 := bx_cell h5 _ _ (by rw [Array.getElem?_setIfInBounds_ne (by omega)]; exact e1)
          have g1 := bx_frozen h5 (k * 3 + 1)
          have h6 := box_put h5 (k * 3 + 1) (.int .i64 x)
          obtain ⟨W3, hW3⟩ : ∃ W, W2.setCell ⟨w.heap.size + 1, k * 3 + 1, none⟩ (.int .i64 x) = W := ⟨_, rfl⟩
          rw [hW3] at h6
          have a2 : W3.cell? ⟨w.heap.size + 1, k * 3 + 2, none⟩ = some q2 := bx_cell h6 _ _ (by rw [Array.getElem?_setIfInBounds_ne (by omega), Array.getElem?_setIfInBounds_ne (by omega)]; exact e2)
          have g2 := bx_frozen h6 (k * 3 + 2)
          have h7 := box_put h6 (k * 3 + 2) (.int .i64 y)
          obtain ⟨W4, hW4⟩ : ∃ W, W3.setCell ⟨w.heap.size + 1, k * 3 + 2, none⟩ (.int .i64 y) = W := ⟨_, rfl⟩
          rw [hW4] at h7
          have H4n : Hid (W4.heap[w.heap.size + 1]? = some (.cells (ptA (tabTo ll (k + 1))) 108 (0, 0))) := by rw [← HS.out, ← ptA_upd]; exact h7
          have H2n : Hid (W4.heap[w.heap.size]? = some (.cells (ptA ptZ) 108 (0, 0))) := by
            rw [← hW4, ← hW3, ← hW2]
            exact (far_block (by omega) _ _).trans ((far_block (by omega) _ _).trans ((far_block (by omega) _ _).trans h2'))
          have HBn : Hid (Below w.heap.size w W4) := by
            rw [← hW4, ← hW3, ← hW2]
            exact ((HB2.out.setCell (p := ⟨w.heap.size + 1, k * 3, none⟩) (Nat.le_succ _) _).setCell (p := ⟨w.heap.size + 1, k * 3 + 1, none⟩) (Nat.le_succ _) _).setCell (p := ⟨w.heap.size + 1, k * 3 + 2, none⟩) (Nat.le_succ _) _
          clear h5 h6 h7 h4' h2' e0 e1 e2 h2 h4 HB1 HB2 HS
          go_wp2
          go_roundw
          case rel => exact ⟨k + 1, by omega, by go_num, H2n.out, H4n.out, (ok_next HOK.out HQ.out), HBn.out⟩
          case measure => simp [intOf]; omega
      · have e : k = 8 := by omega
        subst e
        have hA' : A = .tuple #[ptv (tabTo ll 8), .bool true] := by rw [← HA.out, tabOk_yes H8.out HOK.out, if_pos rfl]; unfold ptv; rw [tabTo_all]
        clear HA
        subst hA'
        go_wp2_with (first | (refine wpList_load_pt rfl (.tmp 4) rfl (w.heap.size + 1) rfl _ H4.out ?_) | (refine wpList_store_pt rfl (.tmp 2) (.tmp 32) rfl w.heap.size _ ptZ rfl rfl H2.out ?_))
        refine bodyPost_ret (results_pt rfl _ _ w.heap.size _ rfl (setRow_heap _ _ _ _ _ _ H2.out)) rfl ⟨rfl, below_row HBr.out (Nat.le_refl _) _⟩
  · rw [show tabOkB ll = false by unfold tabOkB; rw [decide_eq_false h8, Bool.false_and]]
    simp only [Bool.false_eq_true, if_false]
    have h8' : ((ll.length : Int) == 8) = false := beq_eq_false_iff_ne.2 (by omega)
    have h8n : ¬ ((ll.length : Int) = 8) := by omega
    go_enter Try.func105, Try.ntmps105
    go_wp2_with (first | (refine wpList_load_pt rfl (.tmp 4) rfl (w.heap.size + 1) rfl _ HZ4.out ?_) | (refine wpList_store_pt rfl (.tmp 2) (.tmp 12) rfl w.heap.size _ ptZ rfl rfl HZ2.out ?_))
    refine bodyPost_ret (results_pt rfl _ _ w.heap.size _ rfl (setRow_heap _ _ _ _ _ _ HZ2.out)) rfl ⟨rfl, below_row HB0.out (Nat.le_refl _) _⟩

end Go.Proofs.Ytldjaapbkihibaa

/- Rows of rows: how they read, and what owns its memory, each row in blocks of its own. -/
namespace Go.Proofs.Ytldjaapbkihibaa
open Go.ChangeShapes Go.WideShapes Go.ChangeAt Go.RowKit Go.Joins
set_option linter.unusedVariables false
set_option linter.unusedSimpArgs false

theorem Stp.cell {lo hi : Nat} {w w' : World} {p : Addr} {u : Value} (s : Stp lo hi w w') (h : w.cell? p = some u) (hk : p.block < lo ∨ hi ≤ p.block) : w'.cell? p = some u := by
  have hlt : p.block < w.heap.size := by
    rcases Nat.lt_or_ge p.block w.heap.size with h' | h'
    · exact h'
    · simp [World.cell?, Array.getElem?_eq_none h'] at h
  have e := s.block p.block hlt hk
  simp only [World.cell?, e] at h ⊢
  exact h
/-- A slice that reads as l, its block from lo on, below hi. -/
def RiV {α : Type} (L : Lay α) (lo hi : Nat) (w : World) (v : Value) (l : List α) : Prop := ∃ o c, v = .slice o l.length c ∧ RdLo L lo hi w o l
theorem RiV.step {α : Type} {L : Lay α} {a b lo hi : Nat} {w w' : World} {v : Value} {l : List α} (h : RiV L a b w v l) (s : Stp lo hi w w') (hd : hi ≤ a ∨ b ≤ lo) : RiV L a b w' v l := by
  obtain ⟨o, c, e, r⟩ := h
  refine ⟨o, c, e, ?_⟩
  rcases r with r | ⟨g, off, ho, h0, h1, r⟩
  · exact .inl r
  · refine .inr ⟨g, off, ho, h0, h1, fun i hi' j hj => ?_⟩
    have h := r i hi' j hj
    have hl : (L.cs (l.getD i L.d)).length = L.k := L.len _
    rw [List.getElem?_eq_getElem (by omega)] at h ⊢
    exact s.cell h (by simp only; omega)
theorem RiV.mono {α : Type} {L : Lay α} {a b a' b' : Nat} {w : World} {v : Value} {l : List α} (h : RiV L a b w v l) (h1 : a' ≤ a) (h2 : b ≤ b') : RiV L a' b' w v l := by
  obtain ⟨o, c, e, r⟩ := h
  refine ⟨o, c, e, ?_⟩
  rcases r with r | ⟨g, off, ho, h3, h4, r⟩
  · exact .inl r
  · exact .inr ⟨g, off, ho, by omega, by omega, r⟩
theorem RiV.open {α : Type} {L : Lay α} {a b : Nat} {w : World} {v : Value} {l : List α} (h : RiV L a b w v l) : ∃ o c, v = .slice o l.length c ∧ RdL L b w o l := by
  obtain ⟨o, c, e, r⟩ := h
  exact ⟨o, c, e, r.rd⟩
theorem RiV.of {α : Type} {L : Lay α} {C : Nat} {w : World} {o : Option Addr} {c : Nat} {l : List α} (h : RdL L C w o l) : RiV L 0 C w (.slice o l.length c) l := by
  refine ⟨o, c, rfl, ?_⟩
  rcases h with h | ⟨g, off, ho, h1, r⟩
  · exact .inl h
  · exact .inr ⟨g, off, ho, Nat.zero_le _, h1, r⟩
theorem InRow.ri {α : Type} {L : Lay α} {e : TypeId} {lo hi : Nat} {w : World} {v : Value} {l : List α} (h : InL L e lo hi w v l) : RiV L lo hi w v l := by
  obtain ⟨o, c, e1, r⟩ := InL.rd (L := L) h
  refine ⟨o, c, e1, ?_⟩
  rcases r with r | ⟨g, off, ho, h1, r⟩
  · exact .inl r
  · refine .inr ⟨g, off, ho, (h.1.lt g (by rw [e1, ho]; rfl)).1, h1, r⟩
/-- A slice of slices. -/
def RiRows {α : Type} (Q : Nat → Nat → World → Value → α → Prop) (d : α) (lo hi : Nat) (w : World) (v : Value) (xs : List α) : Prop := ∃ hs : List Hd, hs.length = xs.length ∧ RiV layH lo hi w v hs ∧ ∀ i, i < xs.length → Q lo hi w (hv hs i) (xs.getD i d)
/-- What a step elsewhere leaves. -/
structure Stps {α : Type} (Q : Nat → Nat → World → Value → α → Prop) : Prop where
  go : ∀ {a b lo hi : Nat} {w w' : World} {v : Value} {x : α}, Q a b w v x → Stp lo hi w w' → (hi ≤ a ∨ b ≤ lo) → Q a b w' v x
structure Monos {α : Type} (Q : Nat → Nat → World → Value → α → Prop) : Prop where
  go : ∀ {a b a' b' : Nat} {w : World} {v : Value} {x : α}, Q a b w v x → a' ≤ a → b ≤ b' → Q a' b' w v x
theorem RiRows.step {α : Type} {Q : Nat → Nat → World → Value → α → Prop} {d : α} (hQ : Stps Q) : Stps (RiRows Q d) := ⟨fun ⟨hs, h0, h1, h2⟩ s hd => ⟨hs, h0, h1.step s hd, fun i hi => hQ.go (h2 i hi) s hd⟩⟩
theorem RiRows.mono {α : Type} {Q : Nat → Nat → World → Value → α → Prop} {d : α} (hQ : Monos Q) : Monos (RiRows Q d) := ⟨fun ⟨hs, h0, h1, h2⟩ k1 k2 => ⟨hs, h0, h1.mono k1 k2, fun i hi => hQ.go (h2 i hi) k1 k2⟩⟩
abbrev RiI := RiV layI
abbrev RiT := RiRows RiI []
abbrev RiR := RiRows RiT []
theorem RiI.stp : Stps RiI := ⟨fun h s hd => RiV.step h s hd⟩
theorem RiI.mon : Monos RiI := ⟨fun h h1 h2 => RiV.mono h h1 h2⟩
theorem RiT.stp : Stps RiT := RiRows.step RiI.stp
theorem RiT.mon : Monos RiT := RiRows.mono RiI.mon
theorem RiR.stp : Stps RiR := RiRows.step RiT.stp
theorem RiR.mon : Monos RiR := RiRows.mono RiT.mon
theorem RiT.rd {a b : Nat} {w : World} {v : Value} {ll : List (List Int)} (h : RiT a b w v ll) : ∃ o c, v = .slice o ll.length c ∧ RdLL b w o ll := by
  obtain ⟨hs, h0, h1, h2⟩ := h
  obtain ⟨o, c, e, r⟩ := h1.open
  refine ⟨o, c, by rw [e, h0], hs, h0, r, fun i hi => ?_⟩
  obtain ⟨o', c', e', r'⟩ := (h2 i hi).open
  unfold hv at e'
  injection e' with e1 e2 e3
  exact ⟨e2, by rw [e1]; exact r'⟩
theorem RiT.of {C : Nat} {w : World} {o : Option Addr} {c : Nat} {ll : List (List Int)} (h : RdLL C w o ll) : RiT 0 C w (.slice o ll.length c) ll := by
  obtain ⟨hs, h0, r, h2⟩ := h
  refine ⟨hs, h0, by rw [← h0]; exact RiV.of r, fun i hi => ?_⟩
  have h3 := RiV.of (c := (hs.getD i (none, 0, 0)).2.2) (h2 i hi).2
  unfold hv
  rw [(h2 i hi).1]
  exact h3
/-- The head of table i, and how the table reads. -/
theorem RiR.at {a C : Nat} {w : World} {o : Option Addr} {n c : Nat} {lll : List (List (List Int))} (h : RiR a C w (.slice o n c) lll) (hC : C ≤ w.heap.size) (i : Nat) (hi : i < lll.length) :
    ∃ b off o' c', o = some ⟨b, off, none⟩ ∧ b < w.heap.size ∧ w.cell? ⟨b, off + i, none⟩ = some (.slice o' (lll.getD i []).length c') ∧ RdLL w.heap.size w o' (lll.getD i []) := by
  obtain ⟨hs, h0, h1, h2⟩ := h
  obtain ⟨o1, c1, e, r⟩ := h1.open
  injection e with e1 e2 e3
  subst e1
  rcases r with r | ⟨b, off, ho, hb, r⟩
  · subst r; simp at h0; omega
  · have hc := RdL.head r i (by omega)
    obtain ⟨o', c', e', r'⟩ := RiT.rd (h2 i hi)
    unfold hv at e'
    rw [e'] at hc
    exact ⟨b, off, o', c', ho, Nat.lt_of_lt_of_le hb hC, hc, r'.le hC⟩

/-- The rows, each in blocks of its own. -/
structure Rw {α : Type} (Q : Nat → Nat → World → Value → α → Prop) (d : α) (xs : List α) (lo hi : Nat) (w : World) (hs : List Hd) (L H : Nat → Nat) : Prop where
  len : hs.length = xs.length
  bd : ∀ i, i < xs.length → lo ≤ L i ∧ H i ≤ hi
  sep : ∀ i j, i < j → j < xs.length → H i ≤ L j
  row : ∀ i, i < xs.length → Q (L i) (H i) w (hv hs i) (xs.getD i d)
theorem Rw.nil {α : Type} (Q : Nat → Nat → World → Value → α → Prop) (d : α) (lo hi : Nat) (w : World) (L H : Nat → Nat) : Rw Q d [] lo hi w [] L H := ⟨rfl, fun i h => absurd h (Nat.not_lt_zero _), fun i j _ h => absurd h (Nat.not_lt_zero _), fun i h => absurd h (Nat.not_lt_zero _)⟩
theorem Rw.step {α : Type} {Q : Nat → Nat → World → Value → α → Prop} {d : α} {xs : List α} {a b lo hi : Nat} {w w' : World} {hs : List Hd} {L H : Nat → Nat} (hQ : Stps Q) (h : Rw Q d xs a b w hs L H) (s : Stp lo hi w w') (hd : ∀ i, i < xs.length → hi ≤ L i ∨ H i ≤ lo) : Rw Q d xs a b w' hs L H :=
  ⟨h.len, h.bd, h.sep, fun i hi' => hQ.go (h.row i hi') s (hd i hi')⟩
theorem Rw.kept {α : Type} {Q : Nat → Nat → World → Value → α → Prop} {d : α} {xs : List α} {a b : Nat} {w w' : World} {hs : List Hd} {L H : Nat → Nat} (hQ : Stps Q) (h : Rw Q d xs a b w hs L H) (hb : Below w.heap.size w w') : Rw Q d xs a b w' hs L H :=
  h.step hQ (Stp.of (lo := 0) (hi := 0) hb) (fun i _ => .inl (Nat.zero_le _))
theorem Rw.mono {α : Type} {Q : Nat → Nat → World → Value → α → Prop} {d : α} {xs : List α} {a b a' b' : Nat} {w : World} {hs : List Hd} {L H : Nat → Nat} (h : Rw Q d xs a b w hs L H) (h1 : a' ≤ a) (h2 : b ≤ b') : Rw Q d xs a' b' w hs L H :=
  ⟨h.len, fun i hi => ⟨Nat.le_trans h1 (h.bd i hi).1, Nat.le_trans (h.bd i hi).2 h2⟩, h.sep, h.row⟩
/-- One more row. -/
theorem Rw.snoc {α : Type} {Q : Nat → Nat → World → Value → α → Prop} {d : α} {xs : List α} {lo b l2 h2 : Nat} {w : World} {hs : List Hd} {L H : Nat → Nat} {o : Option Addr} {m c : Nat} {x : α} (h : Rw Q d xs lo b w hs L H) (hb : b ≤ l2) (hlo : lo ≤ l2) (hl : l2 ≤ h2) (q : Q l2 h2 w (.slice o m c) x) :
    Rw Q d (xs ++ [x]) lo h2 w (hs ++ [(o, m, c)]) (fun i => if i < xs.length then L i else l2) (fun i => if i < xs.length then H i else h2) := by
  have hl' := h.len
  refine ⟨by simp [hl'], fun i hi => ?_, fun i j hij hj => ?_, fun i hi => ?_⟩
  · by_cases hi' : i < xs.length
    · have := h.bd i hi'; simp only [hi', if_true]; omega
    · simp only [hi', if_false]; omega
  · simp at hj
    have hi' : i < xs.length := by omega
    by_cases hj' : j < xs.length
    · simp only [hi', hj', if_true]; exact h.sep i j hij hj'
    · have := h.bd i hi'; simp only [hi', hj', if_true, if_false]; omega
  · by_cases hi' : i < xs.length
    · have e1 : (xs ++ [x]).getD i d = xs.getD i d := by rw [List.getD_eq_getElem?_getD, List.getElem?_append_left hi', ← List.getD_eq_getElem?_getD]
      simp only [hi', if_true]
      rw [hv_left (by omega), e1]; exact h.row i hi'
    · have e0 : i = xs.length := by simp at hi; omega
      subst e0
      have e1 : (xs ++ [x]).getD xs.length d = x := by simp
      simp only [Nat.lt_irrefl, if_false]
      rw [e1, ← hl', hv_last]; exact q
/-- A row is turned. -/
theorem Rw.mark {α : Type} {Q : Nat → Nat → World → Value → α → Prop} {d : α} {xs : List α} {a b : Nat} {w w' : World} {hs : List Hd} {L H : Nat → Nat} (hQ : Stps Q) (h : Rw Q d xs a b w hs L H) {i : Nat} (hi : i < xs.length) {y : α} (s : Stp (L i) (H i) w w') (q : Q (L i) (H i) w' (hv hs i) y) : Rw Q d (xs.set i y) a b w' hs L H := by
  refine ⟨by rw [List.length_set]; exact h.len, fun j hj => h.bd j (by simpa using hj), fun j k hjk hk => h.sep j k hjk (by simpa using hk), fun j hj => ?_⟩
  have hj' : j < xs.length := by simpa using hj
  by_cases e : j = i
  · subst e
    have e1 : (xs.set j y).getD j d = y := by simp [List.getD_eq_getElem?_getD, hj']
    rw [e1]; exact q
  · have e' : ¬ i = j := fun h => e h.symm
    have e1 : (xs.set i y).getD j d = xs.getD j d := by simp [List.getD_eq_getElem?_getD, List.getElem?_set, e']
    rw [e1]
    refine hQ.go (h.row j hj') s ?_
    rcases Nat.lt_or_ge j i with h' | h'
    · exact .inr (h.sep j i h' hi)
    · exact .inl (h.sep i j (by omega) hj')
def outB (v : Value) (n : Nat) (L H : Nat → Nat) : Prop := ∀ i, i < n → ∀ b, v.ownBlock = some b → b < L i ∨ H i ≤ b
/-- A slice of slices that owns its memory, each row in blocks of its own. -/
def InRows {α : Type} (Q : Nat → Nat → World → Value → α → Prop) (d : α) (T : TypeId) (lo hi : Nat) (w : World) (v : Value) (xs : List α) : Prop := ∃ hs L H, InL layH T lo hi w v hs ∧ Rw Q d xs lo hi w hs L H ∧ outB v xs.length L H
theorem InRows.step {α : Type} {Q : Nat → Nat → World → Value → α → Prop} {d : α} {T : TypeId} (hQ : Stps Q) : Stps (InRows Q d T) := ⟨fun ⟨hs, L, H, h0, h1, h2⟩ s hd =>
  ⟨hs, L, H, InRow.step h0 s hd, h1.step hQ s (fun i hi => by have := h1.bd i hi; omega), h2⟩⟩
theorem InRows.mono {α : Type} {Q : Nat → Nat → World → Value → α → Prop} {d : α} {T : TypeId} : Monos (InRows Q d T) := ⟨fun ⟨hs, L, H, h0, h1, h2⟩ k1 k2 =>
  ⟨hs, L, H, InRow.mono h0 k1 k2, h1.mono k1 k2, h2⟩⟩
theorem InRows.ri {α : Type} {Q Q' : Nat → Nat → World → Value → α → Prop} {d : α} {T : TypeId} (hm : Monos Q') (hq : ∀ {lo hi : Nat} {w : World} {v : Value} {x : α}, Q lo hi w v x → Q' lo hi w v x) {lo hi : Nat} {w : World} {v : Value} {xs : List α} (h : InRows Q d T lo hi w v xs) : RiRows Q' d lo hi w v xs := by
  obtain ⟨hs, L, H, h0, h1, h2⟩ := h
  exact ⟨hs, h1.len, InRow.ri h0, fun i hi => hm.go (hq (h1.row i hi)) (h1.bd i hi).1 (h1.bd i hi).2⟩
abbrev InI := InL layI 3
abbrev InT := InRows InI [] 43
abbrev InR := InRows InT [] 37
theorem InI.stp : Stps InI := ⟨fun h s hd => InRow.step h s hd⟩
theorem InT.stp : Stps InT := InRows.step InI.stp
theorem InR.stp : Stps InR := InRows.step InT.stp
theorem InT.ri {lo hi : Nat} {w : World} {v : Value} {ll : List (List Int)} (h : InT lo hi w v ll) : RiT lo hi w v ll := InRows.ri RiI.mon (fun q => InRow.ri q) h
theorem InR.ri {lo hi : Nat} {w : World} {v : Value} {ll : List (List (List Int))} (h : InR lo hi w v ll) : RiR lo hi w v ll := InRows.ri RiT.mon (fun q => InT.ri q) h

end Go.Proofs.Ytldjaapbkihibaa

/- The laws' own helpers over rows of rows of rows: marks, what is held, sameness. -/
namespace Go.Proofs.Ytldjaapbkihibaa
open Go.ChangeShapes Go.WideShapes Go.ChangeAt Go.RowKit Go.Joins
set_option linter.unusedVariables false
set_option linter.unusedSimpArgs false

def sumN (S : Nat → Nat) : Nat → Nat
  | 0 => 0
  | n + 1 => sumN S n + S n
theorem sumN_le (S : Nat → Nat) {i n : Nat} (h : i ≤ n) : sumN S i ≤ sumN S n := by
  induction n with
  | zero => have : i = 0 := by omega
            subst this; exact Nat.le_refl _
  | succ n ih =>
    by_cases h' : i ≤ n
    · have := ih h'; show sumN S i ≤ sumN S n + S n; omega
    · have : i = n + 1 := by omega
      subst this; exact Nat.le_refl _
theorem sumN_at (S : Nat → Nat) {i n : Nat} (h : i < n) : sumN S i + S i ≤ sumN S n := sumN_le S (show i + 1 ≤ n from h)
theorem sumN_bd (S : Nat → Nat) (m : Nat) (h : ∀ i, S i ≤ m) : ∀ n, sumN S n ≤ m * n
  | 0 => Nat.zero_le _
  | n + 1 => by have := sumN_bd S m h n; have := h n; unfold sumN; rw [Nat.mul_succ]; omega
def lenT (ll : List (List Int)) (i : Nat) : Nat := (ll.getD i []).length
def szT (ll : List (List Int)) : Nat := sumN (lenT ll) ll.length
def lenR (lll : List (List (List Int))) (i : Nat) : Nat := szT (lll.getD i [])
def szR (lll : List (List (List Int))) : Nat := sumN (lenR lll) lll.length
def mk2To {α : Type} (f : Nat → α) (xs : List α) (d : α) (i : Nat) : List α := (List.range xs.length).map (fun j => if j < i then f j else xs.getD j d)
theorem mk2To_zero {α : Type} (f : Nat → α) (xs : List α) (d : α) : mk2To f xs d 0 = xs := by
  apply List.ext_getElem
  · simp [mk2To]
  · intro i h1 h2; simp [mk2To, h2]
theorem mk2To_len {α : Type} (f : Nat → α) (xs : List α) (d : α) (i : Nat) : (mk2To f xs d i).length = xs.length := by simp [mk2To]
theorem mk2To_get {α : Type} (f : Nat → α) (xs : List α) (d : α) (i : Nat) (h : i < xs.length) : (mk2To f xs d i).getD i d = xs.getD i d := by simp [mk2To, h]
theorem mk2To_set {α : Type} (f : Nat → α) (xs : List α) (d : α) (i : Nat) : (mk2To f xs d i).set i (f i) = mk2To f xs d (i + 1) := by
  apply List.ext_getElem
  · simp [mk2To]
  · intro j h1 h2
    simp [mk2To] at h1 h2
    by_cases e : i = j
    · subst e; simp [mk2To]
    · by_cases h3 : j < i
      · simp [mk2To, List.getElem_set, e, h3, show j < i + 1 by omega]
      · simp [mk2To, List.getElem_set, e, h3, show ¬ j < i + 1 by omega]
theorem mk2To_all {α : Type} (f : Nat → α) (xs : List α) (d : α) : mk2To f xs d xs.length = (List.range xs.length).map f := by
  unfold mk2To
  exact List.map_congr_left (fun a ha => by simp at ha; simp [ha])
def mkTf (k : Int) (ll : List (List Int)) (j : Nat) : List Int := markI (k + (sumN (lenT ll) j : Int)) (lenT ll j)
def mkT (k : Int) (ll : List (List Int)) : List (List Int) := (List.range ll.length).map (mkTf k ll)
def mkRf (k : Int) (lll : List (List (List Int))) (j : Nat) : List (List Int) := mkT (k + (sumN (lenR lll) j : Int)) (lll.getD j [])
def mkR (k : Int) (lll : List (List (List Int))) : List (List (List Int)) := (List.range lll.length).map (mkRf k lll)
theorem mkT_len (k : Int) (ll : List (List Int)) : (mkT k ll).length = ll.length := by simp [mkT]
theorem mkT_get (k : Int) (ll : List (List Int)) (i : Nat) (h : i < ll.length) : (mkT k ll).getD i [] = mkTf k ll i := by simp [mkT, h]
theorem mkR_len (k : Int) (ll : List (List (List Int))) : (mkR k ll).length = ll.length := by simp [mkR]
theorem mkR_get (k : Int) (ll : List (List (List Int))) (i : Nat) (h : i < ll.length) : (mkR k ll).getD i [] = mkRf k ll i := by simp [mkR, h]
theorem Stp.wide2 {a b lo hi : Nat} {w w' : World} (s : Stp a b w w') (h1 : lo ≤ a) (h2 : b ≤ hi) : Stp lo hi w w' := ⟨s.os, s.tape, s.output, s.size, fun k hk hn => s.block k hk (by omega)⟩

set_option maxRecDepth 100000 in
set_option maxHeartbeats 1000000 in
theorem markIntSS_in (lo hi : Nat) (v : Value) (ll : List (List Int)) (k : Int) (w : World) (h : InT lo hi w v ll) (h0 : 0 ≤ k) (h1 : k + (szT ll : Int) ≤ 10000000) (hn : ll.length ≤ 1048576) (hz : szT ll ≤ 1048576) :
    Calls Try.prog 123 #[v, .int .i64 k] w fun e w' => e = .returned (.int .i64 (k + (szT ll : Int))) ∧ InT lo hi w' v (mkT k ll) ∧ Stp lo hi w w' := by
  obtain ⟨hs, L, H, i0, i1, i2⟩ := h
  have hl := i1.len
  obtain ⟨o, c, e, r⟩ := InL.rd (L := layH) i0
  subst e
  rw [hl] at i0 i2 ⊢
  have HOUT := hide i2
  have HBD := hide i1.bd
  have I0 := hide i0
  have I1 := hide (show Rw InI [] (mk2To (mkTf k ll) ll [] 0) lo hi w hs L H by rw [mk2To_zero]; exact i1)
  have HL := hide hl
  clear i0 i1 i2 r hl
  go_enter Try.func123, Try.ntmps123
  go_wp2
  go_loopw [1, 5] (fun m j wr => ∃ i : Nat, i ≤ ll.length ∧ j = .int .i64 (i : Int) ∧ m = .int .i64 (k + (sumN (lenT ll) i : Int)) ∧ Hid (InL layH 43 lo hi wr (.slice o ll.length c) hs) ∧ Hid (Rw InI [] (mk2To (mkTf k ll) ll [] i) lo hi wr hs L H) ∧ Hid (Stp lo hi w wr))
    (fun _ j _ => ll.length - (intOf j).toNat)
  case atStart => exact ⟨0, Nat.zero_le _, rfl, by simp [sumN], I0.out, I1.out, Stp.refl _⟩
  case round =>
    obtain ⟨i, hi', rfl, rfl, HI, HR, HS⟩ := hrel
    clear I0 I1
    have hsm := sumN_le (lenT ll) hi'
    have hsz : sumN (lenT ll) ll.length = szT ll := rfl
    rw [hsz] at hsm
    clear hsz
    by_cases hlt : i < ll.length
    · obtain ⟨o', c', e', r⟩ := InL.rd (L := layH) HI.out
      injection e' with e1 e2 e3
      rw [← e1] at r
      rcases r with r | ⟨b, off, rfl, hb, r⟩
      · have := HL.out; rw [r] at this; simp at this; omega
      have hc := RdL.head r i (by rw [HL.out]; exact hlt)
      have hrow := HR.out.row i (by rw [mk2To_len]; exact hlt)
      rw [mk2To_get _ _ _ _ hlt] at hrow
      have hsa := sumN_at (lenT ll) hlt
      rw [show sumN (lenT ll) ll.length = szT ll from rfl] at hsa
      have hm := markIntS_any (L i) (hv hs i) (ll.getD i []) (k + (sumN (lenT ll) i : Int)) wr hrow.1 (by omega) (by omega) (by unfold lenT at hsa; omega)
      have HSU := hide (show k + (sumN (lenT ll) i : Int) + ((ll.getD i []).length : Int) = k + (sumN (lenT ll) (i + 1) : Int) by rw [show sumN (lenT ll) (i + 1) = sumN (lenT ll) i + (ll.getD i []).length from rfl]; omega)
      have HLT := hide (fun b e => And.intro (hrow.1.lt b e).1 (hrow.2 b e))
      have HNX := hide (fun w2 (s : Stp (L i) (H i) wr w2) q => Rw.mark InI.stp HR.out (i := i) (by rw [mk2To_len]; exact hlt) s (y := mkTf k ll i) q)
      have HBI := hide (HBD.out i hlt)
      have HRW := hide (hrow.2)
      have z1 : (i : Int) < (ll.length : Int) := by omega
      change wr.cell? ⟨b, off + i, none⟩ = some (hv hs i) at hc
      obtain ⟨q, hq⟩ : ∃ q, (ll.getD i []).length = q := ⟨_, rfl⟩
      rw [hq] at hm HSU
      have HQ := hide hq
      clear hq
      clear hrow r hsa HR e1 e2 e3
      generalize hv hs i = rv at *
      generalize hst : sumN (lenT ll) i = s0 at *
      have HST := hide hst
      clear hst
      go_wp2_with fail
      refine hm.mono ?_
      rintro e w2 ⟨rfl, ho2, hg2⟩
      have HS2 : Hid (Stp (L i) (H i) wr w2) := Stp.grown hg2 HLT.out
      have HO2 := hide (HNX.out w2 HS2.out ⟨by unfold mkTf; rw [HST.out, show lenT ll i = q from HQ.out]; exact ho2, HRW.out⟩)
      have HI2 := hide (InRow.steps HI.out HS2.out (fun g e => HOUT.out i hlt g e))
      clear ho2 hg2 hm hc HNX
      go_wp2
      go_roundw
      case rel => exact ⟨i + 1, by omega, by go_num, by rw [HSU.out], HI2.out, by rw [← mk2To_set]; exact HO2.out, HS.out.trans (HS2.out.wide2 HBI.out.1 HBI.out.2)⟩
      case measure => simp [intOf]; omega
    · have e : i = ll.length := by omega
      subst e
      go_wp2
      go_ret
      exact ⟨rfl, ⟨hs, L, H, HI.out, by unfold mkT; rw [← mk2To_all]; exact HR.out, by rw [mkT_len]; exact HOUT.out⟩, HS.out⟩

end Go.Proofs.Ytldjaapbkihibaa

/- The laws' own helpers over rows of rows of rows: marks, what is held, sameness. -/
namespace Go.Proofs.Ytldjaapbkihibaa
open Go.ChangeShapes Go.WideShapes Go.ChangeAt Go.RowKit Go.Joins
set_option linter.unusedVariables false
set_option linter.unusedSimpArgs false

set_option maxRecDepth 100000 in
set_option maxHeartbeats 1000000 in
theorem markIntSSS_in (lo hi : Nat) (v : Value) (ll : List (List (List Int))) (k : Int) (w : World) (h : InR lo hi w v ll) (h0 : 0 ≤ k) (h1 : k + (szR ll : Int) ≤ 10000000) (hn : ll.length ≤ 1048576) (hz : szR ll ≤ 1048576) (hx : ∀ i, i < ll.length → (ll.getD i []).length ≤ 1048576) :
    Calls Try.prog 92 #[v, .int .i64 k] w fun e w' => e = .returned (.int .i64 (k + (szR ll : Int))) ∧ InR lo hi w' v (mkR k ll) ∧ Stp lo hi w w' := by
  obtain ⟨hs, L, H, i0, i1, i2⟩ := h
  have hl := i1.len
  obtain ⟨o, c, e, r⟩ := InL.rd (L := layH) i0
  subst e
  rw [hl] at i0 i2 ⊢
  have HOUT := hide i2
  have HBD := hide i1.bd
  have I0 := hide i0
  have I1 := hide (show Rw InT [] (mk2To (mkRf k ll) ll [] 0) lo hi w hs L H by rw [mk2To_zero]; exact i1)
  have HL := hide hl
  clear i0 i1 i2 r hl
  go_enter Try.func92, Try.ntmps92
  go_wp2
  go_loopw [1, 5] (fun m j wr => ∃ i : Nat, i ≤ ll.length ∧ j = .int .i64 (i : Int) ∧ m = .int .i64 (k + (sumN (lenR ll) i : Int)) ∧ Hid (InL layH 37 lo hi wr (.slice o ll.length c) hs) ∧ Hid (Rw InT [] (mk2To (mkRf k ll) ll [] i) lo hi wr hs L H) ∧ Hid (Stp lo hi w wr))
    (fun _ j _ => ll.length - (intOf j).toNat)
  case atStart => exact ⟨0, Nat.zero_le _, rfl, by simp [sumN], I0.out, I1.out, Stp.refl _⟩
  case round =>
    obtain ⟨i, hi', rfl, rfl, HI, HR, HS⟩ := hrel
    clear I0 I1
    have hsm := sumN_le (lenR ll) hi'
    have hsz : sumN (lenR ll) ll.length = szR ll := rfl
    rw [hsz] at hsm
    clear hsz
    by_cases hlt : i < ll.length
    · obtain ⟨o', c', e', r⟩ := InL.rd (L := layH) HI.out
      injection e' with e1 e2 e3
      rw [← e1] at r
      rcases r with r | ⟨b, off, rfl, hb, r⟩
      · have := HL.out; rw [r] at this; simp at this; omega
      have hc := RdL.head r i (by rw [HL.out]; exact hlt)
      have hrow := HR.out.row i (by rw [mk2To_len]; exact hlt)
      rw [mk2To_get _ _ _ _ hlt] at hrow
      have hsa := sumN_at (lenR ll) hlt
      rw [show sumN (lenR ll) ll.length = szR ll from rfl] at hsa
      have hsq : szT (ll.getD i []) = lenR ll i := rfl
      have hm := markIntSS_in (L i) (H i) (hv hs i) (ll.getD i []) (k + (sumN (lenR ll) i : Int)) wr hrow (by omega) (by omega) (hx i hlt) (by omega)
      rw [hsq] at hm
      clear hsq
      have HSU := hide (show k + (sumN (lenR ll) i : Int) + (lenR ll i : Int) = k + (sumN (lenR ll) (i + 1) : Int) by rw [show sumN (lenR ll) (i + 1) = sumN (lenR ll) i + lenR ll i from rfl]; omega)
      have HNX := hide (fun w2 (s : Stp (L i) (H i) wr w2) q => Rw.mark InT.stp HR.out (i := i) (by rw [mk2To_len]; exact hlt) s (y := mkRf k ll i) q)
      have HBI := hide (HBD.out i hlt)
      have z1 : (i : Int) < (ll.length : Int) := by omega
      change wr.cell? ⟨b, off + i, none⟩ = some (hv hs i) at hc
      obtain ⟨q, hq⟩ : ∃ q, lenR ll i = q := ⟨_, rfl⟩
      rw [hq] at hm HSU
      have HQ := hide hq
      clear hq
      clear hrow r hsa HR e1 e2 e3
      generalize hv hs i = rv at *
      generalize hst : sumN (lenR ll) i = s0 at *
      have HST := hide hst
      clear hst
      go_wp2_with fail
      refine hm.mono ?_
      rintro e w2 ⟨rfl, ho2, hg2⟩
      have HS2 : Hid (Stp (L i) (H i) wr w2) := hg2
      have HO2 := hide (HNX.out w2 HS2.out (by unfold mkRf; rw [HST.out]; exact ho2))
      have HI2 := hide (InRow.steps HI.out HS2.out (fun g e => HOUT.out i hlt g e))
      clear ho2 hg2 hm hc HNX
      go_wp2
      go_roundw
      case rel => exact ⟨i + 1, by omega, by go_num, by rw [HSU.out], HI2.out, by rw [← mk2To_set]; exact HO2.out, HS.out.trans (HS2.out.wide2 HBI.out.1 HBI.out.2)⟩
      case measure => simp [intOf]; omega
    · have e : i = ll.length := by omega
      subst e
      go_wp2
      go_ret
      exact ⟨rfl, ⟨hs, L, H, HI.out, by unfold mkR; rw [← mk2To_all]; exact HR.out, by rw [mkR_len]; exact HOUT.out⟩, HS.out⟩

set_option maxRecDepth 100000 in
set_option maxHeartbeats 1000000 in
theorem heldIntSS_in (v : Value) (ll : List (List Int)) (k : Int) (w : World) (hT : RiT 0 w.heap.size w v (mkT k ll)) (h0 : 0 ≤ k) (h1 : k + (szT ll : Int) ≤ 10000000) (hn : ll.length ≤ 1048576) (hz : szT ll ≤ 1048576) :
    Calls Try.prog 124 #[v, .int .i64 k] w fun e w' => e = .returned (.int .i64 (k + (szT ll : Int))) ∧ w = w' := by
  obtain ⟨o, c, e, hR⟩ := RiT.rd hT
  subst e
  rw [mkT_len]
  clear hT
  go_enter Try.func124, Try.ntmps124
  go_wp2
  go_loop [1, 5] (fun m j => ∃ i : Nat, i ≤ ll.length ∧ j = .int .i64 (i : Int) ∧ m = .int .i64 (k + (sumN (lenT ll) i : Int)))
    (fun _ j => ll.length - (intOf j).toNat)
  case atStart => exact ⟨0, Nat.zero_le _, rfl, by simp [sumN]⟩
  case round =>
    obtain ⟨i, hi', rfl, rfl⟩ := hrel
    have hsm := sumN_le (lenT ll) hi'
    rw [show sumN (lenT ll) ll.length = szT ll from rfl] at hsm
    by_cases hlt : i < ll.length
    · obtain ⟨b, off, o', c', rfl, hb, hc, hr⟩ := hR.at (Nat.le_refl _) i (by rw [mkT_len]; exact hlt)
      rw [mkT_get _ _ _ hlt] at hc hr
      unfold mkTf at hc hr
      rw [markI_length] at hc
      have hsa := sumN_at (lenT ll) hlt
      rw [show sumN (lenT ll) ll.length = szT ll from rfl] at hsa
      have hh := heldIntS_any o' c' (lenT ll i) w.heap.size (k + (sumN (lenT ll) i : Int)) w hr (by omega) (by omega) (by omega)
      have HS := hide (show k + (sumN (lenT ll) i : Int) + (lenT ll i : Int) = k + (sumN (lenT ll) (i + 1) : Int) by rw [show sumN (lenT ll) (i + 1) = sumN (lenT ll) i + lenT ll i from rfl]; omega)
      have z1 : (i : Int) < (ll.length : Int) := by omega
      clear hr hR
      generalize lenT ll i = q at *
      generalize hst : sumN (lenT ll) i = s0 at *
      clear hst
      go_wp2_with fail
      refine hh.mono ?_
      rintro e w2 ⟨rfl, rfl⟩
      clear hh
      go_wp2
      go_round
      case rel => exact ⟨i + 1, by omega, by go_num, by rw [HS.out]⟩
      case measure => simp [intOf]; omega
    · have e : i = ll.length := by omega
      subst e
      go_wp2
      go_ret
      exact ⟨rfl, rfl⟩

set_option maxRecDepth 100000 in
set_option maxHeartbeats 1000000 in
theorem heldIntSSS_in (v : Value) (ll : List (List (List Int))) (k : Int) (w : World) (hT : RiR 0 w.heap.size w v (mkR k ll)) (h0 : 0 ≤ k) (h1 : k + (szR ll : Int) ≤ 10000000) (hn : ll.length ≤ 1048576) (hz : szR ll ≤ 1048576) (hx : ∀ i, i < ll.length → (ll.getD i []).length ≤ 1048576) :
    Calls Try.prog 94 #[v, .int .i64 k] w fun e w' => e = .returned (.int .i64 (k + (szR ll : Int))) ∧ w = w' := by
  obtain ⟨o, c, e, hle⟩ : ∃ o c, v = .slice o ll.length c ∧ True := by
    obtain ⟨hs, h0, ⟨o, c, e, _⟩, _⟩ := hT
    exact ⟨o, c, by rw [e, h0, mkR_len], trivial⟩
  subst e
  go_enter Try.func94, Try.ntmps94
  go_wp2
  go_loop [1, 5] (fun m j => ∃ i : Nat, i ≤ ll.length ∧ j = .int .i64 (i : Int) ∧ m = .int .i64 (k + (sumN (lenR ll) i : Int)))
    (fun _ j => ll.length - (intOf j).toNat)
  case atStart => exact ⟨0, Nat.zero_le _, rfl, by simp [sumN]⟩
  case round =>
    obtain ⟨i, hi', rfl, rfl⟩ := hrel
    have hsm := sumN_le (lenR ll) hi'
    rw [show sumN (lenR ll) ll.length = szR ll from rfl] at hsm
    by_cases hlt : i < ll.length
    · obtain ⟨b, off, o', c', rfl, hb, hc, hr⟩ := hT.at (Nat.le_refl _) i (by rw [mkR_len]; exact hlt)
      rw [mkR_get _ _ _ hlt] at hc hr
      unfold mkRf at hc hr
      have hsa := sumN_at (lenR ll) hlt
      rw [show sumN (lenR ll) ll.length = szR ll from rfl] at hsa
      have hsq : szT (ll.getD i []) = lenR ll i := rfl
      have hh := heldIntSS_in (.slice o' (mkT (k + (sumN (lenR ll) i : Int)) (ll.getD i [])).length c') (ll.getD i []) (k + (sumN (lenR ll) i : Int)) w (RiT.of hr) (by omega) (by omega) (hx i hlt) (by omega)
      rw [hsq] at hh
      have HS := hide (show k + (sumN (lenR ll) i : Int) + (lenR ll i : Int) = k + (sumN (lenR ll) (i + 1) : Int) by rw [show sumN (lenR ll) (i + 1) = sumN (lenR ll) i + lenR ll i from rfl]; omega)
      have z1 : (i : Int) < (ll.length : Int) := by omega
      clear hr hT hsq
      generalize (mkT (k + (sumN (lenR ll) i : Int)) (ll.getD i [])).length = t at *
      generalize lenR ll i = q at *
      generalize hst : sumN (lenR ll) i = s0 at *
      clear hst
      go_wp2_with fail
      refine hh.mono ?_
      rintro e w2 ⟨rfl, rfl⟩
      clear hh
      go_wp2
      go_round
      case rel => exact ⟨i + 1, by omega, by go_num, by rw [HS.out]⟩
      case measure => simp [intOf]; omega
    · have e : i = ll.length := by omega
      subst e
      go_wp2
      go_ret
      exact ⟨rfl, rfl⟩

set_option maxRecDepth 100000 in
set_option maxHeartbeats 1000000 in
theorem eqIntSSS_same (v1 v2 : Value) (ll : List (List (List Int))) (w : World) (h1 : RiR 0 w.heap.size w v1 ll) (h2 : RiR 0 w.heap.size w v2 ll) (hl : ll.length ≤ 1048576) (hx : ∀ i, i < ll.length → (ll.getD i []).length ≤ 1048576) (hy : ∀ i, i < ll.length → ∀ j, j < (ll.getD i []).length → ((ll.getD i []).getD j []).length ≤ 1048576) :
    Calls Try.prog 88 #[v1, v2] w fun e w' => e = .returned (.bool true) ∧ Below w.heap.size w w' := by
  obtain ⟨o1, c1, e1⟩ : ∃ o c, v1 = .slice o ll.length c := by
    obtain ⟨hs, h0, ⟨o, c, e, _⟩, _⟩ := h1
    exact ⟨o, c, by rw [e, h0]⟩
  obtain ⟨o2, c2, e2⟩ : ∃ o c, v2 = .slice o ll.length c := by
    obtain ⟨hs, h0, ⟨o, c, e, _⟩, _⟩ := h2
    exact ⟨o, c, by rw [e, h0]⟩
  subst e1 e2
  go_enter Try.func88, Try.ntmps88
  go_wp2
  go_loopw [5] (fun i wr => ∃ k : Nat, k ≤ ll.length ∧ i = .int .i64 (k : Int) ∧ Below w.heap.size w wr)
    (fun i _ => ll.length - (intOf i).toNat)
  case atStart => exact ⟨0, Nat.zero_le _, rfl, Below.refl _ _⟩
  case round =>
    obtain ⟨k, hk, rfl, hBr⟩ := hrel
    by_cases hlt : k < ll.length
    · obtain ⟨b1, off1, o1', c1', rfl, hb1, hc1, hr1⟩ := (RiR.mon.go (RiR.stp.go h1 (Stp.of (lo := 0) (hi := 0) hBr) (.inl (Nat.zero_le _))) (Nat.le_refl _) hBr.size).at (Nat.le_refl _) k hlt
      obtain ⟨b2, off2, o2', c2', rfl, hb2, hc2, hr2⟩ := (RiR.mon.go (RiR.stp.go h2 (Stp.of (lo := 0) (hi := 0) hBr) (.inl (Nat.zero_le _))) (Nat.le_refl _) hBr.size).at (Nat.le_refl _) k hlt
      have hxk := hx k hlt
      have HYK := hide (hy k hlt)
      have HB := hide hBr
      have G1 := Grown.cell hc1 hb1
      have G2 := Grown.cell hc2 hb2
      have HE := hide (fun p : Grown wr => eqIntSS_same o1' o2' c1' c2' (ll.getD k []) p.v ((hr1.kept p.b (Nat.le_refl _)).le p.b.size) ((hr2.kept p.b (Nat.le_refl _)).le p.b.size) hxk HYK.out)
      clear hBr hr1 hr2 hx hy h1 h2 hc1 hc2 HYK
      have i1 : (k : Int) < (ll.length : Int) := by omega
      generalize ll.getD k [] = row at *
      go_wp2
      (refine wp_region_grown (by kernel_rfl) (by kernel_rfl) ?_; intro hne9; (repeat (go_big_quiet_step ((go_at_call 122; exact grown_of _ (HE.out _))))); (with_reducible refine wpQuiet_nil ?_); intro _ hw9; obtain ⟨pq, hw8⟩ := hw9; subst hw8)
      go_wp2
      go_roundw
      case rel => exact ⟨k + 1, by omega, by go_num, HB.out.trans (pq.b.mono HB.out.size)⟩
      case measure => simp [intOf]; omega
    · have e : k = ll.length := by omega
      subst e
      go_wp2
      go_ret
      exact ⟨rfl, hBr⟩

end Go.Proofs.Ytldjaapbkihibaa

/- The laws' marks in a row of backs, and what stands there behind them. -/
namespace Go.Proofs.Ytldjaapbkihibaa
open Go.ChangeShapes Go.WideShapes Go.ChangeAt Go.RowKit Go.Joins
set_option linter.unusedVariables false
set_option linter.unusedSimpArgs false

def mkBk (k : Int) : Bk := (k, k + 1, (k + 1 + 1) % 3 == 0)

set_option maxHeartbeats 2000000 in
theorem markBackSm_any (base : Nat) (v : Value) (l : List _) (k : Int) (w : World) (hv : ownL layK 39 w base v l) (h0 : 0 ≤ k) (h1 : k ≤ 1073741824) (hlen : l.length ≤ 1048576) :
    Calls Try.prog 91 #[v, .int .i64 k] w fun e w' => e = .returned (.int .i64 (k + 3 * l.length)) ∧ ownL layK 39 w' base v (mkL mkBk 3 k l.length) ∧ w.grownBy w' v.ownBlock := by
  rcases hv.2 with ⟨rfl, h2⟩ | ⟨g, cap, cur, rfl, hg, _⟩
  · have e : l = [] := List.eq_nil_of_length_eq_zero h2
    subst e
    go_enter Try.func91, Try.ntmps91
    go_wp2
    refine wp_loop_rounds 1 ?_
    rw [rounds_succ]
    go_wp2
    go_ret
    exact ⟨by simp, by simpa [mkL] using hv, World.grownBy.refl _ _⟩
  · have hv0 : w.ownsRow base 39 3 (.slice (some ⟨g, 0, none⟩) l.length cap) l.length ((mkTo mkBk 3 l k 0).flatMap layK.cs) := by rw [mkTo_zero]; exact hv
    go_enter Try.func91, Try.ntmps91
    go_wp2
    go_loopw [1, 5] (fun q j wr => ∃ i : Nat, i ≤ l.length ∧ j = .int .i64 i ∧ q = .int .i64 (k + 3 * (i : Int)) ∧ wr.ownsRow base 39 3 (.slice (some ⟨g, 0, none⟩) l.length cap) l.length ((mkTo mkBk 3 l k i).flatMap layK.cs) ∧ w.grownBy wr (some g))
      (fun _ j _ => l.length - (intOf j).toNat)
    case atStart => exact ⟨0, Nat.zero_le _, rfl, by simp, hv0, World.grownBy.refl _ _⟩
    case round =>
      obtain ⟨i, hi, rfl, rfl, hown, hgr⟩ := hrel
      by_cases hlt : i < l.length
      · have hxl : ((mkTo mkBk 3 l k i).flatMap layK.cs).length = l.length * 3 := by rw [flat_length, mkTo_length _ _ _ _ _ hi]; rfl
        have E := flat_set3 layK rfl (a := mkBk (k + 3 * (i : Int))) rfl (mkTo mkBk 3 l k i) i
        have E2 := mkTo_set mkBk 3 l k i hlt
        generalize hxs : (mkTo mkBk 3 l k i).flatMap layK.cs = xs at *
        have s1 := grown_set1 (j := i * 3) (u := .int .i64 (k + 3 * (i : Int))) hown hgr
        have s2 := grown_set1 (j := i * 3 + 1) (u := .int .i64 (k + 3 * (i : Int) + 1)) s1.1 s1.2
        have s3 := grown_set1 (j := i * 3 + 2) (u := .bool ((k + 3 * (i : Int) + 1 + 1) % 3 == 0)) s2.1 s2.2
        have f0 := hown.frozenAt (i * 3)
        obtain ⟨q0, hq0⟩ : ∃ z, wr.cell? ⟨g, i * 3, none⟩ = some z := ⟨_, (hown.cellAt (i * 3) (by omega)).trans (List.getElem?_eq_getElem (by (try simp) <;> omega))⟩
        have f1 := s1.1.frozenAt (i * 3 + 1)
        obtain ⟨q1, hq1⟩ : ∃ z, (wr.setCell ⟨g, i * 3, none⟩ (.int .i64 (k + 3 * (i : Int)))).cell? ⟨g, i * 3 + 1, none⟩ = some z := ⟨_, (s1.1.cellAt (i * 3 + 1) (by omega)).trans (List.getElem?_eq_getElem (by (try simp) <;> omega))⟩
        have f2 := s2.1.frozenAt (i * 3 + 2)
        obtain ⟨q2, hq2⟩ : ∃ z, ((wr.setCell ⟨g, i * 3, none⟩ (.int .i64 (k + 3 * (i : Int)))).setCell ⟨g, i * 3 + 1, none⟩ (.int .i64 (k + 3 * (i : Int) + 1))).cell? ⟨g, i * 3 + 2, none⟩ = some z := ⟨_, (s2.1.cellAt (i * 3 + 2) (by omega)).trans (List.getElem?_eq_getElem (by (try simp) <;> omega))⟩
        have S := hide s3
        have HE := hide (E.trans (congrArg (fun z => List.flatMap layK.cs z) E2))
        have z1 : (i : Int) < (l.length : Int) := by omega
        clear s1 s2 s3 hown hgr hv hv0 E E2 hxl
        go_wp2
        go_roundw
        case rel =>
          refine ⟨i + 1, by omega, by go_num, by go_num, ?_, S.out.2⟩
          have h := S.out.1
          rw [← HE.out]
          exact h
        case measure => simp [intOf]; omega
      · have e : i = l.length := by omega
        subst e
        rw [mkTo_all] at hown
        have HO := hide hown
        clear hown
        go_wp2
        go_ret
        exact ⟨rfl, (by have := HO.out; unfold ownL; rw [mkL_length]; exact this), hgr⟩

set_option maxHeartbeats 2000000 in
theorem heldBackSm_any (o : Option Addr) (cap n C : Nat) (k : Int) (w : World) (hR : RdL layK C w o (mkL mkBk 3 k n)) (h0 : 0 ≤ k) (h1 : k ≤ 1073741824) (hlen : n ≤ 1048576) :
    Calls Try.prog 93 #[.slice o n cap, .int .i64 k] w fun e w' => e = .returned (.int .i64 (k + 3 * n)) ∧ w = w' := by
  go_enter Try.func93, Try.ntmps93
  go_wp2
  go_loop [1, 5] (fun q j => ∃ i : Nat, i ≤ n ∧ j = .int .i64 i ∧ q = .int .i64 (k + 3 * (i : Int)))
    (fun _ j => n - (intOf j).toNat)
  case atStart => exact ⟨0, Nat.zero_le _, rfl, by simp⟩
  case round =>
    obtain ⟨i, hi, rfl, rfl⟩ := hrel
    by_cases hlt : i < n
    · rcases hR with hR | ⟨b, off, rfl, hbl, hcell⟩
      · have := mkL_length mkBk 3 k n; rw [hR] at this; simp at this; omega
      have hc := hcell i (by rw [mkL_length]; exact hlt)
      rw [mkL_get _ _ _ _ _ _ hlt] at hc
      have c0 : w.cell? ⟨b, off + i * 3, none⟩ = some (.int .i64 (k + 3 * (i : Int))) := hc 0 (by decide)
      have c1 : w.cell? ⟨b, off + i * 3 + 1, none⟩ = some (.int .i64 (k + 3 * (i : Int) + 1)) := hc 1 (by decide)
      have c2 : w.cell? ⟨b, off + i * 3 + 2, none⟩ = some (.bool ((k + 3 * (i : Int) + 1 + 1) % 3 == 0)) := hc 2 (by decide)
      clear hcell hc
      go_wp2
      go_round
      case rel => exact ⟨i + 1, by omega, by go_num, by go_num⟩
      case measure => simp [intOf]; omega
    · have e : i = n := by omega
      subst e
      go_wp2
      go_ret
      exact ⟨rfl, rfl⟩

end Go.Proofs.Ytldjaapbkihibaa

/- Pools, as a shape: how they read, what owns its memory, and the laws' own helpers over them. -/
namespace Go.Proofs.Ytldjaapbkihibaa
open Go.ChangeShapes Go.WideShapes Go.ChangeAt Go.RowKit Go.Joins
set_option linter.unusedVariables false
set_option linter.unusedSimpArgs false

/-- A pool, as the model has it. -/
structure Pm where
  key : Int
  l : List Bk
  ring : List (List (List Int))
def RiPm (lo hi : Nat) (w : World) (v : Value) (m : Pm) : Prop := ∃ vb vr, v = plv m.key vb vr ∧ RiV layK lo hi w vb m.l ∧ RiR lo hi w vr m.ring
abbrev RdPm (C : Nat) (w : World) (v : Value) (m : Pm) : Prop := RiPm 0 C w v m
def InPm (lo hi : Nat) (w : World) (v : Value) (m : Pm) : Prop := ∃ vb vr mid, v = plv m.key vb vr ∧ lo ≤ mid ∧ mid ≤ hi ∧ InL layK 39 lo mid w vb m.l ∧ InR mid hi w vr m.ring
theorem RiPm.step {a b lo hi : Nat} {w w' : World} {v : Value} {m : Pm} (h : RiPm a b w v m) (s : Stp lo hi w w') (hd : hi ≤ a ∨ b ≤ lo) : RiPm a b w' v m := by
  obtain ⟨vb, vr, e, h1, h2⟩ := h
  exact ⟨vb, vr, e, h1.step s hd, RiR.stp.go h2 s hd⟩
theorem RiPm.mono {a b a' b' : Nat} {w : World} {v : Value} {m : Pm} (h : RiPm a b w v m) (k1 : a' ≤ a) (k2 : b ≤ b') : RiPm a' b' w v m := by
  obtain ⟨vb, vr, e, h1, h2⟩ := h
  exact ⟨vb, vr, e, h1.mono k1 k2, RiR.mon.go h2 k1 k2⟩
theorem RiPm.rd {lo hi : Nat} {w : World} {v : Value} {m : Pm} (h : RiPm lo hi w v m) : RdPm hi w v m := h.mono (Nat.zero_le _) (Nat.le_refl _)
theorem RiPm.le {lo C D : Nat} {w : World} {v : Value} {m : Pm} (h : RiPm lo C w v m) (hc : C ≤ D) : RiPm lo D w v m := h.mono (Nat.le_refl _) hc
theorem RiPm.kept {lo C D : Nat} {w w' : World} {v : Value} {m : Pm} (h : RiPm lo C w v m) (hb : Below D w w') (hc : C ≤ D) : RiPm lo C w' v m :=
  h.step (lo := C) (hi := w.heap.size + C) ⟨hb.os, hb.tape, hb.output, hb.size, fun k hk hn => hb.block k (by omega)⟩ (.inr (Nat.le_refl _))
theorem InPm.step {a b lo hi : Nat} {w w' : World} {v : Value} {m : Pm} (h : InPm a b w v m) (s : Stp lo hi w w') (hd : hi ≤ a ∨ b ≤ lo) : InPm a b w' v m := by
  obtain ⟨vb, vr, mid, e, k1, k2, h1, h2⟩ := h
  exact ⟨vb, vr, mid, e, k1, k2, InRow.step h1 s (by omega), InR.stp.go h2 s (by omega)⟩
theorem InPm.ri {lo hi : Nat} {w : World} {v : Value} {m : Pm} (h : InPm lo hi w v m) : RiPm lo hi w v m := by
  obtain ⟨vb, vr, mid, e, k1, k2, h1, h2⟩ := h
  exact ⟨vb, vr, e, (InRow.ri h1).mono (Nat.le_refl _) k2, RiR.mon.go (InR.ri h2) k1 (Nat.le_refl _)⟩
theorem InPm.rd {lo hi : Nat} {w : World} {v : Value} {m : Pm} (h : InPm lo hi w v m) : RdPm hi w v m := h.ri.rd
theorem RiR.len {lo hi : Nat} {w : World} {v : Value} {lll : List (List (List Int))} (h : RiR lo hi w v lll) : ∃ o c, v = .slice o lll.length c := by
  obtain ⟨hs, h0, ⟨o, c, e, _⟩, _⟩ := h
  exact ⟨o, c, by rw [e, h0]⟩
theorem RiPm.opn {lo hi : Nat} {w : World} {v : Value} {m : Pm} (h : RiPm lo hi w v m) : ∃ (o : Option Addr) (c : Nat) (oR : Option Addr) (cR : Nat), v = plv m.key (.slice o m.l.length c) (.slice oR m.ring.length cR) := by
  obtain ⟨vb, vr, e, ⟨o, c, e1, _⟩, h2⟩ := h
  obtain ⟨oR, cR, e2⟩ := RiR.len h2
  exact ⟨o, c, oR, cR, by rw [e, e1, e2]⟩
theorem InPm.opn {lo hi : Nat} {w : World} {v : Value} {m : Pm} (h : InPm lo hi w v m) : ∃ (o : Option Addr) (c : Nat) (oR : Option Addr) (cR : Nat), v = plv m.key (.slice o m.l.length c) (.slice oR m.ring.length cR) := h.ri.opn
/-- No more than the laws look at. -/
def fitPm (m : Pm) : Prop := m.l.length ≤ 1048576 ∧ m.ring.length ≤ 1048576 ∧ szR m.ring ≤ 1048576 ∧ (∀ i, i < m.ring.length → (m.ring.getD i []).length ≤ 1048576) ∧ ∀ i, i < m.ring.length → ∀ j, j < (m.ring.getD i []).length → ((m.ring.getD i []).getD j []).length ≤ 1048576
/-- How many marks. -/
def nPm (m : Pm) : Int := 3 * (m.l.length : Int) + (szR m.ring : Int)
theorem nPm_bd {m : Pm} (h : fitPm m) : 0 ≤ nPm m ∧ nPm m ≤ 4194304 := by
  obtain ⟨h1, h2, h3, _⟩ := h
  unfold nPm; omega
def mkPm (k : Int) (m : Pm) : Pm := ⟨m.key, mkL mkBk 3 k m.l.length, mkR (k + 3 * (m.l.length : Int)) m.ring⟩

set_option maxRecDepth 100000 in
set_option maxHeartbeats 1000000 in
theorem eqPool_sh (v1 v2 : Value) (m : Pm) (w : World) (h1 : RdPm w.heap.size w v1 m) (h2 : RdPm w.heap.size w v2 m) (hf : fitPm m) :
    Calls Try.prog 36 #[v1, v2] w fun e w' => e = .returned (.bool true) ∧ Below w.heap.size w w' := by
  obtain ⟨vb1, vr1, rfl, ⟨o1, c1, rfl, b1⟩, r1⟩ := h1
  obtain ⟨vb2, vr2, rfl, ⟨o2, c2, rfl, b2⟩, r2⟩ := h2
  obtain ⟨oR1, cR1, rfl⟩ := RiR.len r1
  obtain ⟨oR2, cR2, rfl⟩ := RiR.len r2
  obtain ⟨hf1, hf2, hf3, hf4, hf5⟩ := hf
  have HBK := hide (fun W (hb : Below w.heap.size w W) => eqBackS_same o1 o2 c1 c2 m.l W ((b1.rd.kept hb (Nat.le_refl _)).le hb.size) ((b2.rd.kept hb (Nat.le_refl _)).le hb.size) hf1)
  have HRG := hide (fun W (hb : Below w.heap.size w W) => eqIntSSS_same (.slice oR1 m.ring.length cR1) (.slice oR2 m.ring.length cR2) m.ring W (RiR.mon.go (RiR.stp.go r1 (Stp.of (lo := 0) (hi := 0) hb) (.inl (Nat.zero_le _))) (Nat.le_refl _) hb.size) (RiR.mon.go (RiR.stp.go r2 (Stp.of (lo := 0) (hi := 0) hb) (.inl (Nat.zero_le _))) (Nat.le_refl _) hb.size) hf2 hf4 hf5)
  clear b1 b2 r1 r2 hf4 hf5
  obtain ⟨W0, hW0⟩ : ∃ W, ((w.alloc (.cells #[.int .i64 m.key, .slice o1 m.l.length c1, .slice oR1 m.ring.length cR1] 26)).alloc (.cells #[.int .i64 m.key, .slice o2 m.l.length c2, .slice oR2 m.ring.length cR2] 26)) = W := ⟨_, rfl⟩
  have hb_W0 : Below w.heap.size w W0 := by rw [← hW0]; exact (((Below.refl _ _).alloc (Nat.le_refl _) _).alloc (by simp <;> omega) _)
  have HB := hide hb_W0
  clear hb_W0
  have zz : w.heap.size < W0.heap.size := by rw [← hW0]; simp <;> omega
  have z0 : W0.cell? ⟨w.heap.size, 0, none⟩ = some (.int .i64 m.key) := by rw [← hW0]; simp [go_sem]
  have z1 : W0.cell? ⟨w.heap.size, 1, none⟩ = some (.slice o1 m.l.length c1) := by rw [← hW0]; simp [go_sem]
  have z2 : W0.cell? ⟨w.heap.size, 2, none⟩ = some (.slice oR1 m.ring.length cR1) := by rw [← hW0]; simp [go_sem]
  have zu : w.heap.size + 1 < W0.heap.size := by rw [← hW0]; simp
  have u0 : W0.cell? ⟨w.heap.size + 1, 0, none⟩ = some (.int .i64 m.key) := by rw [← hW0]; simp [go_sem]
  have u1 : W0.cell? ⟨w.heap.size + 1, 1, none⟩ = some (.slice o2 m.l.length c2) := by rw [← hW0]; simp [go_sem]
  have u2 : W0.cell? ⟨w.heap.size + 1, 2, none⟩ = some (.slice oR2 m.ring.length cR2) := by rw [← hW0]; simp [go_sem]
  go_enter Try.func36, Try.ntmps36
  go_wp2_with fail
  refine (HBK.out W0 HB.out).mono ?_
  rintro e v1 ⟨rfl, hb⟩
  replace z0 := bC hb z0 zz
  replace z1 := bC hb z1 zz
  replace z2 := bC hb z2 zz
  replace zz := Nat.lt_of_lt_of_le zz hb.size
  replace u0 := bC hb u0 zu
  replace u1 := bC hb u1 zu
  replace u2 := bC hb u2 zu
  replace zu := Nat.lt_of_lt_of_le zu hb.size
  replace HB := hide (HB.out.trans (hb.mono HB.out.size))
  clear hb
  go_wp2_with fail
  refine (HRG.out v1 HB.out).mono ?_
  rintro e v2 ⟨rfl, hb⟩
  replace z0 := bC hb z0 zz
  replace z1 := bC hb z1 zz
  replace z2 := bC hb z2 zz
  replace zz := Nat.lt_of_lt_of_le zz hb.size
  replace u0 := bC hb u0 zu
  replace u1 := bC hb u1 zu
  replace u2 := bC hb u2 zu
  replace zu := Nat.lt_of_lt_of_le zu hb.size
  replace HB := hide (HB.out.trans (hb.mono HB.out.size))
  clear hb
  go_wp2
  go_ret
  exact ⟨rfl, HB.out⟩

set_option maxRecDepth 100000 in
set_option maxHeartbeats 1000000 in
theorem markPool_sh (lo hi : Nat) (v : Value) (m : Pm) (k : Int) (w : World) (hv : InPm lo hi w v m) (h0 : 0 ≤ k) (h1 : k ≤ 1000000) (hf : fitPm m) :
    Calls Try.prog 39 #[v, .int .i64 k] w fun e w' => e = .returned (.int .i64 (k + nPm m)) ∧ InPm lo hi w' v (mkPm k m) ∧ Stp lo hi w w' := by
  obtain ⟨vb, vr, mid, rfl, k1, k2, ib, ir⟩ := hv
  obtain ⟨o, c, e1, _⟩ := InRow.ri ib
  subst e1
  obtain ⟨oR, cR, e2⟩ := RiR.len (InR.ri ir)
  subst e2
  obtain ⟨hf1, hf2, hf3, hf4, hf5⟩ := hf
  obtain ⟨W0, hW0⟩ : ∃ W, (w.alloc (.cells #[.int .i64 m.key, .slice o m.l.length c, .slice oR m.ring.length cR] 26)) = W := ⟨_, rfl⟩
  have hb0 : Below w.heap.size w W0 := by rw [← hW0]; exact (Below.refl _ _).alloc (Nat.le_refl _) _
  have z0 : W0.heap[w.heap.size]? = some (.cells #[.int .i64 m.key, .slice o m.l.length c, .slice oR m.ring.length cR] 26 (0, 0)) := by rw [← hW0]; exact World.alloc_heap_new w _
  have s0 : Hid (Stp lo hi w W0) := Stp.of hb0
  have hhi : Hid (∀ b, (Value.slice o m.l.length c).ownBlock = some b → b < w.heap.size) := fun b e => (ib.1.lt b e).2
  replace ib := InRow.step ib (Stp.of (lo := 0) (hi := 0) hb0) (.inl (Nat.zero_le _))
  replace ir := InR.stp.go ir (Stp.of (lo := 0) (hi := 0) hb0) (.inl (Nat.zero_le _))
  have HM := hide (markBackSm_any lo (.slice o m.l.length c) m.l k W0 ib.1 h0 (by omega) hf1)
  have HB := hide ib.2
  have HLO := hide (fun b e => (ib.1.lt b e).1)
  have HR := hide ir
  have p1 : W0.cell? ⟨w.heap.size, 1, none⟩ = some (.slice o m.l.length c) := bx_cell z0 1 _ rfl
  have p2 : W0.cell? ⟨w.heap.size, 2, none⟩ = some (.slice oR m.ring.length cR) := bx_cell z0 2 _ rfl
  have HZ := hide z0
  clear ib ir hb0 z0
  go_enter Try.func39, Try.ntmps39
  go_wp2_with fail
  refine HM.out.mono ?_
  rintro e v1 ⟨rfl, hown, hgr⟩
  have s1 : Hid (Stp lo mid W0 v1) := Stp.grown hgr (fun b e => ⟨HLO.out b e, HB.out b e⟩)
  have hz1 : v1.heap[w.heap.size]? = some (.cells #[.int .i64 m.key, .slice o m.l.length c, .slice oR m.ring.length cR] 26 (0, 0)) := (hgr.block _ (Array.getElem?_eq_some_iff.1 HZ.out).1 (fun e => by have := hhi.out _ e.symm; omega)).trans HZ.out
  have HO := hide hown
  have HMR := hide (markIntSSS_in mid hi (.slice oR m.ring.length cR) m.ring (k + 3 * (m.l.length : Int)) v1 (InR.stp.go HR.out s1.out (.inl (Nat.le_refl _))) (by omega) (by omega) hf2 hf3 hf4)
  have q2 : v1.cell? ⟨w.heap.size, 2, none⟩ = some (.slice oR m.ring.length cR) := bx_cell hz1 2 _ rfl
  clear hown hgr p1 p2 hz1 HR hf4 hf5
  go_wp2_with fail
  refine HMR.out.mono ?_
  rintro e v2 ⟨rfl, hir, hsp⟩
  have H : Hid (InPm lo hi v2 (plv m.key (.slice o m.l.length c) (.slice oR m.ring.length cR)) (mkPm k m) ∧ Stp lo hi w v2) := ⟨⟨_, _, mid, rfl, k1, k2, InRow.step ⟨HO.out, HB.out⟩ hsp (.inr (Nat.le_refl _)), hir⟩, s0.out.trans ((s1.out.wide2 (Nat.le_refl _) k2).trans (hsp.wide2 k1 (Nat.le_refl _)))⟩
  have HN := hide (show k + 3 * (m.l.length : Int) + (szR m.ring : Int) = k + nPm m by unfold nPm; omega)
  clear hir hsp HO s0 s1 HMR
  go_wp2
  go_ret
  exact ⟨by rw [HN.out]; rfl, H.out.1, H.out.2⟩

set_option maxRecDepth 100000 in
set_option maxHeartbeats 1000000 in
theorem heldPool_sh (v : Value) (m : Pm) (k : Int) (w : World) (hR : RdPm w.heap.size w v (mkPm k m)) (h0 : 0 ≤ k) (h1 : k ≤ 1000000) (hf : fitPm m) :
    Calls Try.prog 40 #[v, .int .i64 k] w fun e w' => e = .returned (.int .i64 (k + nPm m)) ∧ Below w.heap.size w w' := by
  obtain ⟨vb, vr, rfl, ⟨o, c, rfl, r⟩, rr⟩ := hR
  obtain ⟨oR, cR, e2⟩ := RiR.len rr
  subst e2
  obtain ⟨hf1, hf2, hf3, hf4, hf5⟩ := hf
  have e1 : (mkPm k m).l.length = m.l.length := mkL_length _ _ _ _
  have e3 : (mkPm k m).ring.length = m.ring.length := mkR_len _ _
  rw [e1, e3]
  have r0 : RdL layK w.heap.size w o (mkL mkBk 3 k m.l.length) := r.rd
  have rr0 : RiR 0 w.heap.size w (.slice oR m.ring.length cR) (mkR (k + 3 * (m.l.length : Int)) m.ring) := by rw [← e3]; exact rr
  have HH := hide (fun W (hb : Below w.heap.size w W) => heldBackSm_any o c m.l.length w.heap.size k W (r0.kept hb (Nat.le_refl _)) h0 (by omega) hf1)
  have HG := hide (fun W (hb : Below w.heap.size w W) => heldIntSSS_in (.slice oR m.ring.length cR) m.ring (k + 3 * (m.l.length : Int)) W (RiR.mon.go (RiR.stp.go rr0 (Stp.of (lo := 0) (hi := 0) hb) (.inl (Nat.zero_le _))) (Nat.le_refl _) hb.size) (by omega) (by omega) hf2 hf3 hf4)
  have hn : (0 : Int) ≤ k + 3 * m.l.length := by omega
  have hn2 : (0 : Int) ≤ k + 3 * m.l.length + (szR m.ring : Int) := by omega
  clear r rr r0 rr0 e1 e3 hf4 hf5
  show Calls Try.prog 40 #[plv m.key (.slice o m.l.length c) (.slice oR m.ring.length cR), .int .i64 k] w _
  have HN := hide (show k + 3 * (m.l.length : Int) + (szR m.ring : Int) = k + nPm m by unfold nPm; omega)
  obtain ⟨W0, hW0⟩ : ∃ W, (w.alloc (.cells #[.int .i64 m.key, .slice o m.l.length c, .slice oR m.ring.length cR] 26)) = W := ⟨_, rfl⟩
  have hb_W0 : Below w.heap.size w W0 := by rw [← hW0]; exact ((Below.refl _ _).alloc (Nat.le_refl _) _)
  have HB := hide hb_W0
  clear hb_W0
  have zz : w.heap.size < W0.heap.size := by rw [← hW0]; simp
  have z0 : W0.cell? ⟨w.heap.size, 0, none⟩ = some (.int .i64 m.key) := by rw [← hW0]; simp [go_sem]
  have z1 : W0.cell? ⟨w.heap.size, 1, none⟩ = some (.slice o m.l.length c) := by rw [← hW0]; simp [go_sem]
  have z2 : W0.cell? ⟨w.heap.size, 2, none⟩ = some (.slice oR m.ring.length cR) := by rw [← hW0]; simp [go_sem]
  go_enter Try.func40, Try.ntmps40
  go_wp2_with fail
  refine (HH.out W0 HB.out).mono ?_
  rintro e _ ⟨rfl, rfl⟩
  go_wp2_with fail
  refine (HG.out W0 HB.out).mono ?_
  rintro e _ ⟨rfl, rfl⟩
  go_wp2
  go_ret
  exact ⟨by rw [HN.out]; rfl, HB.out⟩

end Go.Proofs.Ytldjaapbkihibaa

/- The program's tables of pairs as lists; the newest table. -/
namespace Go.Proofs.Ytldjaapbkihibaa
open Go.ChangeShapes Go.WideShapes Go.ChangeAt Go.RowKit Go.Joins
set_option linter.unusedVariables false
set_option linter.unusedSimpArgs false

theorem ptLL_len (f : Pt) : (ptLL f).length = 8 := by simp [ptLL]
theorem ptLL_succ (f : Pt) (k : Nat) (h : k < 8) : (ptLL f).take (k + 1) = (ptLL f).take k ++ [ipList (f k)] := by
  have hk : k < (ptLL f).length := by rw [ptLL_len]; exact h
  rw [List.take_succ_eq_append_getElem hk]
  simp [ptLL]
theorem ptLL_all (f : Pt) : (ptLL f).take 8 = ptLL f := List.take_of_length_le (by rw [ptLL_len]; exact Nat.le_refl _)
theorem stp_set (w : World) (B j : Nat) (u : Value) : Stp B (B + 1) w (w.setCell ⟨B, j, none⟩ u) := Stp.grown (grown_set w B j u) (fun b e => by injection e with e; omega)

set_option maxRecDepth 100000 in
set_option maxHeartbeats 2000000 in
theorem lists_any (f : Pt) (w : World) :
    Calls Try.prog 112 #[ptv f] w fun e w' => ∃ v, e = .returned v ∧ InT w.heap.size w'.heap.size w' v (ptLL f) ∧ Below w.heap.size w w' := by
  obtain ⟨i0, hi, hz0, hz1, hz2⟩ := info_parts infoIntS
  obtain ⟨W0, hW0⟩ : ∃ W, (w.alloc (.cells (ptA f) 108)) = W := ⟨_, rfl⟩
  have hb0 : Below w.heap.size w W0 := by rw [← hW0]; exact (Below.refl _ _).alloc (Nat.le_refl _) _
  have z0 : W0.heap[w.heap.size]? = some (.cells (ptA f) 108 (0, 0)) := by rw [← hW0]; exact World.alloc_heap_new w _
  have hs0 : W0.heap.size = w.heap.size + 1 := by rw [← hW0]; simp
  have HZ := hide z0
  have HB0 := hide hb0
  have HS0 := hide hs0
  clear z0 hb0 hs0
  go_enter Try.func112, Try.ntmps112
  go_wp2_with (first | (at_make; refine wpList_make_full _ rfl _ _ 37 rfl W0.heap.size 43 i0 (.slice none 0 0) 1 Try.underlying37 hi hz0 hz1 _ _ _ _ 8 rfl rfl rfl rfl ?b2 ?b3 ?b4 ?_))
  case b2 => rw [hz2]; omega
  case b3 => unfold maxLen; omega
  case b4 => simp
  intro w3 hown hgrow
  have hb3 : Below W0.heap.size W0 w3 := (Below.refl _ _).grown hgrow (Nat.le_refl _) (fun k h => by cases h)
  have ho3 : w3.ownsRow (w.heap.size + 1) 43 1 (.slice (some ⟨W0.heap.size, 0, none⟩) 8 8) 8 ((([] : List Hd) ++ List.replicate (8 - 0) layH.d).flatMap layH.cs) := by
    rw [List.nil_append, Nat.sub_zero, ← made_flat layH (.slice none 0 0) rfl, show layH.k = 1 from rfl, Nat.mul_one]; exact own_mono hown (by have := HS0.out; omega)
  have HZ3 := hide ((hb3.block w.heap.size (by have := HS0.out; omega)).trans HZ.out)
  have HB3 := hide (HB0.out.trans (hb3.mono HB0.out.size))
  have hs3 : W0.heap.size + 1 ≤ w3.heap.size := (hown.lt W0.heap.size rfl).2
  have HO3 := hide ho3
  clear hown hgrow hb3 ho3 HZ HB0
  go_wp2_with (first | (refine wpList_load_pt rfl (.tmp 1) rfl w.heap.size rfl f HZ3.out ?_))
  go_loopw [8] (fun iv wr => ∃ (k : Nat) (hs : List Hd) (L H : Nat → Nat), k ≤ 8 ∧ iv = .int .i64 (k : Int) ∧ Hid (wr.ownsRow (w.heap.size + 1) 43 1 (.slice (some ⟨W0.heap.size, 0, none⟩) 8 8) 8 ((hs ++ List.replicate (8 - k) layH.d).flatMap layH.cs)) ∧ Hid (Rw InI [] ((ptLL f).take k) (W0.heap.size + 1) wr.heap.size wr hs L H) ∧ Hid (Below w.heap.size w wr) ∧ W0.heap.size + 1 ≤ wr.heap.size)
    (fun iv _ => 8 - (intOf iv).toNat)
  case atStart => exact ⟨0, [], fun _ => 0, fun _ => 0, Nat.zero_le _, rfl, HO3.out, by rw [List.take_zero]; exact Rw.nil _ _ _ _ _ _ _, HB3.out, hs3⟩
  case round =>
    obtain ⟨k, hs, L, H, hk8, rfl, HO, HR, HBr, hsr⟩ := hrel
    clear HO3 HZ3 HB3 hs3
    have hhl : hs.length = k := by have h1 := HR.out.len; rw [List.length_take, ptLL_len] at h1; omega
    by_cases hlt : k < 8
    · have z1 : (k : Int) < 8 := by omega
      have HS := hide (ptLL_succ f k hlt)
      obtain ⟨p, hp⟩ : ∃ p, f k = p := ⟨_, rfl⟩
      have HP := hide hp
      rw [hp] at HS
      clear hp
      obtain ⟨s, x, y⟩ := p
      obtain ⟨W1, hW1⟩ : ∃ W, wr.alloc (.cells #[.bool s, .int .i64 x, .int .i64 y] 106) = W := ⟨_, rfl⟩
      have hb1 : Below wr.heap.size wr W1 := by rw [← hW1]; exact (Below.refl _ _).alloc (Nat.le_refl _) _
      have u0 : W1.cell? ⟨wr.heap.size, 0, none⟩ = some (.bool s) := by rw [← hW1]; simp [go_sem]
      have u1 : W1.cell? ⟨wr.heap.size, 1, none⟩ = some (.int .i64 x) := by rw [← hW1]; simp [go_sem]
      have u2 : W1.cell? ⟨wr.heap.size, 2, none⟩ = some (.int .i64 y) := by rw [← hW1]; simp [go_sem]
      have HL := hide (list_any (s, x, y) W1)
      have HO1 := hide (own_kept HO.out hb1)
      have HR1 := hide (HR.out.kept InI.stp hb1)
      have HB1 := hide (HBr.out.trans (hb1.mono HBr.out.size))
      have hs1 := hb1.size
      clear hb1 HO HR HBr
      go_wp2_with (first | (refine wpList_index_pt rfl (.tmp 7) (.tmp 8) rfl f k hlt rfl rfl ?_; rw [HP.out]) | fail)
      refine HL.out.mono ?_
      rintro e v1 ⟨o4, c4, rfl, ow4, hb4⟩
      have HO4 := hide (own_kept HO1.out hb4)
      have hln : ((hs ++ List.replicate (8 - k) layH.d).flatMap layH.cs).length = 8 := by rw [flat_length, List.length_append, List.length_replicate, hhl, show layH.k = 1 from rfl]; omega
      have hcl := HO4.out.cellAt k (by omega)
      have hfr := HO4.out.frozenAt k
      obtain ⟨u, hu⟩ : ∃ u, v1.cell? ⟨W0.heap.size, k, none⟩ = some u := ⟨_, hcl.trans (List.getElem?_eq_getElem (by omega))⟩
      have HO5 := hide (fillT_step (o := o4) (m := (ipList (s, x, y)).length) (c := c4) hlt hhl HO4.out)
      have HR4 := (HR1.out.kept InI.stp hb4).snoc (l2 := W1.heap.size) (h2 := v1.heap.size) hs1 (by omega) hb4.size (x := ipList (s, x, y)) (o := o4) (m := (ipList (s, x, y)).length) (c := c4) (InRow.of ow4)
      rw [← HS.out] at HR4
      have HR5 := HR4.step InI.stp (stp_set v1 W0.heap.size k (.slice o4 (ipList (s, x, y)).length c4)) (fun i hi => .inl (HR4.bd i hi).1)
      have HR6 : Hid (Rw InI [] ((ptLL f).take (k + 1)) (W0.heap.size + 1) (v1.setCell ⟨W0.heap.size, k, none⟩ (.slice o4 (ipList (s, x, y)).length c4)).heap.size (v1.setCell ⟨W0.heap.size, k, none⟩ (.slice o4 (ipList (s, x, y)).length c4)) _ _ _) := HR5.mono (Nat.le_refl _) (by simp)
      have HB5 := hide ((HB1.out.trans (hb4.mono HB1.out.size)).setCell (p := ⟨W0.heap.size, k, none⟩) (show w.heap.size ≤ W0.heap.size by have := HS0.out; omega) (.slice o4 (ipList (s, x, y)).length c4))
      have hs5 : W0.heap.size + 1 ≤ v1.heap.size := by have := hb4.size; omega
      clear ow4 hb4 hcl HR4 HR5 hln HL
      generalize (ipList (s, x, y)).length = q at *
      go_wp2
      go_roundw
      case rel => exact ⟨k + 1, _, _, _, by omega, by go_num, HO5.out, HR6.out, HB5.out, by simpa using hs5⟩
      case measure => simp [intOf]; omega
    · have e : k = 8 := by omega
      subst e
      go_wp2
      go_ret
      have h1 := HO.out
      rw [Nat.sub_self, List.replicate_zero, List.append_nil] at h1
      have h2 := HR.out
      rw [ptLL_all] at h2
      have hs0 := HS0.out
      have h3 : ∀ b, (Value.slice (some ⟨W0.heap.size, 0, none⟩) 8 8).ownBlock = some b → b = W0.heap.size := fun b e => (Option.some.inj e).symm
      have h4 : InT w.heap.size wr.heap.size wr (.slice (some ⟨W0.heap.size, 0, none⟩) 8 8) (ptLL f) := by
        refine ⟨hs, L, H, ⟨own_mono (base := w.heap.size + 1) (by rw [hhl]; exact h1) (Nat.le_succ _), fun b e => ?_⟩, h2.mono (by omega) (Nat.le_refl _), fun i hi b e => ?_⟩
        · have := h3 b e; omega
        · have := h3 b e
          have := h2.bd i hi
          omega
      exact ⟨_, rfl, h4, HBr.out⟩

end Go.Proofs.Ytldjaapbkihibaa

/- The program's newest table, and a pool with those who serve. -/
namespace Go.Proofs.Ytldjaapbkihibaa
open Go.ChangeShapes Go.WideShapes Go.ChangeAt Go.RowKit Go.Joins
set_option linter.unusedVariables false
set_option linter.unusedSimpArgs false

def okI (x : Sc) : Prop := 0 ≤ x.1 ∧ x.1 < 6
def okO (p : Option Sc × Option Sc) : Prop := (∀ o, p.1 = some o → okI o) ∧ ∀ o, p.2 = some o → okI o
theorem pickStep_ok {p : Option Sc × Option Sc} {x : Sc} (h : okO p) (hx : okI x) : okO (pickStep p x) := by
  obtain ⟨a, t⟩ := p
  cases a with
  | none => exact ⟨fun o e => by cases e; exact hx, fun o e => by cases e⟩
  | some o =>
    have ho := h.1 o rfl
    unfold pickStep
    dsimp only
    split
    · exact ⟨fun q e => by cases e; exact hx, fun q e => by cases e; exact ho⟩
    · cases t with
      | none => exact ⟨fun q e => by cases e; exact ho, fun q e => by cases e; exact hx⟩
      | some u =>
        have hu := h.2 u rfl
        dsimp only
        split
        · exact ⟨fun q e => by cases e; exact ho, fun q e => by cases e; exact hx⟩
        · exact ⟨fun q e => by cases e; exact ho, fun q e => by cases e; exact hu⟩
theorem pick_okI : ∀ (l : List Sc) (p : Option Sc × Option Sc), okO p → (∀ x ∈ l, okI x) → okO (l.foldl pickStep p)
  | [], p, h, _ => h
  | x :: l, p, h, hl => pick_okI l (pickStep p x) (pickStep_ok h (hl x (by simp))) (fun y hy => hl y (by simp [hy]))
theorem backs_id {l : List Bk} (h : backsOkB l = true) : ∀ x ∈ l, 0 ≤ x.1 ∧ x.1 < 6 := fun x hx => by
  obtain ⟨i, hi, e⟩ := List.getElem_of_mem hx
  have h1 := backsOkB_iff.1 h i hi
  unfold okAt at h1
  simp only [Bool.and_eq_true] at h1
  have h2 := backB_iff.1 h1.1
  have e2 : l.getD i (0, 0, false) = x := by rw [List.getD_eq_getElem?_getD, List.getElem?_eq_getElem hi, ← e]; rfl
  rw [e2] at h2
  exact ⟨h2.1, h2.2.1⟩
theorem pairI_ok (key b : Int) {l : List Bk} (h : backsOkB l = true) : pairOkB (pairI key b l) = true := by
  unfold pairI
  split
  · have h1 : okO (pick (scL key b l)) := pick_okI _ (none, none) ⟨fun o e => (nomatch e), fun o e => (nomatch e)⟩ (fun x hx => by
      unfold scL at hx
      simp only [List.mem_map, List.mem_filter] at hx
      obtain ⟨y, ⟨hy, _⟩, rfl⟩ := hx
      exact backs_id h y hy)
    generalize pick (scL key b l) = p at *
    obtain ⟨a, t⟩ := p
    cases a with
    | none => rfl
    | some o =>
      have ho := h1.1 o rfl
      unfold okI at ho
      cases t with
      | none => simp [pairL, pairOkB, idB, ho.1, ho.2]
      | some u =>
        have hu := h1.2 u rfl
        unfold okI at hu
        simp [pairL, pairOkB, idB, ho.1, ho.2, hu.1, hu.2]
  · rfl
/-- The table of these, as a value. -/
def newF (key : Int) (l : List Bk) : Pt := fun b => ipOf (pairI key b l)
theorem tabOk_new (key : Int) {l : List Bk} (h : backsOkB l = true) : tabOkB (rowsOf (fun b => pairI key b l) 8) = true :=
  tabOk_yes (rowsOf_length _ _) (fun i hi => by rw [rowsOf_get _ _ _ hi]; exact pairI_ok key i h)
theorem tabF_new (key : Int) (l : List Bk) : ptA (tabF (rowsOf (fun b => pairI key b l) 8)) = ptA (newF key l) :=
  ptA_congr (fun i hi => by unfold tabF newF; rw [rowsOf_get _ _ _ hi])
theorem ptLL_new (key : Int) {l : List Bk} (h : backsOkB l = true) : ptLL (newF key l) = rowsOf (fun b => pairI key b l) 8 := by
  unfold ptLL rowsOf newF
  exact List.map_congr_left (fun i hi => ipList_of (pairI_ok key i h))
theorem results_pt1 {fn : Func} {p : Tmp} (h : fn.results = #[.cell p 108]) (tmps : Array Value) (w : World) (g : Nat) (f : Pt) (hp : tmps.getD p undef = .pointer (some ⟨g, 0, none⟩)) (hg : w.heap[g]? = some (.cells (ptA f) 108 (0, 0))) :
    (results fn tmps).run Try.prog w = .ok (ptv f) w := results_cell_row h tmps w g _ (ptA f) (0, 0) _ hp hg ptU rfl (ptIf f)

set_option maxRecDepth 100000 in
set_option maxHeartbeats 2000000 in
theorem newestTable_any (key : Int) (o : Option Addr) (cap : Nat) (l : List Bk) (w : World) (hR : RdK w.heap.size w o l) (hlen : l.length ≤ 1048576) (hk : keyB key = true) (hl : backsOkB l = true) :
    Calls Try.prog 106 #[.int .i64 key, .slice o l.length cap] w fun e w' => e = .returned (ptv (newF key l)) ∧ Below w.heap.size w w' := by
  obtain ⟨W0, hW0⟩ : ∃ W, (w.alloc (.cells #[.bool false, .int .i64 0, .int .i64 0, .bool false, .int .i64 0, .int .i64 0, .bool false, .int .i64 0, .int .i64 0, .bool false, .int .i64 0, .int .i64 0, .bool false, .int .i64 0, .int .i64 0, .bool false, .int .i64 0, .int .i64 0, .bool false, .int .i64 0, .int .i64 0, .bool false, .int .i64 0, .int .i64 0] 108)) = W := ⟨_, rfl⟩
  have hb0 : Below w.heap.size w W0 := by rw [← hW0]; exact (Below.refl _ _).alloc (Nat.le_refl _) _
  have z0 : W0.heap[w.heap.size]? = some (.cells (ptA ptZ) 108 (0, 0)) := by rw [← hW0]; exact World.alloc_heap_new w _
  have HT := hide (implTableOf_any key o cap l W0 ((hR.kept hb0 (Nat.le_refl _)).le hb0.size) hlen)
  have HN := hide (show tabN key l = 8 by rw [tabN, if_pos ⟨hk, hl⟩])
  have HOK := hide (tabOk_new key hl)
  have HF := hide (tabF_new key l)
  have HZ := hide z0
  have HB0 := hide hb0
  clear z0 hb0 hR
  go_enter Try.func106, Try.ntmps106
  go_wp2_with fail
  refine HT.out.mono ?_
  rintro e v1 ⟨v, rfl, hv, hb1⟩
  obtain ⟨o1, c1, rfl, hr1⟩ := hv.open
  rw [HN.out] at hr1 ⊢
  have hp := pairTableFrom_any o1 c1 (rowsOf (fun b => pairI key b l) 8) v1 hr1 (by rw [rowsOf_length]; omega) (fun i hi => by rw [rowsOf_length] at hi; rw [rowsOf_get _ _ _ hi]; have := pairI_len key i l; omega)
  rw [HOK.out, if_pos rfl, rowsOf_length] at hp
  unfold ptv at hp
  rw [HF.out] at hp
  have HP := hide hp
  have HB1 := hide (HB0.out.trans (hb1.mono HB0.out.size))
  have HZ1 := hide ((hb1.block _ (Array.getElem?_eq_some_iff.1 HZ.out).1).trans HZ.out)
  clear hv hb1 hr1 hp HT
  go_wp2_with fail
  refine HP.out.mono ?_
  rintro e v2 ⟨rfl, hb2⟩
  have HB2 := hide (HB1.out.trans (hb2.mono HB1.out.size))
  have hz2 := (hb2.block _ (Array.getElem?_eq_some_iff.1 HZ1.out).1).trans HZ1.out
  obtain ⟨W3, hW3⟩ : ∃ W, (v2.alloc (.cells #[.bool false, .int .i64 0, .int .i64 0, .bool false, .int .i64 0, .int .i64 0, .bool false, .int .i64 0, .int .i64 0, .bool false, .int .i64 0, .int .i64 0, .bool false, .int .i64 0, .int .i64 0, .bool false, .int .i64 0, .int .i64 0, .bool false, .int .i64 0, .int .i64 0, .bool false, .int .i64 0, .int .i64 0] 108)) = W := ⟨_, rfl⟩
  have z3 : Hid (W3.heap[v2.heap.size]? = some (.cells (ptA ptZ) 108 (0, 0))) := by rw [← hW3]; exact World.alloc_heap_new v2 _
  have z4 : Hid (W3.heap[w.heap.size]? = some (.cells (ptA ptZ) 108 (0, 0))) := by rw [← hW3]; exact (Below.heap_alloc _ _ _ (Array.getElem?_eq_some_iff.1 hz2).1).trans hz2
  have HNE : Hid (w.heap.size ≠ v2.heap.size) := Nat.ne_of_lt (Array.getElem?_eq_some_iff.1 hz2).1
  have HB3 : Hid (Below w.heap.size w W3) := by rw [← hW3]; exact HB2.out.alloc HB2.out.size _
  have hle : w.heap.size ≤ v2.heap.size := HB2.out.size
  clear hb2 hz2 HB2 HP HB1 HZ1 HB0 HZ
  go_wp2_with (first | (refine wpList_store_pt rfl (.tmp 5) (.tmp 12) rfl v2.heap.size (newF key l) ptZ rfl rfl z3.out ?_) | (refine wpList_load_pt rfl (.tmp 5) rfl v2.heap.size rfl (newF key l) (setRow_heap _ _ _ _ _ _ z3.out) ?_) | (refine wpList_store_pt rfl (.tmp 4) (.tmp 14) rfl w.heap.size (newF key l) ptZ rfl rfl ((setRow_other _ _ _ _ HNE.out).trans z4.out) ?_))
  refine bodyPost_ret (results_pt1 rfl _ _ w.heap.size (newF key l) rfl (setRow_heap _ _ _ _ _ _ ((setRow_other _ _ _ _ HNE.out).trans z4.out))) rfl ⟨rfl, below_row (below_row HB3.out hle _) (Nat.le_refl _) _⟩

end Go.Proofs.Ytldjaapbkihibaa

/- Moved on both sides. -/
namespace Go.Proofs.Ytldjaapbkihibaa
open Go.ChangeShapes Go.WideShapes Go.ChangeAt Go.RowKit Go.Joins
set_option linter.unusedVariables false
set_option linter.unusedSimpArgs false

/-- How many of the first k rows are unlike. -/
def movedTo (aa bb : List (List Int)) : Nat → Int
  | 0 => 0
  | k + 1 => movedTo aa bb k + (if aa.getD k [] = bb.getD k [] then 0 else 1)
theorem movedTo_bd (aa bb : List (List Int)) : ∀ k, 0 ≤ movedTo aa bb k ∧ movedTo aa bb k ≤ k
  | 0 => ⟨Int.le_refl _, Int.le_refl _⟩
  | k + 1 => by have := movedTo_bd aa bb k; unfold movedTo; split <;> omega
def movedI (aa bb : List (List Int)) : Int := if aa.length = 8 ∧ bb.length = 8 then movedTo aa bb 8 else -1

theorem movedI_no {aa bb : List (List Int)} (h : ¬ (aa.length = 8 ∧ bb.length = 8)) : -1 = movedI aa bb := by rw [movedI, if_neg h]
theorem movedTo_same {aa bb : List (List Int)} {k : Nat} {ra rb : List Int} (h1 : aa.getD k [] = ra) (h2 : bb.getD k [] = rb) (h : ra = rb) : movedTo aa bb k = movedTo aa bb (k + 1) := by
  unfold movedTo; rw [h1, h2, if_pos h]; cases k <;> simp [movedTo]
theorem movedTo_diff {aa bb : List (List Int)} {k : Nat} {ra rb : List Int} (h1 : aa.getD k [] = ra) (h2 : bb.getD k [] = rb) (h : ra ≠ rb) : movedTo aa bb k + 1 = movedTo aa bb (k + 1) := by
  rw [show movedTo aa bb (k + 1) = movedTo aa bb k + (if aa.getD k [] = bb.getD k [] then 0 else 1) from rfl, h1, h2, if_neg h]

set_option maxHeartbeats 1000000 in
theorem slicesEqual_any (o1 o2 : Option Addr) (c1 c2 : Nat) (l1 l2 : List Int) (w : World) (h1 : RdI w.heap.size w o1 l1) (h2 : RdI w.heap.size w o2 l2) (hl1 : l1.length ≤ 1048576) (hl2 : l2.length ≤ 1048576) :
    Calls Try.prog 61 #[.slice o1 l1.length c1, .slice o2 l2.length c2] w fun e w' => e = .returned (.bool (decide (l1 = l2))) ∧ Below w.heap.size w w' := by
  by_cases hlen : l1.length = l2.length
  · have hne : ((l1.length : Int) != (l2.length : Int)) = false := by simp [hlen]
    have HL := hide hlen
    have hle : l1.length ≤ l2.length := by omega
    have hge : l2.length ≤ l1.length := by omega
    clear hlen
    go_enter Try.func61, Try.ntmps61
    go_wp2
    go_loopw [4, 13] (fun rv i wr => ∃ k : Nat, k ≤ l1.length ∧ i = .int .i64 k ∧ rv = .bool false ∧ l1.take k = l2.take k ∧ Below w.heap.size w wr)
      (fun _ i _ => l1.length - (intOf i).toNat)
    case atStart => exact ⟨0, Nat.zero_le _, rfl, rfl, rfl, Below.refl _ _⟩
    case round =>
      obtain ⟨k, hk, rfl, rfl, htk, hBr⟩ := hrel
      have HT := hide htk
      by_cases hlt : k < l1.length
      · rcases h1 with h1 | ⟨b1, off1, rfl, hb1, hcell1⟩
        · subst h1; simp at hlt
        rcases h2 with h2 | ⟨b2, off2, rfl, hb2, hcell2⟩
        · subst h2; simp at hle; simp [hle] at hlt
        have hlt2 : k < l2.length := by omega
        have hc1 : wr.cell? ⟨b1, off1 + k, none⟩ = some (.int .i64 (l1.getD k 0)) := (hBr.cell (p := ⟨b1, off1 + k, none⟩) hb1).trans (RdL.int hcell1 k hlt)
        have hc2 : wr.cell? ⟨b2, off2 + k, none⟩ = some (.int .i64 (l2.getD k 0)) := (hBr.cell (p := ⟨b2, off2 + k, none⟩) hb2).trans (RdL.int hcell2 k hlt2)
        have HB := hide hBr
        have t1 := hide (take_succ_getD l1 k hlt)
        have t2 := hide (take_succ_getD l2 k hlt2)
        have N12 : Hid (l1 = l2 → l1.getD k 0 = l2.getD k 0) := fun h => by rw [h]
        clear hcell1 hcell2
        have i1 : (k : Int) < (l1.length : Int) := by omega
        have i2 : (k : Int) < (l2.length : Int) := by omega
        generalize l1.getD k 0 = x at *
        generalize l2.getD k 0 = y at *
        clear htk hBr
        by_cases hxy : x = y
        · have hb : (x != y) = false := by simp [hxy]
          have HX := hide hxy
          clear hxy N12
          go_wp2
          go_quiet (fail)
          go_wp2
          go_roundw
          case rel =>
            refine ⟨k + 1, by omega, by go_num, rfl, ?_, ?_⟩
            · rw [t1.out, t2.out, HT.out, HX.out]
            · exact below_drewN HB.out _
          case measure => simp [intOf]; omega
        · have hb : (x != y) = true := by simp [hxy]
          have HX : Hid (l1 ≠ l2) := fun h => hxy (N12.out h)
          clear hxy N12 t1 t2
          go_wp2
          go_quiet (fail)
          go_wp2
          go_ret
          exact ⟨ret_bool (decide_eq_false HX.out).symm, below_drewN HB.out _⟩
      · have e : l1 = l2 := by
          have := htk; rw [List.take_of_length_le (by omega), List.take_of_length_le (by omega)] at this; exact this
        have HE := hide e
        have HB := hide hBr
        clear e htk hBr
        go_wp2
        go_ret
        exact ⟨ret_bool (decide_eq_true HE.out).symm, HB.out⟩
  · have hne : ((l1.length : Int) != (l2.length : Int)) = true := by simp; omega
    have HE : Hid (l1 ≠ l2) := fun h => hlen (by rw [h])
    go_enter Try.func61, Try.ntmps61
    go_wp2
    go_ret
    exact ⟨ret_bool (decide_eq_false HE.out).symm, Below.refl _ _⟩

set_option maxHeartbeats 2000000 in
theorem implMoved_any (oa ob : Option Addr) (ca cb : Nat) (aa bb : List (List Int)) (w : World) (hA : RdLL w.heap.size w oa aa) (hB : RdLL w.heap.size w ob bb) (la : aa.length ≤ 1048576) (lb : bb.length ≤ 1048576)
    (xa : ∀ i, i < aa.length → (aa.getD i []).length ≤ 1048576) (xb : ∀ i, i < bb.length → (bb.getD i []).length ≤ 1048576) :
    Calls Try.prog 17 #[.slice oa aa.length ca, .slice ob bb.length cb] w fun e w' => e = .returned (.int .i64 (movedI aa bb)) ∧ Below w.heap.size w w' := by
  by_cases h8 : aa.length = 8 ∧ bb.length = 8
  · have HE := hide (show movedTo aa bb 8 = movedI aa bb by rw [movedI, if_pos h8])
    obtain ⟨e1, e2⟩ := h8
    have HE1 := hide e1
    have HE2 := hide e2
    go_enter Try.func17, Try.ntmps17
    go_wp2
    clear e1 e2
    go_loopw [5, 18] (fun n i wr => ∃ k : Nat, k ≤ 8 ∧ i = .int .i64 k ∧ n = .int .i64 (movedTo aa bb k) ∧ Below w.heap.size w wr)
      (fun _ i _ => 8 - (intOf i).toNat)
    case atStart => exact ⟨0, Nat.zero_le _, rfl, rfl, Below.refl _ _⟩
    case round =>
      obtain ⟨k, hk, rfl, rfl, hBr⟩ := hrel
      have hbd := movedTo_bd aa bb k
      by_cases hlt : k < 8
      · have i1 : k < aa.length := by rw [HE1.out]; exact hlt
        have i2 : k < bb.length := by rw [HE2.out]; exact hlt
        have j1 : (k : Int) < (aa.length : Int) := by omega
        have j2 : (k : Int) < (bb.length : Int) := by omega
        obtain ⟨b1, off1, o1', c1', rfl, hb1, hc1, hr1⟩ := hA.at (Nat.le_refl _) k i1
        obtain ⟨b2, off2, o2', c2', rfl, hb2, hc2, hr2⟩ := hB.at (Nat.le_refl _) k i2
        have hxa := xa k i1
        have hxb := xb k i2
        have hc1r := (hBr.cell (p := ⟨b1, off1 + k, none⟩) hb1).trans hc1
        have hc2r := (hBr.cell (p := ⟨b2, off2 + k, none⟩) hb2).trans hc2
        replace hr1 := (hr1.kept hBr (Nat.le_refl _)).le hBr.size
        replace hr2 := (hr2.kept hBr (Nat.le_refl _)).le hBr.size
        have HB := hide hBr
        clear hc1 hc2 xa xb hA hB hBr
        generalize hra : aa.getD k [] = ra at *
        generalize hrb : bb.getD k [] = rb at *
        have hq := slicesEqual_any o1' o2' c1' c2' ra rb wr hr1 hr2 hxa hxb
        clear hr1 hr2
        by_cases hab : ra = rb
        · have HM := hide (movedTo_same hra hrb hab)
          rw [decide_eq_true hab] at hq
          clear hra hrb hab
          go_wp2_with fail
          refine hq.mono ?_
          rintro e w2 ⟨rfl, hb2'⟩
          go_wp2
          go_roundw
          case rel => exact ⟨k + 1, by omega, by go_num, by rw [HM.out], HB.out.trans (hb2'.mono HB.out.size)⟩
          case measure => simp [intOf]; omega
        · have HM := hide (movedTo_diff hra hrb hab)
          rw [decide_eq_false hab] at hq
          clear hra hrb hab
          go_wp2_with fail
          refine hq.mono ?_
          rintro e w2 ⟨rfl, hb2'⟩
          go_wp2
          go_roundw
          case rel => exact ⟨k + 1, by omega, by go_num, by rw [← HM.out], HB.out.trans (hb2'.mono HB.out.size)⟩
          case measure => simp [intOf]; omega
      · have e : k = 8 := by omega
        subst e
        go_wp2
        go_ret
        exact ⟨ret_int HE.out, hBr⟩
  · have HN := hide (movedI_no h8)
    by_cases h1 : aa.length = 8
    · have h2 : ¬ bb.length = 8 := fun h => h8 ⟨h1, h⟩
      have n2 : ((bb.length : Int) != 8) = true := by simp; omega
      go_enter Try.func17, Try.ntmps17
      go_wp2
      go_ret
      exact ⟨ret_int HN.out, Below.refl _ _⟩
    · have n1 : ((aa.length : Int) != 8) = true := by simp; omega
      go_enter Try.func17, Try.ntmps17
      go_wp2
      go_ret
      exact ⟨ret_int HN.out, Below.refl _ _⟩

set_option maxHeartbeats 2000000 in
theorem specMoved_any (oa ob : Option Addr) (ca cb : Nat) (aa bb : List (List Int)) (w : World) (hA : RdLL w.heap.size w oa aa) (hB : RdLL w.heap.size w ob bb) (la : aa.length ≤ 1048576) (lb : bb.length ≤ 1048576)
    (xa : ∀ i, i < aa.length → (aa.getD i []).length ≤ 1048576) (xb : ∀ i, i < bb.length → (bb.getD i []).length ≤ 1048576) :
    Calls Try.prog 60 #[.slice oa aa.length ca, .slice ob bb.length cb] w fun e w' => e = .returned (.int .i64 (movedI aa bb)) ∧ Below w.heap.size w w' := by
  by_cases h8 : aa.length = 8 ∧ bb.length = 8
  · have HE := hide (show movedTo aa bb 8 = movedI aa bb by rw [movedI, if_pos h8])
    obtain ⟨e1, e2⟩ := h8
    have HE1 := hide e1
    have HE2 := hide e2
    go_enter Try.func60, Try.ntmps60
    go_wp2
    have la8 : aa.length ≤ 8 := by omega
    have lb8 : 8 ≤ aa.length := by omega
    clear e1 e2
    go_loopw [5, 6] (fun n i wr => ∃ k : Nat, k ≤ 8 ∧ i = .int .i64 k ∧ n = .int .i64 (movedTo aa bb k) ∧ Below w.heap.size w wr)
      (fun _ i _ => 8 - (intOf i).toNat)
    case atStart => exact ⟨0, Nat.zero_le _, rfl, rfl, Below.refl _ _⟩
    case round =>
      obtain ⟨k, hk, rfl, rfl, hBr⟩ := hrel
      have hbd := movedTo_bd aa bb k
      by_cases hlt : k < 8
      · have i1 : k < aa.length := by rw [HE1.out]; exact hlt
        have i2 : k < bb.length := by rw [HE2.out]; exact hlt
        have j1 : (k : Int) < (aa.length : Int) := by omega
        have j2 : (k : Int) < (bb.length : Int) := by omega
        obtain ⟨b1, off1, o1', c1', rfl, hb1, hc1, hr1⟩ := hA.at (Nat.le_refl _) k i1
        obtain ⟨b2, off2, o2', c2', rfl, hb2, hc2, hr2⟩ := hB.at (Nat.le_refl _) k i2
        have hxa := xa k i1
        have hxb := xb k i2
        have hc1r := (hBr.cell (p := ⟨b1, off1 + k, none⟩) hb1).trans hc1
        have hc2r := (hBr.cell (p := ⟨b2, off2 + k, none⟩) hb2).trans hc2
        have HB := hide hBr
        clear xa xb hA hB hBr
        generalize hra : aa.getD k [] = ra at *
        generalize hrb : bb.getD k [] = rb at *
        have HS := hide (movedTo_same hra hrb)
        have HD := hide (movedTo_diff hra hrb)
        clear hra hrb
        go_wp2
        go_quiet (fail)
        have hBq : Below w.heap.size w (wr.drewN nq) := below_drewN HB.out _
        have hq1 := (hBq.cell (p := ⟨b1, off1 + k, none⟩) hb1).trans hc1
        have hq2 := (hBq.cell (p := ⟨b2, off2 + k, none⟩) hb2).trans hc2
        clear HB hc1r hc2r
        generalize wr.drewN nq = wo at *
        have HBo := hide hBq
        clear hBq
        go_wp2
        go_loopw [7, 8] (fun s j wi => ∃ (q : Nat) (t : Bool), q ≤ ra.length ∧ j = .int .i64 q ∧ s = .bool t ∧ (t = true ↔ ra.length = rb.length ∧ ra.take q = rb.take q) ∧ Below w.heap.size w wi)
          (fun _ j _ => ra.length - (intOf j).toNat)
        case atStart => exact ⟨0, _, Nat.zero_le _, rfl, rfl, by simp [Int.ofNat_inj], HBo.out⟩
        case round =>
          obtain ⟨q, t, hq, rfl, rfl, ht, hBi⟩ := hrel
          have HT := hide ht
          have HBi := hide hBi
          have r1 := (hBi.cell (p := ⟨b1, off1 + k, none⟩) hb1).trans hc1
          have r2 := (hBi.cell (p := ⟨b2, off2 + k, none⟩) hb2).trans hc2
          clear ht hBi hq1 hq2
          by_cases hql : q < ra.length
          · cases t with
            | true =>
              obtain ⟨HL, HTk⟩ := HT.out.1 rfl
              have hqr : q < rb.length := by omega
              have z1 : (q : Int) < (ra.length : Int) := by omega
              have z2 : (q : Int) < (rb.length : Int) := by omega
              have HL' := hide HL
              have HTk' := hide HTk
              rcases hr1 with hr1 | ⟨g1, f1, rfl, hg1, hcell1⟩
              · subst hr1; simp at hql
              rcases hr2 with hr2 | ⟨g2, f2, rfl, hg2, hcell2⟩
              · subst hr2; simp at hqr
              have y1 : wr.cell? ⟨g1, f1 + q, none⟩ = some (.int .i64 (ra.getD q 0)) := (HBi.out.cell (p := ⟨g1, f1 + q, none⟩) hg1).trans (RdL.int hcell1 q hql)
              have y2 : wr.cell? ⟨g2, f2 + q, none⟩ = some (.int .i64 (rb.getD q 0)) := (HBi.out.cell (p := ⟨g2, f2 + q, none⟩) hg2).trans (RdL.int hcell2 q hqr)
              have t1 := hide (take_succ_getD ra q hql)
              have t2 := hide (take_succ_getD rb q hqr)
              clear hcell1 hcell2 HT HL HTk hc1 hc2
              generalize ra.getD q 0 = x at *
              generalize rb.getD q 0 = y at *
              go_wp2
              go_quiet (fail)
              go_wp2
              go_roundw
              case rel =>
                refine ⟨q + 1, _, by omega, by go_num, rfl, ?_, below_drewN HBi.out _⟩
                rw [t1.out, t2.out, HTk'.out, List.append_cancel_left_eq]
                simp [HL'.out]
              case measure => simp [intOf]; omega
            | false =>
              have HN : Hid (ra ≠ rb) := fun h => by
                have := HT.out.2 ⟨by rw [h], by rw [h]⟩
                cases this
              have HM := hide (HD.out HN.out)
              have z1 : (q : Int) < (ra.length : Int) := by omega
              clear HT hc1 hc2
              go_wp2
              go_roundw
              case rel => exact ⟨k + 1, by omega, by go_num, by rw [← HM.out], HBi.out⟩
              case measure => simp [intOf]; omega
          · have eq : q = ra.length := by omega
            subst eq
            have z1 : ¬ (ra.length : Int) < (ra.length : Int) := by omega
            cases t with
            | true =>
              have HY : Hid (ra = rb) := by
                obtain ⟨h1, h2⟩ := HT.out.1 rfl
                rw [List.take_of_length_le (Nat.le_refl _), List.take_of_length_le (by omega)] at h2
                exact h2
              have HM := hide (HS.out HY.out)
              clear HT hc1 hc2
              go_wp2
              go_roundw
              case rel => exact ⟨k + 1, by omega, by go_num, by rw [HM.out], HBi.out⟩
              case measure => simp [intOf]; omega
            | false =>
              have HN : Hid (ra ≠ rb) := fun h => by
                have := HT.out.2 ⟨by rw [h], by rw [h]⟩
                cases this
              have HM := hide (HD.out HN.out)
              clear HT hc1 hc2
              go_wp2
              go_roundw
              case rel => exact ⟨k + 1, by omega, by go_num, by rw [← HM.out], HBi.out⟩
              case measure => simp [intOf]; omega
      · have e : k = 8 := by omega
        subst e
        have nl : ¬ (8 : Int) < (aa.length : Int) := by omega
        go_wp2
        go_ret
        exact ⟨ret_int HE.out, hBr⟩
  · have HN := hide (movedI_no h8)
    by_cases h1 : aa.length = 8
    · have h2 : ¬ bb.length = 8 := fun h => h8 ⟨h1, h⟩
      have n2 : ((bb.length : Int) != 8) = true := by simp; omega
      go_enter Try.func60, Try.ntmps60
      go_wp2
      go_ret
      exact ⟨ret_int HN.out, Below.refl _ _⟩
    · have n1 : ((aa.length : Int) != 8) = true := by simp; omega
      go_enter Try.func60, Try.ntmps60
      go_wp2
      go_ret
      exact ⟨ret_int HN.out, Below.refl _ _⟩

end Go.Proofs.Ytldjaapbkihibaa

/- Pools as an argument of the laws: how they are opened, counted and copied. -/
namespace Go.Proofs.Ytldjaapbkihibaa
open Go.ChangeShapes Go.WideShapes Go.ChangeAt Go.RowKit Go.Joins
set_option linter.unusedVariables false
set_option linter.unusedSimpArgs false

theorem fitsRow {n : Nat} : True := trivial
theorem bx_allP {W : World} {B : Nat} {x y z : Value} {T : TypeId} (h : W.heap[B]? = some (.cells #[x, y, z] T (0, 0))) : W.cell? ⟨B, 0, none⟩ = some x ∧ W.cell? ⟨B, 1, none⟩ = some y ∧ W.cell? ⟨B, 2, none⟩ = some z ∧ W.frozen? ⟨B, 0, none⟩ = false ∧ W.frozen? ⟨B, 1, none⟩ = false ∧ W.frozen? ⟨B, 2, none⟩ = false :=
  ⟨bx_cell h 0 _ rfl, bx_cell h 1 _ rfl, bx_cell h 2 _ rfl, bx_frozen h 0, bx_frozen h 1, bx_frozen h 2⟩
theorem setP_belowT {C : Nat} {w W : World} {B : Nat} (h : Below C w W) (hB : C ≤ B) (x y z : Value) : Below C w (setP W B x y z) := ((h.setCell (p := ⟨B, 0, none⟩) hB _).setCell (p := ⟨B, 1, none⟩) hB _).setCell (p := ⟨B, 2, none⟩) hB _
theorem setP_sizeT (W : World) (B : Nat) (x y z : Value) : (setP W B x y z).heap.size = W.heap.size := by simp [World.setCell]
theorem stp_setT (W : World) (B : Nat) (x y z : Value) : Stp B (B + 1) W (setP W B x y z) := ((stp_set W B 0 x).trans (stp_set _ B 1 y)).trans (stp_set _ B 2 z)
theorem in_monoT {lo lo' hi : Nat} {w : World} {v : Value} {m : Pm} (h : InPm lo hi w v m) (hl : lo' ≤ lo) : InPm lo' hi w v m := by
  obtain ⟨vb, vr, mid, e, k1, k2, h1, h2⟩ := h
  exact ⟨vb, vr, mid, e, by omega, k2, InRow.mono h1 hl (Nat.le_refl _), h2⟩
theorem box_new3 (w : World) (c : Array Value) (T : TypeId) (o1 o2 : Obj) : (((w.alloc o1).alloc o2).alloc (.cells c T)).heap[w.heap.size + 1 + 1]? = some (.cells c T (0, 0)) := by
  have h := World.alloc_heap_new ((w.alloc o1).alloc o2) (.cells c T)
  rw [World.size_alloc, World.size_alloc] at h
  exact h
theorem box_mid3 (w : World) (c : Array Value) (T : TypeId) (o1 o2 : Obj) : (((w.alloc o1).alloc (.cells c T)).alloc o2).heap[w.heap.size + 1]? = some (.cells c T (0, 0)) := by
  have h := box_new2 w c T o1
  exact (Below.heap_alloc _ _ _ (by simp)).trans h
theorem fillU_step {T : TypeId} {wr : World} {base g : Nat} {hs : List Hd} {k n : Nat} {o : Option Addr} {m c : Nat} (hk : k < n) (hl : hs.length = k) (h : wr.ownsRow base T 1 (.slice (some ⟨g, 0, none⟩) n n) n ((hs ++ List.replicate (n - k) layH.d).flatMap layH.cs)) :
    (wr.setCell ⟨g, k, none⟩ (.slice o m c)).ownsRow base T 1 (.slice (some ⟨g, 0, none⟩) n n) n (((hs ++ [(o, m, c)]) ++ List.replicate (n - (k + 1)) layH.d).flatMap layH.cs) := by
  have h1 := (h.stored k (.slice o m c)).1
  rw [flat_set1 layH rfl (a := (o, m, c)) rfl] at h1
  have e1 : n - k = (n - (k + 1)) + 1 := by omega
  rw [e1, List.replicate_succ, List.set_append_right _ _ (by omega), hl, Nat.sub_self, List.set_cons_zero] at h1
  rw [List.append_assoc]
  exact h1
theorem RiT.at {a C : Nat} {w : World} {o : Option Addr} {n c : Nat} {ll : List (List Int)} (h : RiT a C w (.slice o n c) ll) (hC : C ≤ w.heap.size) (i : Nat) (hi : i < ll.length) : ∃ b off o' c', o = some ⟨b, off, none⟩ ∧ b < C ∧ w.cell? ⟨b, off + i, none⟩ = some (.slice o' (ll.getD i []).length c') ∧ RdI C w o' (ll.getD i []) := by
  obtain ⟨hs, h0, h1, h2⟩ := h
  obtain ⟨o1, c1, e, r⟩ := h1.open
  injection e with e1 e2 e3
  subst e1
  rcases r with r | ⟨b, off, ho, hb, r⟩
  · subst r; simp at h0; omega
  · obtain ⟨o', c', e', r'⟩ := (h2 i hi).open
    have hc := RdL.head r i (by omega)
    unfold hv at e'
    rw [e'] at hc
    exact ⟨b, off, o', c', ho, hb, hc, r'⟩

set_option maxRecDepth 100000 in
set_option maxHeartbeats 2000000 in
theorem toIntSS_in (v : Value) (xs : List (List Int)) (w : World) (hR : RiT 0 w.heap.size w v xs) (hlen : xs.length ≤ 1048576) (hx : ∀ i, i < xs.length → (xs.getD i []).length ≤ 1048576) :
    Calls Try.prog 120 #[v] w fun e w' => ∃ v', e = .returned v' ∧ InT w.heap.size w'.heap.size w' v' xs ∧ Below w.heap.size w w' := by
  obtain ⟨o, cap, ev⟩ : ∃ o c, v = .slice o xs.length c := by
    obtain ⟨hs, h0, ⟨o, c, e, _⟩, _⟩ := hR
    exact ⟨o, c, by rw [e, h0]⟩
  subst ev
  obtain ⟨i0, hi, hz0, hz1, hz2⟩ := info_parts infoIntS
  have HR0 := hide hR
  clear hR
  go_enter Try.func120, Try.ntmps120
  go_wp2_with (at_make; refine wpList_make_full _ rfl _ _ 37 rfl w.heap.size 43 i0 (.slice none 0 0) 1 Try.underlying37 hi hz0 hz1 _ _ _ _ xs.length rfl rfl rfl rfl ?b2 ?b3 ?b4 ?_)
  case b2 => rw [hz2]; omega
  case b3 => unfold maxLen; omega
  case b4 => simp
  intro w3 hown hgrow
  have HB3 := hide (show Below w.heap.size w w3 from (Below.refl _ _).grown hgrow (Nat.le_refl _) (fun k h => by cases h))
  have HO3 : Hid (w3.ownsRow w.heap.size 43 1 (.slice (some ⟨w.heap.size, 0, none⟩) xs.length xs.length) xs.length ((([] : List Hd) ++ List.replicate (xs.length - 0) layH.d).flatMap layH.cs)) := by
    rw [List.nil_append, Nat.sub_zero, ← made_flat layH (.slice none 0 0) rfl, show layH.k = 1 from rfl, Nat.mul_one]; exact hown
  have hs3 : w.heap.size + 1 ≤ w3.heap.size := (hown.lt w.heap.size rfl).2
  clear hown hgrow
  go_wp2
  go_loopw [4] (fun iv wr => ∃ (k : Nat) (hs : List Hd) (L H : Nat → Nat), k ≤ xs.length ∧ iv = .int .i64 (k : Int) ∧ Hid (wr.ownsRow w.heap.size 43 1 (.slice (some ⟨w.heap.size, 0, none⟩) xs.length xs.length) xs.length ((hs ++ List.replicate (xs.length - k) layH.d).flatMap layH.cs)) ∧ Hid (Rw InI [] (xs.take k) (w.heap.size + 1) wr.heap.size wr hs L H) ∧ Hid (Below w.heap.size w wr) ∧ w.heap.size + 1 ≤ wr.heap.size)
    (fun iv _ => xs.length - (intOf iv).toNat)
  case atStart => exact ⟨0, [], fun _ => 0, fun _ => 0, Nat.zero_le _, rfl, HO3.out, by rw [List.take_zero]; exact Rw.nil _ _ _ _ _ _ _, HB3.out, hs3⟩
  case round =>
    obtain ⟨k, hs, L, H, hk8, rfl, HO, HR, HBr, hsr⟩ := hrel
    clear HO3 HB3 hs3
    have hhl : hs.length = k := by have h1 := HR.out.len; rw [List.length_take] at h1; omega
    by_cases hlt : k < xs.length
    · have z1 : (k : Int) < (xs.length : Int) := by omega
      have HS := hide (show xs.take (k + 1) = xs.take k ++ [xs.getD k []] by rw [List.take_succ_eq_append_getElem hlt]; simp [hlt])
      obtain ⟨b, off, o', c', rfl, hbl, hc0, hr0⟩ := HR0.out.at (Nat.le_refl _) k hlt
      have hc := bC HBr.out hc0 hbl
      have hbw : b < wr.heap.size := by omega
      have HL := hide (toIntS_any o' c' (xs.getD k []) wr ((hr0.kept HBr.out (Nat.le_refl _)).le HBr.out.size) (hx k hlt))
      have HXL := hide hlen
      clear hc0 hr0
      have HHL := hide hhl
      have hxs := HXL.out
      clear hxs
      obtain ⟨row, hrow⟩ : ∃ r, xs.getD k [] = r := ⟨_, rfl⟩
      rw [hrow] at HL hc HS
      clear hrow
      obtain ⟨q, hq⟩ : ∃ q, row.length = q := ⟨_, rfl⟩
      rw [hq] at HL hc
      have HQ := hide hq
      clear hq
      go_wp2_with fail
      refine HL.out.mono ?_
      rintro e v1 ⟨g4, rfl, ow4, hb4⟩
      obtain ⟨o4, ho4⟩ : ∃ o : Option Addr, some ⟨g4, 0, none⟩ = o := ⟨_, rfl⟩
      rw [ho4] at ow4 ⊢
      have HIN : Hid (InI wr.heap.size v1.heap.size v1 (.slice o4 q q) row) := InRow.of ow4
      clear ow4
      have HO4 := hide (own_kept HO.out hb4)
      have hln : ((hs ++ List.replicate (xs.length - k) layH.d).flatMap layH.cs).length = xs.length := by rw [flat_length, List.length_append, List.length_replicate, HHL.out, show layH.k = 1 from rfl]; omega
      have hcl := HO4.out.cellAt k (by omega)
      have hfr := HO4.out.frozenAt k
      obtain ⟨u, hu⟩ : ∃ u, v1.cell? ⟨w.heap.size, k, none⟩ = some u := ⟨_, hcl.trans (List.getElem?_eq_getElem (by omega))⟩
      have HO5 := hide (fillU_step (o := o4) (m := q) (c := q) hlt HHL.out HO4.out)
      have HR4 := (HR.out.kept InI.stp hb4).snoc (l2 := wr.heap.size) (h2 := v1.heap.size) (Nat.le_refl _) (by omega) hb4.size (x := row) (o := o4) (m := q) (c := q) HIN.out
      rw [← HS.out] at HR4
      have HR5 := HR4.step InI.stp (stp_set v1 w.heap.size k (.slice o4 q q)) (fun i hi => .inl (HR4.bd i hi).1)
      have HR6 : Hid (Rw InI [] (xs.take (k + 1)) (w.heap.size + 1) (v1.setCell ⟨w.heap.size, k, none⟩ (.slice o4 q q)).heap.size (v1.setCell ⟨w.heap.size, k, none⟩ (.slice o4 q q)) _ _ _) := HR5.mono (Nat.le_refl _) (by simp)
      have HB5 := hide ((HBr.out.trans (hb4.mono HBr.out.size)).setCell (p := ⟨w.heap.size, k, none⟩) (Nat.le_refl _) (.slice o4 q q))
      have hs5 : w.heap.size + 1 ≤ v1.heap.size := by have := hb4.size; omega
      clear hb4 hcl HR4 HR5 hln HL hhl hc
      go_wp2
      go_roundw
      case rel => exact ⟨k + 1, _, _, _, by omega, by go_num, HO5.out, HR6.out, HB5.out, by simpa using hs5⟩
      case measure => simp [intOf]; omega
    · have e : k = xs.length := by omega
      subst e
      go_wp2
      go_ret
      have h1 := HO.out
      rw [Nat.sub_self, List.replicate_zero, List.append_nil] at h1
      have h2 := HR.out
      rw [List.take_length] at h2
      have h3 : ∀ b, (Value.slice (some ⟨w.heap.size, 0, none⟩) xs.length xs.length).ownBlock = some b → b = w.heap.size := fun b e => (Option.some.inj e).symm
      have h4 : InT w.heap.size wr.heap.size wr (.slice (some ⟨w.heap.size, 0, none⟩) xs.length xs.length) xs := by
        refine ⟨hs, L, H, ⟨by rw [hhl]; exact h1, fun b e => ?_⟩, h2.mono (by omega) (Nat.le_refl _), fun i hi b e => ?_⟩
        · have := h3 b e; omega
        · have := h3 b e
          have := h2.bd i hi
          omega
      exact ⟨_, rfl, h4, HBr.out⟩

set_option maxRecDepth 100000 in
set_option maxHeartbeats 2000000 in
theorem toIntSSS_in (v : Value) (xs : List (List (List Int))) (w : World) (hR : RiR 0 w.heap.size w v xs) (hlen : xs.length ≤ 1048576) (hx : ∀ i, i < xs.length → (xs.getD i []).length ≤ 1048576) (hy : ∀ i, i < xs.length → ∀ j, j < (xs.getD i []).length → ((xs.getD i []).getD j []).length ≤ 1048576) :
    Calls Try.prog 86 #[v] w fun e w' => ∃ v', e = .returned v' ∧ InR w.heap.size w'.heap.size w' v' xs ∧ Below w.heap.size w w' := by
  obtain ⟨o, cap, ev⟩ : ∃ o c, v = .slice o xs.length c := by
    obtain ⟨hs, h0, ⟨o, c, e, _⟩, _⟩ := hR
    exact ⟨o, c, by rw [e, h0]⟩
  subst ev
  obtain ⟨i0, hi, hz0, hz1, hz2⟩ := info_parts infoIntSS
  have HR0 := hide hR
  clear hR
  go_enter Try.func86, Try.ntmps86
  go_wp2_with (at_make; refine wpList_make_full _ rfl _ _ 24 rfl w.heap.size 37 i0 (.slice none 0 0) 1 Try.underlying24 hi hz0 hz1 _ _ _ _ xs.length rfl rfl rfl rfl ?b2 ?b3 ?b4 ?_)
  case b2 => rw [hz2]; omega
  case b3 => unfold maxLen; omega
  case b4 => simp
  intro w3 hown hgrow
  have HB3 := hide (show Below w.heap.size w w3 from (Below.refl _ _).grown hgrow (Nat.le_refl _) (fun k h => by cases h))
  have HO3 : Hid (w3.ownsRow w.heap.size 37 1 (.slice (some ⟨w.heap.size, 0, none⟩) xs.length xs.length) xs.length ((([] : List Hd) ++ List.replicate (xs.length - 0) layH.d).flatMap layH.cs)) := by
    rw [List.nil_append, Nat.sub_zero, ← made_flat layH (.slice none 0 0) rfl, show layH.k = 1 from rfl, Nat.mul_one]; exact hown
  have hs3 : w.heap.size + 1 ≤ w3.heap.size := (hown.lt w.heap.size rfl).2
  clear hown hgrow
  go_wp2
  go_loopw [4] (fun iv wr => ∃ (k : Nat) (hs : List Hd) (L H : Nat → Nat), k ≤ xs.length ∧ iv = .int .i64 (k : Int) ∧ Hid (wr.ownsRow w.heap.size 37 1 (.slice (some ⟨w.heap.size, 0, none⟩) xs.length xs.length) xs.length ((hs ++ List.replicate (xs.length - k) layH.d).flatMap layH.cs)) ∧ Hid (Rw InT [] (xs.take k) (w.heap.size + 1) wr.heap.size wr hs L H) ∧ Hid (Below w.heap.size w wr) ∧ w.heap.size + 1 ≤ wr.heap.size)
    (fun iv _ => xs.length - (intOf iv).toNat)
  case atStart => exact ⟨0, [], fun _ => 0, fun _ => 0, Nat.zero_le _, rfl, HO3.out, by rw [List.take_zero]; exact Rw.nil _ _ _ _ _ _ _, HB3.out, hs3⟩
  case round =>
    obtain ⟨k, hs, L, H, hk8, rfl, HO, HR, HBr, hsr⟩ := hrel
    clear HO3 HB3 hs3
    have hhl : hs.length = k := by have h1 := HR.out.len; rw [List.length_take] at h1; omega
    by_cases hlt : k < xs.length
    · have z1 : (k : Int) < (xs.length : Int) := by omega
      have HS := hide (show xs.take (k + 1) = xs.take k ++ [xs.getD k []] by rw [List.take_succ_eq_append_getElem hlt]; simp [hlt])
      obtain ⟨b, off, o', c', rfl, hbl0, hc0, hr0⟩ := (RiR.mon.go (RiR.stp.go HR0.out (lo := w.heap.size) (hi := w.heap.size + wr.heap.size) ⟨HBr.out.os, HBr.out.tape, HBr.out.output, HBr.out.size, fun k hk _ => HBr.out.block k hk⟩ (.inr (Nat.le_refl _))) (Nat.le_refl _) HBr.out.size).at (Nat.le_refl _) k hlt
      have hc := hc0
      have HL := hide (toIntSS_in (.slice o' (xs.getD k []).length c') (xs.getD k []) wr (RiT.of hr0) (hx k hlt) (hy k hlt))
      have HXL := hide hlen
      clear hc0 hr0
      have HHL := hide hhl
      have hxs := HXL.out
      clear hxs
      obtain ⟨row, hrow⟩ : ∃ r, xs.getD k [] = r := ⟨_, rfl⟩
      rw [hrow] at HL hc HS
      clear hrow
      obtain ⟨q, hq⟩ : ∃ q, row.length = q := ⟨_, rfl⟩
      rw [hq] at HL hc
      have HQ := hide hq
      clear hq
      go_wp2_with fail
      refine HL.out.mono ?_
      rintro e v1 ⟨v4, rfl, in4, hb4⟩
      obtain ⟨o4, c4, e4, _⟩ := RiT.rd (InT.ri in4)
      rw [HQ.out] at e4
      subst e4
      have HIN := hide in4
      clear in4
      have HO4 := hide (own_kept HO.out hb4)
      have hln : ((hs ++ List.replicate (xs.length - k) layH.d).flatMap layH.cs).length = xs.length := by rw [flat_length, List.length_append, List.length_replicate, HHL.out, show layH.k = 1 from rfl]; omega
      have hcl := HO4.out.cellAt k (by omega)
      have hfr := HO4.out.frozenAt k
      obtain ⟨u, hu⟩ : ∃ u, v1.cell? ⟨w.heap.size, k, none⟩ = some u := ⟨_, hcl.trans (List.getElem?_eq_getElem (by omega))⟩
      have HO5 := hide (fillU_step (o := o4) (m := q) (c := c4) hlt HHL.out HO4.out)
      have HR4 := (HR.out.kept InT.stp hb4).snoc (l2 := wr.heap.size) (h2 := v1.heap.size) (Nat.le_refl _) (by omega) hb4.size (x := row) (o := o4) (m := q) (c := c4) HIN.out
      rw [← HS.out] at HR4
      have HR5 := HR4.step InT.stp (stp_set v1 w.heap.size k (.slice o4 q c4)) (fun i hi => .inl (HR4.bd i hi).1)
      have HR6 : Hid (Rw InT [] (xs.take (k + 1)) (w.heap.size + 1) (v1.setCell ⟨w.heap.size, k, none⟩ (.slice o4 q c4)).heap.size (v1.setCell ⟨w.heap.size, k, none⟩ (.slice o4 q c4)) _ _ _) := HR5.mono (Nat.le_refl _) (by simp)
      have HB5 := hide ((HBr.out.trans (hb4.mono HBr.out.size)).setCell (p := ⟨w.heap.size, k, none⟩) (Nat.le_refl _) (.slice o4 q c4))
      have hs5 : w.heap.size + 1 ≤ v1.heap.size := by have := hb4.size; omega
      clear hb4 hcl HR4 HR5 hln HL hhl hc
      go_wp2
      go_roundw
      case rel => exact ⟨k + 1, _, _, _, by omega, by go_num, HO5.out, HR6.out, HB5.out, by simpa using hs5⟩
      case measure => simp [intOf]; omega
    · have e : k = xs.length := by omega
      subst e
      go_wp2
      go_ret
      have h1 := HO.out
      rw [Nat.sub_self, List.replicate_zero, List.append_nil] at h1
      have h2 := HR.out
      rw [List.take_length] at h2
      have h3 : ∀ b, (Value.slice (some ⟨w.heap.size, 0, none⟩) xs.length xs.length).ownBlock = some b → b = w.heap.size := fun b e => (Option.some.inj e).symm
      have h4 : InR w.heap.size wr.heap.size wr (.slice (some ⟨w.heap.size, 0, none⟩) xs.length xs.length) xs := by
        refine ⟨hs, L, H, ⟨by rw [hhl]; exact h1, fun b e => ?_⟩, h2.mono (by omega) (Nat.le_refl _), fun i hi b e => ?_⟩
        · have := h3 b e; omega
        · have := h3 b e
          have := h2.bd i hi
          omega
      exact ⟨_, rfl, h4, HBr.out⟩

theorem leftTo_sum (ll : List (List Int)) (n : Int) : ∀ k, leftTo ll n k = n - (ll.length : Int) - (sumN (lenT ll) k : Int)
  | 0 => by simp [leftTo, sumN]
  | k + 1 => by
    rw [leftTo, leftTo_sum ll n k, show sumN (lenT ll) (k + 1) = sumN (lenT ll) k + (ll.getD k []).length from rfl]
    omega
set_option maxRecDepth 100000 in
set_option maxHeartbeats 1000000 in
theorem szIntSSS_any (v : Value) (lll : List (List (List Int))) (n : Int) (w : World) (hR : RiR 0 w.heap.size w v lll) (hl : lll.length ≤ maxLen) (hx : ∀ i, i < lll.length → (lll.getD i []).length ≤ maxLen) (hy : ∀ i, i < lll.length → ∀ j, j < (lll.getD i []).length → ((lll.getD i []).getD j []).length ≤ maxLen) (h0 : 0 ≤ n) (h1 : n ≤ 1048576) :
    Calls Try.prog 84 #[v, .int .i64 n] w fun e w' => (e = .returned (.int .i64 (-1)) ∨ ∃ z : Int, e = .returned (.int .i64 z) ∧ 0 ≤ z ∧ z ≤ n ∧ (lll.length : Int) + (szR lll : Int) ≤ n ∧ ∀ i, i < lll.length → ((lll.getD i []).length : Int) ≤ n) ∧ Below w.heap.size w w' := by
  obtain ⟨o, cap, ev⟩ : ∃ o c, v = .slice o lll.length c := by
    obtain ⟨hs, h0, ⟨o, c, e, _⟩, _⟩ := hR
    exact ⟨o, c, by rw [e, h0]⟩
  subst ev
  have hl' := hl
  unfold maxLen at hl'
  by_cases h : n - lll.length < 0
  · go_enter Try.func84, Try.ntmps84
    go_wp2
    go_ret
    exact ⟨.inl rfl, Below.refl _ _⟩
  · go_enter Try.func84, Try.ntmps84
    go_wp2
    go_loopw [1, 5] (fun n' i wr => ∃ (k : Nat) (z : Int), k ≤ lll.length ∧ i = .int .i64 (k : Int) ∧ n' = .int .i64 z ∧ 0 ≤ z ∧ z ≤ n - (lll.length : Int) - (sumN (lenR lll) k : Int) ∧ Hid (∀ i, i < k → ((lll.getD i []).length : Int) ≤ n) ∧ Hid (Below w.heap.size w wr))
      (fun _ i _ => lll.length - (intOf i).toNat)
    case atStart => exact ⟨0, n - lll.length, Nat.zero_le _, rfl, rfl, by omega, by simp [sumN], fun i hi => absurd hi (Nat.not_lt_zero _), Below.refl _ _⟩
    case round =>
      obtain ⟨k, z, hk, rfl, rfl, hz0, hz1, HLN, HBr⟩ := hrel
      by_cases hlt : k < lll.length
      · obtain ⟨b, off, o', c', rfl, hb, hc, hr⟩ := (RiR.mon.go (RiR.stp.go hR (Stp.of (lo := 0) (hi := 0) HBr.out) (.inl (Nat.zero_le _))) (Nat.le_refl _) HBr.out.size).at (Nat.le_refl _) k hlt
        have hsn : (0 : Int) ≤ (sumN (lenR lll) k : Int) := by omega
        have HZ := hide (szIntSS_any o' (lll.getD k []) c' z wr hr (hx k hlt) (hy k hlt) hz0 (by omega))
        have HSU := hide (show sumN (lenR lll) (k + 1) = sumN (lenR lll) k + szT (lll.getD k []) from rfl)
        have HEL := hide (show leftLL (lll.getD k []) z = z - ((lll.getD k []).length : Int) - (szT (lll.getD k []) : Int) from leftTo_sum _ _ _)
        have hz1' := hz1
        obtain ⟨ll, hll⟩ : ∃ ll, lll.getD k [] = ll := ⟨_, rfl⟩
        rw [hll] at hc HZ HSU HEL
        have HLL := hide hll
        have HR := hide hR
        clear hr hll hR hx hy
        obtain ⟨m, hm⟩ : ∃ m, ll.length = m := ⟨_, rfl⟩
        rw [hm] at hc HZ HEL
        have HM := hide hm
        clear hm
        generalize sumN (lenR lll) k = sk at *
        go_wp2_with fail
        refine HZ.out.mono ?_
        rintro e w2 ⟨rfl | ⟨hfit, rfl⟩, hb2⟩
        · have HB2 := hide (HBr.out.trans (hb2.mono HBr.out.size))
          clear hb2
          go_wp2
          go_ret
          exact ⟨.inl rfl, HB2.out⟩
        · have HB2 := hide (HBr.out.trans (hb2.mono HBr.out.size))
          have hpos := hfit ll.length (Nat.le_refl _)
          have hpos' : 0 ≤ leftLL ll z := hpos
          have hE := HEL.out
          have hmz : (m : Int) ≤ n := by omega
          have HE2 := hide hE
          clear hfit hb2 hpos hE HEL
          generalize leftLL ll z = y at *
          go_wp2
          go_roundw
          case rel => exact ⟨k + 1, y, by omega, by go_num, rfl, hpos', by (have := HE2.out; rw [HSU.out]; push_cast; omega), fun i hi => (by rcases Nat.lt_succ_iff_lt_or_eq.1 hi with h' | h'; exact HLN.out i h'; rw [h', HLL.out, HM.out]; exact hmz), HB2.out⟩
          case measure => simp [intOf]; omega
      · have e : k = lll.length := by omega
        subst e
        have hsz : sumN (lenR lll) lll.length = szR lll := rfl
        rw [hsz] at hz1
        clear hsz
        go_wp2
        go_ret
        exact ⟨.inr ⟨z, rfl, hz0, by omega, by omega, HLN.out⟩, HBr.out⟩
theorem row_le (ll : List (List Int)) (j : Nat) (h : j < ll.length) : (ll.getD j []).length ≤ szT ll := by
  have := sumN_at (lenT ll) h
  unfold szT; unfold lenT at *; omega
theorem tab_le (lll : List (List (List Int))) (i : Nat) (h : i < lll.length) : szT (lll.getD i []) ≤ szR lll := by
  have := sumN_at (lenR lll) h
  unfold szR; unfold lenR at *; omega
theorem fit_of {key : Int} {l : List Bk} {lll : List (List (List Int))} {n : Int} (hn : n ≤ 1048576) (hl : (l.length : Int) ≤ 1048576) (h1 : (lll.length : Int) + (szR lll : Int) ≤ n) (h2 : ∀ i, i < lll.length → ((lll.getD i []).length : Int) ≤ n) : fitPm ⟨key, l, lll⟩ :=
  ⟨by show l.length ≤ _; omega, by show lll.length ≤ _; omega, by show szR lll ≤ _; omega, fun i hi => by have := h2 i hi; show (lll.getD i []).length ≤ _; omega, fun i hi j hj => by
    have h3 := row_le (lll.getD i []) j hj
    have h4 := tab_le lll i hi
    show ((lll.getD i []).getD j []).length ≤ _
    omega⟩
/-- A pool's lengths may be lengths. -/
def lenPm (m : Pm) : Prop := m.l.length ≤ maxLen ∧ m.ring.length ≤ maxLen ∧ (∀ i, i < m.ring.length → (m.ring.getD i []).length ≤ maxLen) ∧ ∀ i, i < m.ring.length → ∀ j, j < (m.ring.getD i []).length → ((m.ring.getD i []).getD j []).length ≤ maxLen
set_option maxRecDepth 100000 in
set_option maxHeartbeats 1000000 in
theorem szPool_sh (v : Value) (m : Pm) (w : World) (hR : RdPm w.heap.size w v m) (hl : lenPm m) :
    Calls Try.prog 34 #[v, .int .i64 1048576] w fun e w' => (∃ z : Int, e = .returned (.int .i64 z) ∧ ((z < 0 ∧ -1 ≤ z) ∨ (0 ≤ z ∧ z ≤ 1048576 ∧ fitPm m))) ∧ Below w.heap.size w w' := by
  obtain ⟨vb, vr, rfl, ⟨o, c, rfl, b1⟩, r1⟩ := hR
  obtain ⟨oR, cR, rfl⟩ := RiR.len r1
  obtain ⟨l1, l2, l3, l4⟩ := hl
  have hs := fun W => szBackS_any o m.l.length c 1048576 W l1 (by decide) (by decide)
  have HRG := hide (fun W (hb : Below w.heap.size w W) (z : Int) h0 h1 => szIntSSS_any (.slice oR m.ring.length cR) m.ring z W (RiR.mon.go (RiR.stp.go r1 (Stp.of (lo := 0) (hi := 0) hb) (.inl (Nat.zero_le _))) (Nat.le_refl _) hb.size) l2 l3 l4 h0 h1)
  clear b1 r1 l3 l4
  obtain ⟨W0, hW0⟩ : ∃ W, (w.alloc (.cells #[.int .i64 m.key, .slice o m.l.length c, .slice oR m.ring.length cR] 66)) = W := ⟨_, rfl⟩
  have hb_W0 : Below w.heap.size w W0 := by rw [← hW0]; exact ((Below.refl _ _).alloc (Nat.le_refl _) _)
  have HB := hide hb_W0
  clear hb_W0
  have zz : w.heap.size < W0.heap.size := by rw [← hW0]; simp
  have z0 : W0.cell? ⟨w.heap.size, 0, none⟩ = some (.int .i64 m.key) := by rw [← hW0]; simp [go_sem]
  have z1 : W0.cell? ⟨w.heap.size, 1, none⟩ = some (.slice o m.l.length c) := by rw [← hW0]; simp [go_sem]
  have z2 : W0.cell? ⟨w.heap.size, 2, none⟩ = some (.slice oR m.ring.length cR) := by rw [← hW0]; simp [go_sem]
  by_cases h : (1048576 : Int) - m.l.length < 0
  · rw [if_pos h] at hs
    go_enter Try.func34, Try.ntmps34
    go_wp2_with fail
    refine (hs _).mono ?_
    rintro e w1 ⟨rfl, rfl⟩
    go_wp2
    go_ret
    exact ⟨⟨_, rfl, .inl ⟨by decide, by decide⟩⟩, HB.out⟩
  · rw [if_neg h] at hs
    have hz0 : (0 : Int) ≤ 1048576 - m.l.length := by omega
    have HRG2 := hide (HRG.out W0 HB.out (1048576 - (m.l.length : Int)) hz0 (by omega))
    go_enter Try.func34, Try.ntmps34
    go_wp2_with fail
    refine (hs _).mono ?_
    rintro e w1 ⟨rfl, rfl⟩
    go_wp2_with fail
    refine HRG2.out.mono ?_
    rintro e w2 ⟨rfl | ⟨z, rfl, hz1, hz2, hz3, hz4⟩, hb2⟩
    · have HB2 := hide (HB.out.trans (hb2.mono HB.out.size))
      clear hb2
      go_wp2
      go_ret
      exact ⟨⟨_, rfl, .inl ⟨by decide, by decide⟩⟩, HB2.out⟩
    · have HB2 := hide (HB.out.trans (hb2.mono HB.out.size))
      have HF : Hid (fitPm m) := fit_of (n := 1048576 - (m.l.length : Int)) (by omega) (by omega) hz3 hz4
      clear hb2 hz3 hz4
      go_wp2
      go_ret
      exact ⟨⟨_, rfl, .inr ⟨hz1, by omega, HF.out⟩⟩, HB2.out⟩

set_option maxRecDepth 100000 in
set_option maxHeartbeats 2000000 in
theorem toPool_sh (v : Value) (m : Pm) (w : World) (hR : RdPm w.heap.size w v m) (hf : fitPm m) :
    Calls Try.prog 35 #[v] w fun e w' => ∃ v', e = .returned v' ∧ InPm w.heap.size w'.heap.size w' v' m ∧ Below w.heap.size w w' := by
  obtain ⟨vb, vr, rfl, ⟨o, c, rfl, b1⟩, r1⟩ := hR
  obtain ⟨oR, cR, rfl⟩ := RiR.len r1
  obtain ⟨hf1, hf2, hf3, hf4, hf5⟩ := hf
  have HBK := hide (fun W (hb : Below w.heap.size w W) => toBackS_any o c m.l W ((b1.rd.kept hb (Nat.le_refl _)).le hb.size) hf1)
  have HRG := hide (fun W (hb : Below w.heap.size w W) => toIntSSS_in (.slice oR m.ring.length cR) m.ring W (RiR.mon.go (RiR.stp.go r1 (Stp.of (lo := 0) (hi := 0) hb) (.inl (Nat.zero_le _))) (Nat.le_refl _) hb.size) hf2 hf4 hf5)
  clear b1 r1 hf4 hf5
  obtain ⟨W0, hW0⟩ : ∃ W, (((w.alloc (.cells #[.int .i64 m.key, .slice o m.l.length c, .slice oR m.ring.length cR] 66)).alloc (.cells #[.int .i64 0, .slice none 0 0, .slice none 0 0] 26)).alloc (.cells #[.int .i64 0, .slice none 0 0, .slice none 0 0] 26)) = W := ⟨_, rfl⟩
  have hb_W0 : Below w.heap.size w W0 := by rw [← hW0]; exact ((((Below.refl _ _).alloc (Nat.le_refl _) _).alloc (by simp <;> omega) _).alloc (by simp <;> omega) _)
  have HB := hide hb_W0
  clear hb_W0
  have zz : w.heap.size < W0.heap.size := by rw [← hW0]; simp <;> omega
  have z0 : W0.cell? ⟨w.heap.size, 0, none⟩ = some (.int .i64 m.key) := by rw [← hW0]; simp [go_sem]
  have z1 : W0.cell? ⟨w.heap.size, 1, none⟩ = some (.slice o m.l.length c) := by rw [← hW0]; simp [go_sem]
  have z2 : W0.cell? ⟨w.heap.size, 2, none⟩ = some (.slice oR m.ring.length cR) := by rw [← hW0]; simp [go_sem]
  have zr : w.heap.size + 1 < W0.heap.size := by rw [← hW0]; simp <;> omega
  have r0 : W0.cell? ⟨w.heap.size + 1, 0, none⟩ = some (.int .i64 0) := by rw [← hW0]; simp [go_sem]
  have r1 : W0.cell? ⟨w.heap.size + 1, 1, none⟩ = some (.slice none 0 0) := by rw [← hW0]; simp [go_sem]
  have r2 : W0.cell? ⟨w.heap.size + 1, 2, none⟩ = some (.slice none 0 0) := by rw [← hW0]; simp [go_sem]
  have fr0 : W0.frozen? ⟨w.heap.size + 1, 0, none⟩ = false := by rw [← hW0]; simp [go_sem]
  have fr1 : W0.frozen? ⟨w.heap.size + 1, 1, none⟩ = false := by rw [← hW0]; simp [go_sem]
  have fr2 : W0.frozen? ⟨w.heap.size + 1, 2, none⟩ = false := by rw [← hW0]; simp [go_sem]
  have zx : w.heap.size + 1 + 1 < W0.heap.size := by rw [← hW0]; simp
  have x0 : W0.cell? ⟨w.heap.size + 1 + 1, 0, none⟩ = some (.int .i64 0) := by rw [← hW0]; simp [go_sem]
  have x1 : W0.cell? ⟨w.heap.size + 1 + 1, 1, none⟩ = some (.slice none 0 0) := by rw [← hW0]; simp [go_sem]
  have x2 : W0.cell? ⟨w.heap.size + 1 + 1, 2, none⟩ = some (.slice none 0 0) := by rw [← hW0]; simp [go_sem]
  have fx0 : W0.frozen? ⟨w.heap.size + 1 + 1, 0, none⟩ = false := by rw [← hW0]; simp [go_sem]
  have fx1 : W0.frozen? ⟨w.heap.size + 1 + 1, 1, none⟩ = false := by rw [← hW0]; simp [go_sem]
  have fx2 : W0.frozen? ⟨w.heap.size + 1 + 1, 2, none⟩ = false := by rw [← hW0]; simp [go_sem]
  have h0x : W0.heap[w.heap.size + 1 + 1]? = some (.cells #[.int .i64 0, .slice none 0 0, .slice none 0 0] 26 (0, 0)) := by rw [← hW0]; exact box_new3 w _ _ _ _
  have h0r : W0.heap[w.heap.size + 1]? = some (.cells #[.int .i64 0, .slice none 0 0, .slice none 0 0] 26 (0, 0)) := by rw [← hW0]; exact box_mid3 w _ _ _ _
  have hzx := zx
  have hw0 := HB.out.size
  obtain ⟨W1, hW1⟩ : ∃ W, W0.setCell ⟨w.heap.size + 1 + 1, 0, none⟩ (.int .i64 m.key) = W := ⟨_, rfl⟩
  have h1x := box_put h0x 0 (.int .i64 m.key)
  rw [hW1] at h1x
  have h1r : W1.heap[w.heap.size + 1]? = some (.cells #[.int .i64 0, .slice none 0 0, .slice none 0 0] 26 (0, 0)) := by rw [← hW1]; exact (far_block (by omega) _ _).trans h0r
  have hs1 : W1.heap.size = W0.heap.size := by rw [← hW1]; simp
  have hB1 : Below w.heap.size w W1 := by rw [← hW1]; exact HB.out.setCell (p := ⟨w.heap.size + 1 + 1, 0, none⟩) (show w.heap.size ≤ w.heap.size + 1 + 1 by omega) _
  have a0 : W1.cell? ⟨w.heap.size, 0, none⟩ = some (.int .i64 m.key) := by rw [← hW1]; exact (cell_far (by omega)).trans z0
  have a1 : W1.cell? ⟨w.heap.size, 1, none⟩ = some (.slice o m.l.length c) := by rw [← hW1]; exact (cell_far (by omega)).trans z1
  have a2 : W1.cell? ⟨w.heap.size, 2, none⟩ = some (.slice oR m.ring.length cR) := by rw [← hW1]; exact (cell_far (by omega)).trans z2
  have HB1 := hide hB1
  have HS1 := hide hs1
  have H1X := hide h1x
  have H1R := hide h1r
  clear hB1 hs1 h1x h1r h0x h0r z1 z2 r0 r1 r2 fr0 fr1 fr2 HB
  go_enter Try.func35, Try.ntmps35
  go_wp2_with fail
  refine (HBK.out W1 HB1.out).mono ?_
  rintro e v1 ⟨g1, rfl, ow1, hb1⟩
  have hsv := hb1.size
  have hx1 := (hb1.block _ (show w.heap.size + 1 + 1 < W1.heap.size by have := HS1.out; omega)).trans H1X.out
  have hr1 := (hb1.block _ (show w.heap.size + 1 < W1.heap.size by have := HS1.out; omega)).trans H1R.out
  have b0 := bC hb1 a0 (by have := HS1.out; omega)
  have b1 := bC hb1 a1 (by have := HS1.out; omega)
  have b2 := bC hb1 a2 (by have := HS1.out; omega)
  have p1 : v1.cell? ⟨w.heap.size + 1 + 1, 1, none⟩ = some (.slice none 0 0) := bx_cell hx1 1 _ rfl
  have q1 := bx_frozen hx1 1
  obtain ⟨og, hog⟩ : ∃ o : Option Addr, some ⟨g1, 0, none⟩ = o := ⟨_, rfl⟩
  rw [hog] at ow1 ⊢
  clear hog
  obtain ⟨W2, hW2⟩ : ∃ W, v1.setCell ⟨w.heap.size + 1 + 1, 1, none⟩ (.slice og m.l.length m.l.length) = W := ⟨_, rfl⟩
  have h2x := box_put hx1 1 (.slice og m.l.length m.l.length)
  rw [hW2] at h2x
  have h2r : W2.heap[w.heap.size + 1]? = some (.cells #[.int .i64 0, .slice none 0 0, .slice none 0 0] 26 (0, 0)) := by rw [← hW2]; exact (far_block (by omega) _ _).trans hr1
  have hs2 : W2.heap.size = v1.heap.size := by rw [← hW2]; simp
  have hB2 : Below w.heap.size w W2 := by rw [← hW2]; exact (HB1.out.trans (hb1.mono HB1.out.size)).setCell (p := ⟨w.heap.size + 1 + 1, 1, none⟩) (show w.heap.size ≤ w.heap.size + 1 + 1 by omega) _
  have HO2 : Hid (InL layK 39 W0.heap.size W2.heap.size W2 (.slice og m.l.length m.l.length) m.l) := by rw [← hW2]; exact InRow.of (own_low (own_mono ow1 (by have := HS1.out; omega)) hzx 1 _)
  have d0 : W2.cell? ⟨w.heap.size, 0, none⟩ = some (.int .i64 m.key) := by rw [← hW2]; exact (cell_far (by omega)).trans b0
  have d1 : W2.cell? ⟨w.heap.size, 1, none⟩ = some (.slice o m.l.length c) := by rw [← hW2]; exact (cell_far (by omega)).trans b1
  have d2 : W2.cell? ⟨w.heap.size, 2, none⟩ = some (.slice oR m.ring.length cR) := by rw [← hW2]; exact (cell_far (by omega)).trans b2
  have HB2 := hide hB2
  have HS2 := hide hs2
  have H2X := hide h2x
  have H2R := hide h2r
  clear hB2 hs2 h2x h2r hx1 hr1 ow1 hb1
  go_wp2_with fail
  refine (HRG.out W2 HB2.out).mono ?_
  rintro e v3 ⟨vr3, rfl, in3, hb3⟩
  obtain ⟨o3, c3, e3⟩ := RiR.len (InR.ri in3)
  subst e3
  have hsv3 := hb3.size
  have hx3 := (hb3.block _ (show w.heap.size + 1 + 1 < W2.heap.size by have := HS2.out; have := HS1.out; omega)).trans H2X.out
  have hr3 := (hb3.block _ (show w.heap.size + 1 < W2.heap.size by have := HS2.out; have := HS1.out; omega)).trans H2R.out
  have p2 : v3.cell? ⟨w.heap.size + 1 + 1, 2, none⟩ = some (.slice none 0 0) := bx_cell hx3 2 _ rfl
  have q2 := bx_frozen hx3 2
  obtain ⟨W4, hW4⟩ : ∃ W, v3.setCell ⟨w.heap.size + 1 + 1, 2, none⟩ (.slice o3 m.ring.length c3) = W := ⟨_, rfl⟩
  have h4x := box_put hx3 2 (.slice o3 m.ring.length c3)
  rw [hW4] at h4x
  have h4r : W4.heap[w.heap.size + 1]? = some (.cells #[.int .i64 0, .slice none 0 0, .slice none 0 0] 26 (0, 0)) := by rw [← hW4]; exact (far_block (by omega) _ _).trans hr3
  have hB4 : Below w.heap.size w W4 := by rw [← hW4]; exact (HB2.out.trans (hb3.mono HB2.out.size)).setCell (p := ⟨w.heap.size + 1 + 1, 2, none⟩) (show w.heap.size ≤ w.heap.size + 1 + 1 by omega) _
  have hs4 : W4.heap.size = v3.heap.size := by rw [← hW4]; simp
  have HIN : Hid (InPm W0.heap.size W4.heap.size W4 (plv m.key (.slice og m.l.length m.l.length) (.slice o3 m.ring.length c3)) m) := by
    rw [hs4, ← hW4]
    exact ⟨_, _, W2.heap.size, rfl, by have := HS2.out; have := HS1.out; omega, hsv3, InRow.step (InRow.step HO2.out (Stp.of (lo := 0) (hi := 0) hb3) (.inl (Nat.zero_le _))) (stp_set v3 (w.heap.size + 1 + 1) 2 _) (.inl (by omega)), InR.stp.go in3 (stp_set v3 (w.heap.size + 1 + 1) 2 _) (.inl (by have := HS2.out; have := HS1.out; omega))⟩
  obtain ⟨e0, e1, e2, g0, g1', g2⟩ := bx_allP h4x
  obtain ⟨t0, t1, t2, u0, u1, u2⟩ := bx_allP h4r
  have HB4 := hide hB4
  clear hB4 h4x h4r hx3 hr3 in3 hb3 hs4
  go_wp2
  refine bodyPost_ret (v := plv m.key (.slice og m.l.length m.l.length) (.slice o3 m.ring.length c3)) (by simp [results, Try.results35, go_sem, t0, t1, t2]) rfl ⟨_, rfl, ?_, setP_belowT HB4.out (Nat.le_succ _) _ _ _⟩
  rw [setP_sizeT]
  exact in_monoT (HIN.out.step (stp_setT W4 (w.heap.size + 1) _ _ _) (.inl (by omega))) (by omega)

end Go.Proofs.Ytldjaapbkihibaa

/- How a pool that comes in is opened. -/
namespace Go.Proofs.Ytldjaapbkihibaa
open Go.ChangeShapes Go.WideShapes Go.ChangeAt Go.RowKit Go.Joins
set_option linter.unusedVariables false
set_option linter.unusedSimpArgs false


theorem cellsLawsPool : Try.prog.cellsOf 66 = 3 := by kernel_rfl
theorem cellsIntSS : Try.prog.cellsOf 37 = 1 := by kernel_rfl
/-- Rows of rows of ints that came in. -/
theorem open_rows3_cells {H : Type} {enc : TypeId × Value → H} {W : World} {fuel : Nat} {cs : List Value} {x : DataW H × List MemPlace} (h : DataW.trod enc Try.prog W 0 (fun _ => true) true fuel 24 cs = some x) :
    ∃ (o : Option Addr) (cap : Nat) (ll : List (List (List Int))), cs = [.slice o ll.length cap] ∧ ll.length ≤ maxLen ∧ RiR 0 W.heap.size W (.slice o ll.length cap) ll ∧ (∀ i, i < ll.length → (ll.getD i []).length ≤ maxLen) ∧ ∀ i, i < ll.length → ∀ j, j < (ll.getD i []).length → ((ll.getD i []).getD j []).length ≤ maxLen := by
  rcases Go.Deep.open_slice1 Try.underlying24 cellsIntSS h with ⟨hcs, _⟩ | ⟨a, len, cap, m, n, V, D, Pl, hcs, _, hl, hm, hmm, _, hx⟩
  · exact ⟨none, 0, [], hcs, Nat.zero_le _, ⟨[], rfl, ⟨none, 0, rfl, .inl rfl⟩, fun i hi => absurd hi (Nat.not_lt_zero _)⟩, fun i hi => absurd hi (Nat.not_lt_zero _), fun i hi => absurd hi (Nat.not_lt_zero _)⟩
  · have hlm : len ≤ m := by rw [hmm]; split <;> omega
    have ex : ∀ i, i < len → ∃ y : Hd × List (List Int), V i = .slice y.1.1 y.1.2.1 y.1.2.2 ∧ y.1.2.1 = y.2.length ∧ y.2.length ≤ maxLen ∧ RdLL W.heap.size W y.1.1 y.2 ∧ ∀ j, j < y.2.length → (y.2.getD j []).length ≤ maxLen := fun i hi => by
      obtain ⟨o', c', l', e, hl', hr, hj⟩ := open_rows_cells (hx i (by omega)).2
      simp at e
      exact ⟨((o', l'.length, c'), l'), e, rfl, hl', hr, hj⟩
    have hne : Inhabited (Hd × List (List Int)) := ⟨((none, 0, 0), [])⟩
    obtain ⟨f, hf⟩ := Go.Deep.choose_lt ex
    have gd : ∀ i, i < len → ((List.range len).map (fun i => (f i).2)).getD i [] = (f i).2 := fun i hi => by simp [hi]
    have gh : ∀ i, i < len → ((List.range len).map (fun i => (f i).1)).getD i (none, 0, 0) = (f i).1 := fun i hi => by simp [hi]
    refine ⟨some a, cap, (List.range len).map (fun i => (f i).2), by simpa using hcs, by simp; omega, ⟨(List.range len).map (fun i => (f i).1), by simp, ⟨some a, cap, by simp, ?_⟩, fun i hi => ?_⟩, fun i hi => ?_, fun i hi => ?_⟩
    · by_cases h0 : len = 0
      · left; simp [h0]
      · right
        obtain ⟨b, off, spot⟩ := a
        have hc := (hx 0 (by omega)).1
        have hspot : spot = none := by simpa [Addr.add] using World.cell?_spot hc
        subst hspot
        have e2 : ∀ j, (⟨b, off, none⟩ : Addr).add j = ⟨b, off + j, none⟩ := fun j => by by_cases h : j = 0 <;> simp [Addr.add, h]
        refine ⟨b, off, rfl, Nat.zero_le _, ?_, fun i hi j hj => ?_⟩
        · rw [e2] at hc
          rcases Nat.lt_or_ge b W.heap.size with h | h
          · exact h
          · simp [World.cell?, Array.getElem?_eq_none h] at hc
        · have hi' : i < len := by simpa using hi
          have hj' : j = 0 := by have : j < 1 := hj; omega
          subst hj'
          have h1 := (hx i (by omega)).1
          rw [e2] at h1
          rw [show layH.d = (none, 0, 0) from rfl, gh i hi', show layH.k = 1 from rfl, Nat.mul_one, Nat.add_zero, h1, (hf i hi').1]
          rfl
    · have hi' : i < len := by simpa using hi
      have hv' : hv ((List.range len).map (fun i => (f i).1)) i = .slice (f i).1.1 (f i).2.length (f i).1.2.2 := by unfold hv; rw [gh i hi', (hf i hi').2.1]
      rw [gd i hi', hv']
      exact RiT.of (hf i hi').2.2.2.1
    · have hi' : i < len := by simpa using hi
      rw [gd i hi']
      exact (hf i hi').2.2.1
    · have hi' : i < len := by simpa using hi
      rw [gd i hi']
      exact (hf i hi').2.2.2.2
set_option maxRecDepth 100000 in
theorem open_pool {H : Type} {enc : TypeId × Value → H} {W : World} {base : Nat} {v : Value} {d : DataW H} {p : List MemPlace}
    (hv : Value.okWide Try.prog W .any base 66 v) (h : DataW.Trod enc Try.prog W 0 (fun _ => true) true 66 v d p) :
    ∃ (m : Pm) (o : Option Addr) (cap : Nat) (oR : Option Addr) (cR : Nat), v = plv m.key (.slice o m.l.length cap) (.slice oR m.ring.length cR) ∧ lenPm m ∧ RdPm W.heap.size W (plv m.key (.slice o m.l.length cap) (.slice oR m.ring.length cR)) m := by
  obtain ⟨c0, c1, c2, y0, y1, y2, m, rfl, rfl, rfl, hy0, hy1, hy2⟩ := open_agg3 Try.underlying66 (by kernel_rfl) cellsLawsPool hv h
  obtain ⟨a, e0, rfl, wa⟩ := DataW.trod_int Try.underlying3 hy0
  obtain ⟨o, cap, l, e1, r⟩ := open_backs_cells hy1
  obtain ⟨oR, cR, ll, e2, l2, rr, l3, l4⟩ := open_rows3_cells hy2
  simp at e0 e1 e2
  subst e0 e1 e2
  exact ⟨⟨a, l, ll⟩, o, cap, oR, cR, rfl, ⟨r.1, l2, l3, l4⟩, ⟨_, _, rfl, RiV.of r.2, rr⟩⟩

end Go.Proofs.Ytldjaapbkihibaa

