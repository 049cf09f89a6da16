/- Several texts in one: SInsert2, SDeed, SAfter, SAfter2, SAfter3, LMarkC, ShJ, STurns. -/
import Derived.Test.YtfmnhdemhbbjlaaGrSInsert
import Derived.Lib.AppendZerosOnto
import Derived.Laws.NewBlocks
import Derived.Deep.DeepAppendWide
import Derived.Test.YtfmnhdemhbbjlaaGrLCmd
import Derived.Test.YtfmnhdemhbbjlaaGrSTab2
import Derived.Test.YtfmnhdemhbbjlaaGrPlaceMath
import Derived.Test.YtfmnhdemhbbjlaaGrFr
/- The library's Insert of one at rows of backs: the road with no room. -/
namespace Go.Proofs.Ytfmnhdemhbbjlaa
open Go.ChangeShapes Go.WideShapes Go.ChangeAt Go.RowKit Go.Joins
set_option linter.unusedVariables false
set_option linter.unusedSimpArgs false

/-- One put in: the cells of the new row, behind the two copies. -/
theorem fresh_cells {X cs R : List Value} {i n k : Nat} (hX : X.length = n * k) (hR : R.take (i * k) = X.take (i * k)) (hi : i ≤ n) (hc : cs.length = k) (hlen : (n + 1) * k ≤ R.length) :
    let c1 := R.take (i * k) ++ cs ++ R.drop (i * k + cs.length)
    (c1.take ((i + 1) * k) ++ X.drop (i * k) ++ c1.drop ((i + 1) * k + (X.drop (i * k)).length)).take ((n + 1) * k) = X.take (i * k) ++ cs ++ X.drop (i * k) ∧ (c1.take ((i + 1) * k) ++ X.drop (i * k) ++ c1.drop ((i + 1) * k + (X.drop (i * k)).length)).length = R.length ∧ c1.length = R.length := by
  intro c1
  have hk1 : (i + 1) * k = i * k + k := Nat.succ_mul i k
  have hn1 : (n + 1) * k = n * k + k := Nat.succ_mul n k
  have hik : i * k ≤ n * k := Nat.mul_le_mul_right k hi
  have hT : (X.take (i * k)).length = i * k := by rw [List.length_take]; omega
  have hD : (X.drop (i * k)).length = n * k - i * k := by rw [List.length_drop, hX]
  have e1 : c1 = X.take (i * k) ++ cs ++ R.drop (i * k + cs.length) := by show R.take (i * k) ++ cs ++ _ = _; rw [hR]
  have hl : c1.length = R.length := by rw [e1]; simp only [List.length_append, List.length_drop, hT, hc]; omega
  have t1 : c1.take ((i + 1) * k) = X.take (i * k) ++ cs := by rw [e1]; exact List.take_left' (by rw [List.length_append, hT, hc]; omega)
  refine ⟨?_, ?_, hl⟩
  · rw [t1]; exact List.take_left' (by simp only [List.length_append, hT, hc, hD]; omega)
  · rw [t1]; simp only [List.length_append, List.length_drop, hT, hc, hl]
    rw [List.length_drop] at hD
    omega

end Go.Proofs.Ytfmnhdemhbbjlaa

/- deedOf: a command as a value of its own type. -/
namespace Go.Proofs.Ytfmnhdemhbbjlaa
open Go.ChangeShapes Go.WideShapes Go.ChangeAt Go.RowKit Go.Joins
set_option linter.unusedVariables false
set_option linter.unusedSimpArgs false

theorem cmd_box {w w1 : World} {k i g : Int} {t : TypeId} (h : Below (w.alloc (.cells #[.int .i64 k, .int .i64 i, .int .i64 g] t)).heap.size (w.alloc (.cells #[.int .i64 k, .int .i64 i, .int .i64 g] t)) w1) (o : Obj) :
    w1.cell? ⟨w.heap.size, 0, none⟩ = some (.int .i64 k) ∧ w1.cell? ⟨w.heap.size, 1, none⟩ = some (.int .i64 i) ∧ w1.cell? ⟨w.heap.size, 2, none⟩ = some (.int .i64 g) ∧
    (w1.alloc o).cell? ⟨w.heap.size, 0, none⟩ = some (.int .i64 k) ∧ (w1.alloc o).cell? ⟨w.heap.size, 2, none⟩ = some (.int .i64 g) ∧ Below w.heap.size w w1 ∧ Below w.heap.size w (w1.alloc o) := by
  have hs : w.heap.size < (w.alloc (.cells #[.int .i64 k, .int .i64 i, .int .i64 g] t)).heap.size := by simp
  have hs1 : w.heap.size < w1.heap.size := Nat.lt_of_lt_of_le hs h.size
  have hB : Below w.heap.size w w1 := ((Below.refl _ _).alloc (Nat.le_refl _) _).trans (h.mono (by omega))
  have e : ∀ q, w1.cell? ⟨w.heap.size, q, none⟩ = (w.alloc (.cells #[.int .i64 k, .int .i64 i, .int .i64 g] t)).cell? ⟨w.heap.size, q, none⟩ := fun q => h.cell hs
  have e' : ∀ q, (w1.alloc o).cell? ⟨w.heap.size, q, none⟩ = w1.cell? ⟨w.heap.size, q, none⟩ := fun q => ((Below.refl w1.heap.size w1).alloc (Nat.le_refl _) o).cell hs1
  refine ⟨?_, ?_, ?_, ?_, ?_, hB, hB.alloc (by omega) o⟩
  all_goals (simp only [e', e]; unfold World.cell?; simp only [heap_alloc_new]; rfl)

end Go.Proofs.Ytfmnhdemhbbjlaa

/- backsAfter: what a command makes of those who serve. -/
namespace Go.Proofs.Ytfmnhdemhbbjlaa
open Go.ChangeShapes Go.WideShapes Go.ChangeAt Go.RowKit Go.Joins
set_option linter.unusedVariables false
set_option linter.unusedSimpArgs false

theorem rd_alloc {w : World} {o : Option Addr} {l : List Bk} (h : RdK w.heap.size w o l) (ob : Obj) : RdK (w.alloc ob).heap.size (w.alloc ob) o l :=
  (RdL.kept h ((Below.refl w.heap.size w).alloc (Nat.le_refl _) ob) (Nat.le_refl _)).le (by simp)
theorem just_so {α : Type} {x y : α} (h : x = y) : x = y := h

end Go.Proofs.Ytfmnhdemhbbjlaa

/- backsAfter: one that goes. -/
namespace Go.Proofs.Ytfmnhdemhbbjlaa
open Go.ChangeShapes Go.WideShapes Go.ChangeAt Go.RowKit Go.Joins
set_option linter.unusedVariables false
set_option linter.unusedSimpArgs false

theorem there_lt {l : List Bk} {id : Int} (h : thereB l id = true) : placeN l id < l.length := by
  unfold thereB at h; simp at h; exact h.1
end Go.Proofs.Ytfmnhdemhbbjlaa

/- backsAfter: one that has another weight, one that drains; all four kinds together. -/
namespace Go.Proofs.Ytfmnhdemhbbjlaa
open Go.ChangeShapes Go.WideShapes Go.ChangeAt Go.RowKit Go.Joins
set_option linter.unusedVariables false
set_option linter.unusedSimpArgs false

theorem flat_cell {α : Type} (L : Lay α) {u : Value} {a : α} {j : Nat} (hj : j < L.k) : ∀ {l : List α} {k : Nat}, k < l.length → L.cs a = (L.cs (l.getD k L.d)).set j u → (l.flatMap L.cs).set (k * L.k + j) u = (l.set k a).flatMap L.cs
  | [], k, hk, ha => by simp at hk
  | x :: l, 0, hk, ha => by
    simp only [List.flatMap_cons, List.set_cons_zero, Nat.zero_mul, Nat.zero_add]
    rw [ha, List.set_append_left _ _ (by rw [L.len]; exact hj)]
    rfl
  | x :: l, k + 1, hk, ha => by
    simp only [List.flatMap_cons, List.set_cons_succ]
    rw [List.set_append_right _ _ (by rw [L.len, Nat.succ_mul]; omega), L.len]
    have e : (k + 1) * L.k + j - L.k = k * L.k + j := by rw [Nat.succ_mul]; omega
    rw [e, flat_cell L hj (l := l) (k := k) (by simpa using hk) (by simpa using ha)]
theorem there_is {l : List Bk} {id : Int} (h : thereB l id = true) : (l.getD (placeN l id) (0, 0, false)).1 = id := by
  unfold thereB at h; simp only [Bool.and_eq_true, beq_iff_eq] at h; exact h.2
theorem rec_w {b : Bk} {id g : Int} (h : b.1 = id) : layK.cs (id, g, b.2.2) = (layK.cs b).set 1 (.int .i64 g) := by subst h; rfl
theorem rec_d {b : Bk} {id : Int} (h : b.1 = id) : layK.cs (id, b.2.1, true) = (layK.cs b).set 2 (.bool true) := by subst h; rfl
theorem clone_at {w : World} {base : Nat} {v : Value} {l : List Bk} (h : ownK w base v l) {pl : Nat} (hp : pl < l.length) (A : Obj) :
    ∃ g c, v = .slice (some ⟨g, 0, none⟩) l.length c ∧ base ≤ g ∧ (w.alloc A).ownsRow base 137 3 (.slice (some ⟨g, 0, none⟩) l.length c) l.length (l.flatMap layK.cs) := by
  rcases h.2 with ⟨h1, h2⟩ | ⟨g, c, cur, h1, hb, _⟩
  · omega
  · subst h1
    exact ⟨g, c, rfl, hb, World.ownsRow.alloc h A⟩
theorem clone_cell {w : World} {base g c : Nat} {l : List Bk} (h : w.ownsRow base 137 3 (.slice (some ⟨g, 0, none⟩) l.length c) l.length (l.flatMap layK.cs)) {pl : Nat} (hp : pl < l.length) (j : Nat) (hj : j < 3) : ∃ u, w.cell? ⟨g, pl * 3 + j, none⟩ = some u := by
  have hln : (l.flatMap layK.cs).length = l.length * 3 := by rw [flat_length]; rfl
  exact ⟨_, (h.cellAt (pl * 3 + j) (by omega)).trans (List.getElem?_eq_getElem (by omega))⟩
theorem own_cell1 {w : World} {base g c : Nat} {l : List Bk} (h : w.ownsRow base 137 3 (.slice (some ⟨g, 0, none⟩) l.length c) l.length (l.flatMap layK.cs)) {pl : Nat} (hp : pl < l.length) (j : Nat) (hj : j < 3) (u : Value) {a : Bk} (ha : layK.cs a = (layK.cs (l.getD pl layK.d)).set j u) : ownK (w.setCell ⟨g, pl * 3 + j, none⟩ u) base (.slice (some ⟨g, 0, none⟩) l.length c) (l.set pl a) := by
  have h1 := (h.stored (pl * 3 + j) u).1
  rw [show pl * 3 + j = pl * layK.k + j from rfl, flat_cell layK (a := a) hj hp ha] at h1
  unfold ownK ownL
  rw [List.length_set]
  exact h1

end Go.Proofs.Ytfmnhdemhbbjlaa

/- The laws' marks in a row of impl.PoolCmd. -/
namespace Go.Proofs.Ytfmnhdemhbbjlaa
open Go.ChangeShapes Go.WideShapes Go.ChangeAt Go.RowKit Go.Joins
set_option linter.unusedVariables false
set_option linter.unusedSimpArgs false

def mkCd (k : Int) := ((k, k + 1, k + 1 + 1) : _)

set_option maxHeartbeats 2000000 in
theorem markPoolCmdS_any (base : Nat) (v : Value) (l : List _) (k : Int) (w : World) (hv : ownL layC 134 w base v l) (h0 : 0 ≤ k) (h1 : k ≤ 1073741824) (hlen : l.length ≤ 1048576) :
    Calls Try.prog 53 #[v, .int .i64 k] w fun e w' => e = .returned (.int .i64 (k + 3 * l.length)) ∧ ownL layC 134 w' base v (mkL mkCd 3 k l.length) ∧ w.grownBy w' v.ownBlock := by
  rcases hv.2 with ⟨rfl, h2⟩ | ⟨g, cap, cur, rfl, hg, _⟩
  · have e : l = [] := List.eq_nil_of_length_eq_zero h2
    subst e
    go_enter Try.func53, Try.ntmps53
    go_wp2
    refine wp_loop_rounds 1 ?_
    rw [rounds_succ]
    go_wp2
    go_ret
    exact ⟨by simp, by simpa [mkL] using hv, World.grownBy.refl _ _⟩
  · have hv0 : w.ownsRow base 134 3 (.slice (some ⟨g, 0, none⟩) l.length cap) l.length ((mkTo mkCd 3 l k 0).flatMap layC.cs) := by rw [mkTo_zero]; exact hv
    go_enter Try.func53, Try.ntmps53
    go_wp2
    go_loopw [1, 5] (fun q j wr => ∃ i : Nat, i ≤ l.length ∧ j = .int .i64 i ∧ q = .int .i64 (k + 3 * (i : Int)) ∧ wr.ownsRow base 134 3 (.slice (some ⟨g, 0, none⟩) l.length cap) l.length ((mkTo mkCd 3 l k i).flatMap layC.cs) ∧ w.grownBy wr (some g))
      (fun _ j _ => l.length - (intOf j).toNat)
    case atStart => exact ⟨0, Nat.zero_le _, rfl, by simp, hv0, World.grownBy.refl _ _⟩
    case round =>
      obtain ⟨i, hi, rfl, rfl, hown, hgr⟩ := hrel
      by_cases hlt : i < l.length
      · have hxl : ((mkTo mkCd 3 l k i).flatMap layC.cs).length = l.length * 3 := by rw [flat_length, mkTo_length _ _ _ _ _ hi]; rfl
        have E := flat_set3 layC rfl (a := mkCd (k + 3 * (i : Int))) rfl (mkTo mkCd 3 l k i) i
        have E2 := mkTo_set mkCd 3 l k i hlt
        generalize hxs : (mkTo mkCd 3 l k i).flatMap layC.cs = xs at *
        have s1 := grown_set1 (j := i * 3) (u := .int .i64 (k + 3 * (i : Int))) hown hgr
        have s2 := grown_set1 (j := i * 3 + 1) (u := .int .i64 (k + 3 * (i : Int) + 1)) s1.1 s1.2
        have s3 := grown_set1 (j := i * 3 + 2) (u := .int .i64 (k + 3 * (i : Int) + 1 + 1)) s2.1 s2.2
        have f0 := hown.frozenAt (i * 3)
        obtain ⟨q0, hq0⟩ : ∃ z, wr.cell? ⟨g, i * 3, none⟩ = some z := ⟨_, (hown.cellAt (i * 3) (by omega)).trans (List.getElem?_eq_getElem (by (try simp) <;> omega))⟩
        have f1 := s1.1.frozenAt (i * 3 + 1)
        obtain ⟨q1, hq1⟩ : ∃ z, (wr.setCell ⟨g, i * 3, none⟩ (.int .i64 (k + 3 * (i : Int)))).cell? ⟨g, i * 3 + 1, none⟩ = some z := ⟨_, (s1.1.cellAt (i * 3 + 1) (by omega)).trans (List.getElem?_eq_getElem (by (try simp) <;> omega))⟩
        have f2 := s2.1.frozenAt (i * 3 + 2)
        obtain ⟨q2, hq2⟩ : ∃ z, ((wr.setCell ⟨g, i * 3, none⟩ (.int .i64 (k + 3 * (i : Int)))).setCell ⟨g, i * 3 + 1, none⟩ (.int .i64 (k + 3 * (i : Int) + 1))).cell? ⟨g, i * 3 + 2, none⟩ = some z := ⟨_, (s2.1.cellAt (i * 3 + 2) (by omega)).trans (List.getElem?_eq_getElem (by (try simp) <;> omega))⟩
        have S := hide s3
        have HE := hide (E.trans (congrArg (fun z => List.flatMap layC.cs z) E2))
        have z1 : (i : Int) < (l.length : Int) := by omega
        clear s1 s2 s3 hown hgr hv hv0 E E2 hxl
        go_wp2
        go_roundw
        case rel =>
          refine ⟨i + 1, by omega, by go_num, by go_num, ?_, S.out.2⟩
          have h := S.out.1
          rw [← HE.out]
          exact h
        case measure => simp [intOf]; omega
      · have e : i = l.length := by omega
        subst e
        rw [mkTo_all] at hown
        have HO := hide hown
        clear hown
        go_wp2
        go_ret
        exact ⟨rfl, (by have := HO.out; unfold ownL; rw [mkL_length]; exact this), hgr⟩

set_option maxHeartbeats 2000000 in
theorem heldPoolCmdS_any (o : Option Addr) (cap n C : Nat) (k : Int) (w : World) (hR : RdL layC C w o (mkL mkCd 3 k n)) (h0 : 0 ≤ k) (h1 : k ≤ 1073741824) (hlen : n ≤ 1048576) :
    Calls Try.prog 57 #[.slice o n cap, .int .i64 k] w fun e w' => e = .returned (.int .i64 (k + 3 * n)) ∧ w = w' := by
  go_enter Try.func57, Try.ntmps57
  go_wp2
  go_loop [1, 5] (fun q j => ∃ i : Nat, i ≤ n ∧ j = .int .i64 i ∧ q = .int .i64 (k + 3 * (i : Int)))
    (fun _ j => n - (intOf j).toNat)
  case atStart => exact ⟨0, Nat.zero_le _, rfl, by simp⟩
  case round =>
    obtain ⟨i, hi, rfl, rfl⟩ := hrel
    by_cases hlt : i < n
    · rcases hR with hR | ⟨b, off, rfl, hbl, hcell⟩
      · have := mkL_length mkCd 3 k n; rw [hR] at this; simp at this; omega
      have hc := hcell i (by rw [mkL_length]; exact hlt)
      rw [mkL_get _ _ _ _ _ _ hlt] at hc
      have c0 : w.cell? ⟨b, off + i * 3, none⟩ = some (.int .i64 (k + 3 * (i : Int))) := hc 0 (by decide)
      have c1 : w.cell? ⟨b, off + i * 3 + 1, none⟩ = some (.int .i64 (k + 3 * (i : Int) + 1)) := hc 1 (by decide)
      have c2 : w.cell? ⟨b, off + i * 3 + 2, none⟩ = some (.int .i64 (k + 3 * (i : Int) + 1 + 1)) := hc 2 (by decide)
      clear hcell hc
      go_wp2
      go_round
      case rel => exact ⟨i + 1, by omega, by go_num, by go_num⟩
      case measure => simp [intOf]; omega
    · have e : i = n := by omega
      subst e
      go_wp2
      go_ret
      exact ⟨rfl, rfl⟩

end Go.Proofs.Ytfmnhdemhbbjlaa

/- Journals, as a shape: how they read, what owns its memory, and the laws' own helpers over them. -/
namespace Go.Proofs.Ytfmnhdemhbbjlaa
open Go.ChangeShapes Go.WideShapes Go.ChangeAt Go.RowKit Go.Joins
set_option linter.unusedVariables false
set_option linter.unusedSimpArgs false

/-- A journal, as the model has it. -/
structure Jm where
  key : Int
  l : List Cd
  safe : Int
abbrev jrn (k : Int) (v : Value) (s : Int) : Value := .agg #[.int .i64 k, v, .int .i64 s]
theorem block_cell0 {W : World} {B : Nat} {c : Array Value} {t : TypeId} (h : W.heap[B]? = some (.cells c t (0, 0))) (j : Nat) (u : Value) (hj : c[j]? = some u) : W.cell? ⟨B, j, none⟩ = some u := by
  simp [World.cell?, h, hj]
abbrev InC := InL layC 134
def RdJm (C : Nat) (w : World) (v : Value) (m : Jm) : Prop := ∃ vl, v = jrn m.key vl m.safe ∧ RdV layC C w vl m.l
def InJm (lo hi : Nat) (w : World) (v : Value) (m : Jm) : Prop := ∃ vl, v = jrn m.key vl m.safe ∧ InC lo hi w vl m.l
theorem RdJm.kept {C D : Nat} {w w' : World} {v : Value} {m : Jm} (h : RdJm C w v m) (hb : Below D w w') (hc : C ≤ D) : RdJm C w' v m := by
  obtain ⟨vl, e, h1⟩ := h
  exact ⟨vl, e, h1.kept hb hc⟩
theorem RdJm.le {C D : Nat} {w : World} {v : Value} {m : Jm} (h : RdJm C w v m) (hc : C ≤ D) : RdJm D w v m := by
  obtain ⟨vl, e, h1⟩ := h
  exact ⟨vl, e, h1.le hc⟩
theorem InJm.rd {lo hi : Nat} {w : World} {v : Value} {m : Jm} (h : InJm lo hi w v m) : RdJm hi w v m := by
  obtain ⟨vl, e, h1⟩ := h
  exact ⟨vl, e, InL.rd (L := layC) h1⟩
theorem InJm.step {a b lo hi : Nat} {w w' : World} {v : Value} {m : Jm} (h : InJm a b w v m) (s : Stp lo hi w w') (hd : hi ≤ a ∨ b ≤ lo) : InJm a b w' v m := by
  obtain ⟨vl, e, h1⟩ := h
  exact ⟨vl, e, InRow.step h1 s hd⟩
def capJm (v : Value) : Prop := ∃ k vl s, v = jrn k vl s ∧ capV vl
theorem InJm.cap {lo hi : Nat} {w : World} {v : Value} {m : Jm} (h : InJm lo hi w v m) : capJm v := by
  obtain ⟨vl, e, h1⟩ := h
  exact ⟨_, vl, _, e, InRow.cap h1⟩
theorem capJm.one {k s : Int} {o : Option Addr} {n c : Nat} (h : capJm (jrn k (.slice o n c) s)) : o = none → c = 0 := by
  obtain ⟨k', vl, s', e, h1⟩ := h
  injection e with e
  simp at e
  obtain ⟨_, e5, _⟩ := e
  exact fun h => h1 n c (by rw [← e5, h])
def fitJm (m : Jm) : Prop := m.l.length ≤ 1048576

set_option maxHeartbeats 1000000 in
theorem eqJournal_sh (v1 v2 : Value) (m : Jm) (w : World) (h1 : RdJm w.heap.size w v1 m) (h2 : RdJm w.heap.size w v2 m) (hl : m.l.length ≤ 1048576) :
    Calls Try.prog 20 #[v1, v2] w fun e w' => e = .returned (.bool true) ∧ Below w.heap.size w w' := by
  obtain ⟨vl, rfl, o, c, rfl, r1⟩ := h1
  obtain ⟨vl2, rfl, o2, c2, rfl, r2⟩ := h2
  have hB : Below w.heap.size w w := Below.refl _ _
  go_enter Try.func20, Try.ntmps20
  go_wp2_with (first | (go_at_call 49; refine (eqPoolCmdS_same o o2 c c2 m.l _ ((r1.kept (D := w.heap.size) (by (repeat (first | with_reducible exact hB | with_reducible exact Below.refl _ _ | with_reducible refine Below.drew ?_ | with_reducible refine below_drewN ?_ _ | with_reducible refine Below.alloc ?_ ?_ _ | with_reducible refine Below.setCell ?_ ?_ _ | (focus (simp; done)) | (focus (simp; omega)) | omega))) (Nat.le_refl _)).le (by (try simp) <;> omega)) ((r2.kept (D := w.heap.size) (by (repeat (first | with_reducible exact hB | with_reducible exact Below.refl _ _ | with_reducible refine Below.drew ?_ | with_reducible refine below_drewN ?_ _ | with_reducible refine Below.alloc ?_ ?_ _ | with_reducible refine Below.setCell ?_ ?_ _ | (focus (simp; done)) | (focus (simp; omega)) | omega))) (Nat.le_refl _)).le (by (try simp) <;> omega)) hl).mono ?_; rintro e w1 ⟨rfl, hb⟩; obtain ⟨hc, hf⟩ := bcell hb; have hz0 : w.heap.size < w1.heap.size := (by have hz := hb.size; (try simp at hz); omega); have hz1 : w.heap.size + 1 < w1.heap.size := (by have hz := hb.size; (try simp at hz); omega); have hB : Below w.heap.size w w1 := (by refine Below.trans ?_ (hb.mono (by have hs := hB.size; (try simp) <;> omega)); (repeat (first | with_reducible exact hB | with_reducible exact Below.refl _ _ | with_reducible refine Below.drew ?_ | with_reducible refine below_drewN ?_ _ | with_reducible refine Below.alloc ?_ ?_ _ | with_reducible refine Below.setCell ?_ ?_ _ | (focus (simp; done)) | (focus (simp; omega)) | omega)))))
  go_ret
  exact ⟨rfl, by (repeat (first | with_reducible exact hB | with_reducible exact Below.refl _ _ | with_reducible refine Below.drew ?_ | with_reducible refine below_drewN ?_ _ | with_reducible refine Below.alloc ?_ ?_ _ | with_reducible refine Below.setCell ?_ ?_ _ | (focus (simp; done)) | (focus (simp; omega)) | omega))⟩

/-- The marks of a journal. -/
def mkJm (k : Int) (m : Jm) : Jm := { m with l := mkL mkCd 3 k m.l.length }
set_option maxHeartbeats 1000000 in
theorem markJournal_sh (lo hi : Nat) (v : Value) (m : Jm) (k : Int) (w : World) (hv : InJm lo hi w v m) (h0 : 0 ≤ k) (h1 : k ≤ 1000000) (hl : m.l.length ≤ 1048576) :
    Calls Try.prog 23 #[v, .int .i64 k] w fun e w' => e = .returned (.int .i64 (k + 3 * m.l.length)) ∧ InJm lo hi w' v (mkJm k m) ∧ Stp lo hi w w' := by
  obtain ⟨vl, rfl, iv⟩ := hv
  obtain ⟨ol, cl, hle, _⟩ := InL.rd (L := layC) iv
  subst hle
  have s1 : Hid (Stp lo hi w (w.alloc (.cells #[.int .i64 m.key, .slice ol m.l.length cl, .int .i64 m.safe] 24))) := Stp.of ((Below.refl _ _).alloc (Nat.le_refl _) _)
  have i1 : Hid (InC lo hi (w.alloc (.cells #[.int .i64 m.key, .slice ol m.l.length cl, .int .i64 m.safe] 24)) (.slice ol m.l.length cl) m.l) := ⟨World.ownsRow.alloc iv.1 _, iv.2⟩
  clear iv
  go_enter Try.func23, Try.ntmps23
  go_wp2_with fail
  generalize w.alloc (.cells #[.int .i64 m.key, .slice ol m.l.length cl, .int .i64 m.safe] 24) = w1 at *
  refine (markPoolCmdS_any lo _ m.l k w1 i1.out.1 h0 (by omega) hl).mono ?_
  rintro e w2 ⟨rfl, hown, hgr⟩
  have H : Hid (InJm lo hi w2 (jrn m.key (.slice ol m.l.length cl) m.safe) (mkJm k m) ∧ Stp lo hi w w2) := ⟨⟨_, rfl, hown, i1.out.2⟩, s1.out.trans (Stp.grown hgr (fun b e => ⟨(i1.out.1.lt b e).1, i1.out.2 b e⟩))⟩
  clear hown hgr s1 i1
  go_wp2
  go_ret
  exact ⟨rfl, H.out.1, H.out.2⟩
set_option maxHeartbeats 1000000 in
theorem heldJournal_sh (v : Value) (m : Jm) (k : Int) (w : World) (hR : RdJm w.heap.size w v (mkJm k m)) (h0 : 0 ≤ k) (h1 : k ≤ 1000000) (hl : m.l.length ≤ 1048576) :
    Calls Try.prog 26 #[v, .int .i64 k] w fun e w' => e = .returned (.int .i64 (k + 3 * m.l.length)) ∧ Below w.heap.size w w' := by
  obtain ⟨vl, rfl, o, c, rfl, r⟩ := hR
  have e1 : (mkJm k m).l.length = m.l.length := mkL_length _ _ _ _
  rw [e1]
  have hb0 : Hid (Below w.heap.size w (w.alloc (.cells #[.int .i64 m.key, .slice o m.l.length c, .int .i64 m.safe] 24))) := (Below.refl _ _).alloc (Nat.le_refl _) _
  have hR0 : RdL layC w.heap.size w o (mkL mkCd 3 k m.l.length) := r
  clear r e1
  have hn : (0 : Int) ≤ k + 3 * m.l.length := by omega
  show Calls Try.prog 26 #[jrn m.key (.slice o m.l.length c) m.safe, .int .i64 k] w _
  go_enter Try.func26, Try.ntmps26
  go_wp2_with fail
  generalize w.alloc (.cells #[.int .i64 m.key, .slice o m.l.length c, .int .i64 m.safe] 24) = w1 at *
  refine (heldPoolCmdS_any o c m.l.length w.heap.size k w1 (hR0.kept hb0.out (Nat.le_refl _)) h0 (by omega) hl).mono ?_
  rintro e _ ⟨rfl, rfl⟩
  go_wp2
  go_ret
  exact ⟨rfl, hb0.out⟩

end Go.Proofs.Ytfmnhdemhbbjlaa

/- Who served at first and behind each command: the program's turns; its JournalOk. -/
namespace Go.Proofs.Ytfmnhdemhbbjlaa
open Go.ChangeShapes Go.WideShapes Go.ChangeAt Go.RowKit Go.Joins
set_option linter.unusedVariables false
set_option linter.unusedSimpArgs false

theorem infoBackS : (Try.prog.info? 25).map (fun i => (i.zero, i.size, i.bytes)) = some (some (.slice none 0 0), 1, 24) := by kernel_rfl
theorem backNe : (137 : TypeId) ≠ 25 := by decide
/-- Rows of those who served: each its own. -/
structure Served (S : Nat → List Bk) (k : Nat) (w : World) (base : Nat) (hs : List Hd) : Prop where
  len : hs.length = k
  row : ∀ i, i < k → ownK w base (hv hs i) (S i)
theorem Served.kept {S : Nat → List Bk} {k : Nat} {w w' : World} {base : Nat} {hs : List Hd} (h : Served S k w base hs) (hb : Below w.heap.size w w') : Served S k w' base hs :=
  ⟨h.len, fun i hi => own_kept (h.row i hi) hb⟩
theorem Served.other {S : Nat → List Bk} {k : Nat} {w w' : World} {base b2 s2 n2 : Nat} {hs : List Hd} {v2 : Value} {x2 : List Value} (h : Served S k w base hs) (h2 : w.ownsRow b2 25 s2 v2 n2 x2) (hg : w.grownBy w' v2.ownBlock) : Served S k w' base hs :=
  ⟨h.len, fun i hi => (h.row i hi).kept hg (own_apart (h.row i hi) h2 backNe)⟩
theorem Served.snoc {S : Nat → List Bk} {k : Nat} {w : World} {base : Nat} {hs : List Hd} {o : Option Addr} {m c : Nat} (h : Served S k w base hs) (hr : ownK w base (.slice o m c) (S k)) : Served S (k + 1) w base (hs ++ [(o, m, c)]) := by
  have hl := h.len
  refine ⟨by simp [hl], fun i hi => ?_⟩
  rcases Nat.lt_succ_iff_lt_or_eq.1 hi with h' | h'
  · rw [hv_left (by omega)]; exact h.row i h'
  · subst h'; rw [← hl, hv_last, hl]; exact hr
def servedOf (cs : List Cd) (q : Nat) : List Bk := (runTo cs q).getD []
theorem own_capK {w : World} {base : Nat} {o : Option Addr} {n c : Nat} {l : List Bk} (h : ownK w base (.slice o n c) l) : o = none → c = 0 := fun e => (InRow.cap (InRow.of h)) n c (by rw [e])
/-- The head's cell of such a row. -/
theorem head_cell {e : TypeId} {w : World} {base g n c : Nat} {hs : List Hd} (h : ownL layH e w base (.slice (some ⟨g, 0, none⟩) n c) hs) (i : Nat) (hi : i < hs.length) : w.cell? ⟨g, i, none⟩ = some (hv hs i) := by
  rcases ownL.rd (L := layH) h with h1 | ⟨b, off, e1, _, r⟩
  · subst h1; simp at hi
  · injection e1 with e1
    injection e1 with e2 e3
    subst e2 e3
    have := r i hi 0 (by decide)
    simpa [layH, hv] using this
theorem own_someH {e : TypeId} {w : World} {base : Nat} {v : Value} {hs : List Hd} (h : ownL layH e w base v hs) (hp : 0 < hs.length) : ∃ g c, v = .slice (some ⟨g, 0, none⟩) hs.length c := by
  rcases h.2 with ⟨h1, h2⟩ | ⟨g, c, cur, h1, _⟩
  · omega
  · exact ⟨g, c, h1⟩
theorem cells0 (w : World) (T : TypeId) : ownL layH T (w.alloc (.cells #[.slice none 0 0] T)) w.heap.size (.slice (some ⟨w.heap.size, 0, none⟩) 1 1) [(none, 0, 0)] :=
  ⟨by simp [layH], .inr ⟨w.heap.size, 1, #[.slice none 0 0], rfl, Nat.le_refl _, heap_alloc_new w _, by simp, by unfold maxLen; omega, by simp [layH], by simp [layH]⟩⟩
theorem journalB_no {key : Int} {cs : List Cd} {safe : Int} (h : (runTo cs cs.length).isSome = false) : journalB key cs safe = false := by unfold journalB; rw [h]; simp
theorem run_stop {cs : List Cd} {k : Nat} (hk : k < cs.length) (h : stepO (runTo cs k) (cs.getD k (0, 0, 0)) = none) : (runTo cs cs.length).isSome = false := by
  rw [← runTo_succ hk] at h
  rw [runTo_none h (by omega)]; rfl

theorem rd_one {w : World} {o : Option Addr} {n c : Nat} {T : TypeId} : RdL layH (w.alloc (.cells #[.slice o n c] T)).heap.size (w.alloc (.cells #[.slice o n c] T)) (some ⟨w.heap.size, 0, none⟩) [(o, n, c)] :=
  .inr ⟨w.heap.size, 0, rfl, by simp, fun i hi j hj => by
    have e1 : i = 0 := by simpa using hi
    have e2 : j = 0 := by simpa [layH] using hj
    subst e1 e2
    simp [layH]⟩
end Go.Proofs.Ytfmnhdemhbbjlaa

