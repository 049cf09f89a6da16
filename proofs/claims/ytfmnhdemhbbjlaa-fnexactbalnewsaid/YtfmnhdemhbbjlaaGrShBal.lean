/- Several texts in one: SL4, ShP, LFlow, LSlot, LMarkS, ShT, ShBal. -/
import Derived.Test.YtfmnhdemhbbjlaaGrSTab2
import Derived.Test.YtfmnhdemhbbjlaaGrSTab3
import Derived.Test.YtfmnhdemhbbjlaaGrSTurns
import Derived.Deep.RegionHeld3
import Derived.Deep.CutRange
import Derived.Test.YtfmnhdemhbbjlaaGrPlaceMath
import Derived.Test.YtfmnhdemhbbjlaaBase
import Derived.Test.YtfmnhdemhbbjlaaGrFr
/- The model's way with a command to a pool. -/
namespace Go.Proofs.Ytfmnhdemhbbjlaa
open Go.ChangeShapes Go.WideShapes Go.ChangeAt Go.RowKit Go.Joins
set_option linter.unusedVariables false
set_option linter.unusedSimpArgs false

theorem own_capO {w : World} {base : Nat} {v : Value} {l : List Bk} (h : ownK w base v l) {o : Option Addr} {n c : Nat} (e : v = .slice o n c) : o = none → c = 0 := fun e' => (InRow.cap (InRow.of h)) n c (by rw [e, e'])
theorem bC {C b j : Nat} {w w' : World} {u : Value} (h : Below C w w') (hc : w.cell? ⟨b, j, none⟩ = some u) (hz : b < C) : w'.cell? ⟨b, j, none⟩ = some u := (h.cell (p := ⟨b, j, none⟩) hz).trans hc
theorem bF {C b j : Nat} {w w' : World} (h : Below C w w') (hc : w.frozen? ⟨b, j, none⟩ = false) (hz : b < C) : w'.frozen? ⟨b, j, none⟩ = false := (h.frozen (p := ⟨b, j, none⟩) hz).trans hc
abbrev plv (k : Int) (vb vr : Value) : Value := .agg #[.int .i64 k, vb, vr]
def tabL (key : Int) (l : List Bk) : List (List Int) := rowsOf (fun b => pairI key b l) 8
theorem tabL_length (key : Int) (l : List Bk) : (tabL key l).length = 8 := rowsOf_length _ _
/-- Heads of tables, and how the tables read. -/
def RdTabs (C : Nat) (w : World) (hs : List Hd) (R : List (List (List Int))) : Prop := hs.length = R.length ∧ ∀ i, i < R.length → (hs.getD i (none, 0, 0)).2.1 = (R.getD i []).length ∧ RdLL C w (hs.getD i (none, 0, 0)).1 (R.getD i [])
def RdRing (C : Nat) (w : World) (o : Option Addr) (R : List (List (List Int))) : Prop := ∃ hs : List Hd, RdL layH C w o hs ∧ RdTabs C w hs R
theorem RdTabs.kept {C D : Nat} {w w' : World} {hs : List Hd} {R : List (List (List Int))} (h : RdTabs C w hs R) (hb : Below D w w') (hc : C ≤ D) : RdTabs C w' hs R := ⟨h.1, fun i hi => ⟨(h.2 i hi).1, (h.2 i hi).2.kept hb hc⟩⟩
theorem RdTabs.le {C D : Nat} {w : World} {hs : List Hd} {R : List (List (List Int))} (h : RdTabs C w hs R) (hc : C ≤ D) : RdTabs D w hs R := ⟨h.1, fun i hi => ⟨(h.2 i hi).1, (h.2 i hi).2.le hc⟩⟩
theorem RdRing.kept {C D : Nat} {w w' : World} {o : Option Addr} {R : List (List (List Int))} (h : RdRing C w o R) (hb : Below D w w') (hc : C ≤ D) : RdRing C w' o R := by
  obtain ⟨hs, h1, h2⟩ := h
  exact ⟨hs, h1.kept hb hc, h2.kept hb hc⟩
theorem RdRing.le {C D : Nat} {w : World} {o : Option Addr} {R : List (List (List Int))} (h : RdRing C w o R) (hc : C ≤ D) : RdRing D w o R := by
  obtain ⟨hs, h1, h2⟩ := h
  exact ⟨hs, h1.le hc, h2.le hc⟩
theorem RdTabs.cons {C : Nat} {w : World} {o : Option Addr} {n c : Nat} {hs : List Hd} {T : List (List Int)} {R : List (List (List Int))} (hn : n = T.length) (h0 : RdLL C w o T) (h : RdTabs C w hs R) : RdTabs C w ((o, n, c) :: hs) (T :: R) :=
  ⟨by simp [h.1], fun i hi => by
    cases i with
    | zero => exact ⟨hn, h0⟩
    | succ i => simpa using h.2 i (by simpa using hi)⟩
theorem RdTabs.take {C : Nat} {w : World} {hs : List Hd} {R : List (List (List Int))} (n : Nat) (h : RdTabs C w hs R) : RdTabs C w (hs.take n) (R.take n) :=
  ⟨by simp [h.1], fun i hi => by
    have h1 : i < n := by simp at hi; omega
    have h2 : i < R.length := by simp at hi; omega
    have e1 : (hs.take n).getD i (none, 0, 0) = hs.getD i (none, 0, 0) := by simp [List.getD_eq_getElem?_getD, List.getElem?_take, h1]
    have e2 : (R.take n).getD i [] = R.getD i [] := by simp [List.getD_eq_getElem?_getD, List.getElem?_take, h1]
    rw [e1, e2]; exact h.2 i h2⟩
theorem rdH_take {C : Nat} {w : World} {b off : Nat} {hs : List Hd} (n : Nat) (h : RdL layH C w (some ⟨b, off, none⟩) hs) : RdL layH C w (some ⟨b, off, none⟩) (hs.take n) := by
  rcases h with h | ⟨b', off', ho, hlt, r⟩
  · left; rw [h]; simp
  · refine .inr ⟨b', off', ho, hlt, fun i hi j hj => ?_⟩
    have h1 : i < n := by simp at hi; omega
    have h2 : i < hs.length := by simp at hi; omega
    rw [r i h2 j hj]
    simp [List.getD_eq_getElem?_getD, List.getElem?_take, h1]
theorem rd_oneK {w : World} {x y : Int} {z : Bool} {T : TypeId} : RdK (w.alloc (.cells #[.int .i64 x, .int .i64 y, .bool z] T)).heap.size (w.alloc (.cells #[.int .i64 x, .int .i64 y, .bool z] T)) (some ⟨w.heap.size, 0, none⟩) [(x, y, z)] :=
  .inr ⟨w.heap.size, 0, rfl, by simp, fun i hi j hj => by
    have e1 : i = 0 := by simpa using hi
    subst e1
    match j, hj with
    | 0, _ => simp [layK]
    | 1, _ => simp [layK]
    | 2, _ => simp [layK]⟩
theorem infoIntSS : (Try.prog.info? 116).map (fun i => (i.zero, i.size, i.bytes)) = some (some (.slice none 0 0), 1, 24) := by kernel_rfl
theorem appHT : AppOk layH 26 116 := ⟨Try.underlying26, ⟨_, _, infoIntSS, rfl, by decide⟩, by decide, fun a u hu => by
  simp [layH] at hu; subst hu; rfl⟩
/-- A box and a row of the call's own are not in one block, where their types differ. -/
theorem own_box {w : World} {base s n : Nat} {e T : TypeId} {v : Value} {xs : List Value} {B : Nat} {c : Array Value} (h : w.ownsRow base e s v n xs) (hB : w.heap[B]? = some (.cells c T (0, 0))) (he : e ≠ T) : v.ownBlock = none ∨ v.ownBlock ≠ some B := by
  rcases h.2 with ⟨h1, h2⟩ | ⟨g, cap, cur, h1, hb, hc, _⟩
  · left; rw [h1]; rfl
  · right
    rw [h1]
    intro e'
    simp [Value.ownBlock] at e'
    subst e'
    rw [hc] at hB
    simp at hB
    exact he hB.2
theorem grown_set (w : World) (B j : Nat) (u : Value) : w.grownBy (w.setCell ⟨B, j, none⟩ u) (some B) :=
  ⟨rfl, rfl, rfl, by simp [World.setCell], fun k hk hne => Below.heap_setCell w ⟨B, j, none⟩ u k (fun e => hne (by rw [e]))⟩
theorem box_put {W : World} {B : Nat} {c : Array Value} {T : TypeId} (h : W.heap[B]? = some (.cells c T (0, 0))) (j : Nat) (u : Value) : (W.setCell ⟨B, j, none⟩ u).heap[B]? = some (.cells (c.setIfInBounds j u) T (0, 0)) := by
  simp [World.setCell, Array.getElem?_modify, h]
theorem bx_cell {W : World} {B : Nat} {c : Array Value} {t : TypeId} (h : W.heap[B]? = some (.cells c t (0, 0))) (j : Nat) (u : Value) (hj : c[j]? = some u) : W.cell? ⟨B, j, none⟩ = some u := by
  simp [World.cell?, h, hj]
theorem bx_frozen {W : World} {B : Nat} {c : Array Value} {t : TypeId} (h : W.heap[B]? = some (.cells c t (0, 0))) (j : Nat) : W.frozen? ⟨B, j, none⟩ = false := by
  simp [World.frozen?, h]
/-- In a round: the list so far, a row of the call's own; the box of the one at hand. -/
structure St (W0 W : World) (lv : Value) (s : List Bk) (B : Nat) (x y : Int) (u : Bool) : Prop where
  own : ownK W W0.heap.size lv s
  bel : Below W0.heap.size W0 W
  box : W.heap[B]? = some (.cells #[.int .i64 x, .int .i64 y, .bool u] 137 (0, 0))
  ge : W0.heap.size ≤ B
  ne : ∀ b, lv.ownBlock = some b → b ≠ B
theorem St.start {W0 wr : World} {lv : Value} {s : List Bk} {x y : Int} {u : Bool} (ho : ownK wr W0.heap.size lv s) (hb : Below W0.heap.size W0 wr) : St W0 (wr.alloc (.cells #[.int .i64 x, .int .i64 y, .bool u] 137)) lv s wr.heap.size x y u :=
  ⟨World.ownsRow.alloc ho _, hb.alloc hb.size _, World.alloc_heap_new wr _, hb.size, fun b e => by have := (ho.lt b e).2; omega⟩
theorem St.app {W0 W w5 : World} {lv v5 : Value} {s : List Bk} {B : Nat} {x y : Int} {u : Bool} {a : Bk} {A : Obj} (h : St W0 W lv s B x y u) (ho : ownK w5 W0.heap.size v5 (s ++ [a])) (hg : (W.alloc A).grownBy w5 lv.ownBlock) (hn : v5.ownBlock = lv.ownBlock ∨ v5.ownBlock = some (W.heap.size + 1)) : St W0 w5 v5 (s ++ [a]) B x y u := by
  have hB : B < W.heap.size := (Array.getElem?_eq_some_iff.1 h.box).1
  have hs := h.bel.size
  refine ⟨ho, (h.bel.alloc hs A).grown hg (by simp; omega) (fun k e => (h.own.lt k e).1), ?_, h.ge, ?_⟩
  · rw [hg.block B (by simp; omega) (fun e => h.ne B e.symm rfl), Below.heap_alloc _ _ _ hB]
    exact h.box
  · intro b e
    rcases hn with hn | hn
    · exact h.ne b (by rw [← hn, e])
    · rw [hn] at e
      simp at e
      omega
theorem St.put1 {W0 W : World} {lv : Value} {s : List Bk} {B : Nat} {x y : Int} {u : Bool} (h : St W0 W lv s B x y u) (g : Int) : St W0 (W.setCell ⟨B, 1, none⟩ (.int .i64 g)) lv s B x g u :=
  ⟨World.ownsRow.kept h.own (grown_set W B 1 _) (by cases hob : lv.ownBlock with
    | none => exact .inl rfl
    | some b => exact .inr (fun e => h.ne b hob (by injection e))), h.bel.setCell (p := ⟨B, 1, none⟩) h.ge _, by rw [box_put h.box]; rfl, h.ge, h.ne⟩
theorem St.put2 {W0 W : World} {lv : Value} {s : List Bk} {B : Nat} {x y : Int} {u : Bool} (h : St W0 W lv s B x y u) (d : Bool) : St W0 (W.setCell ⟨B, 2, none⟩ (.bool d)) lv s B x y d :=
  ⟨World.ownsRow.kept h.own (grown_set W B 2 _) (by cases hob : lv.ownBlock with
    | none => exact .inl rfl
    | some b => exact .inr (fun e => h.ne b hob (by injection e))), h.bel.setCell (p := ⟨B, 2, none⟩) h.ge _, by rw [box_put h.box]; rfl, h.ge, h.ne⟩
/-- The ring's row and the newest table's, of the call's own. -/
def RingO (w : World) (base : Nat) (v : Value) (T : Nat → List Int) (hsR : List Hd) : Prop := ∃ o3 c3 hs3, ownL layH 116 w base v ((o3, 8, c3) :: hsR) ∧ ownL layH 117 w base (.slice o3 8 c3) hs3 ∧ Tab T 8 w base hs3
theorem neP1 : (116 : TypeId) ≠ 28 := by decide
theorem neP2 : (117 : TypeId) ≠ 28 := by decide
theorem neP3 : (3 : TypeId) ≠ 28 := by decide
theorem neP4 : (137 : TypeId) ≠ 28 := by decide
theorem neT1 : (117 : TypeId) ≠ 116 := by decide
theorem neT2 : (3 : TypeId) ≠ 116 := by decide
theorem own_putB {w : World} {base s n : Nat} {e : TypeId} {v : Value} {xs : List Value} {B : Nat} {c : Array Value} (h : w.ownsRow base e s v n xs) (hB : w.heap[B]? = some (.cells c 28 (0, 0))) (he : e ≠ 28) (j : Nat) (u : Value) : (w.setCell ⟨B, j, none⟩ u).ownsRow base e s v n xs :=
  World.ownsRow.kept h (grown_set w B j u) (own_box h hB he)
theorem own_low {w : World} {base s n : Nat} {e : TypeId} {v : Value} {xs : List Value} {B : Nat} (h : w.ownsRow base e s v n xs) (hB : B < base) (j : Nat) (u : Value) : (w.setCell ⟨B, j, none⟩ u).ownsRow base e s v n xs :=
  World.ownsRow.kept h (grown_set w B j u) (by
    cases hob : v.ownBlock with
    | none => exact .inl rfl
    | some b => exact .inr (fun e => by have := (h.lt b hob).1; injection e with e; omega))
theorem RingO.put {w : World} {base : Nat} {v : Value} {T : Nat → List Int} {hsR : List Hd} {B : Nat} {c : Array Value} (h : RingO w base v T hsR) (hB : w.heap[B]? = some (.cells c 28 (0, 0))) (j : Nat) (u : Value) : RingO (w.setCell ⟨B, j, none⟩ u) base v T hsR := by
  obtain ⟨o3, c3, hs3, h1, h2, h3⟩ := h
  exact ⟨o3, c3, hs3, own_putB h1 hB neP1 j u, own_putB h2 hB neP2 j u, h3.grown (grown_set w B j u) (fun i hi => own_box (h3.row i hi) hB neP3)⟩
theorem RingO.low {w : World} {base : Nat} {v : Value} {T : Nat → List Int} {hsR : List Hd} {B : Nat} (h : RingO w base v T hsR) (hB : B < base) (j : Nat) (u : Value) : RingO (w.setCell ⟨B, j, none⟩ u) base v T hsR := by
  obtain ⟨o3, c3, hs3, h1, h2, h3⟩ := h
  refine ⟨o3, c3, hs3, own_low h1 hB j u, own_low h2 hB j u, h3.grown (grown_set w B j u) (fun i hi => ?_)⟩
  cases hob : (hv hs3 i).ownBlock with
  | none => exact .inl rfl
  | some b => exact .inr (fun e => by have := ((h3.row i hi).lt b hob).1; injection e with e; omega)
theorem RingO.alloc {w : World} {base : Nat} {v : Value} {T : Nat → List Int} {hsR : List Hd} (h : RingO w base v T hsR) (o : Obj) : RingO (w.alloc o) base v T hsR := by
  obtain ⟨o3, c3, hs3, h1, h2, h3⟩ := h
  exact ⟨o3, c3, hs3, World.ownsRow.alloc h1 o, World.ownsRow.alloc h2 o, h3.kept ((Below.refl _ _).alloc (Nat.le_refl _) _)⟩
theorem RingO.rd {w : World} {base n c : Nat} {g : Nat} {T : Nat → List Int} {hsR : List Hd} {R : List (List (List Int))} {C : Nat} (h : RingO w base (.slice (some ⟨g, 0, none⟩) n c) T hsR) (ht : RdTabs C w hsR R) (hC : C ≤ w.heap.size) (q : Nat) : RdRing w.heap.size w (some ⟨g, 0, none⟩) ((rowsOf T 8 :: R).take q) := by
  obtain ⟨o3, c3, hs3, h1, h2, h3⟩ := h
  exact ⟨_, rdH_take q (ownL.rds h1), (RdTabs.cons (c := c3) (by rw [rowsOf_length]) (h3.rd h2) (ht.le hC)).take q⟩
theorem RingO.isSome {w : World} {base : Nat} {v : Value} {T : Nat → List Int} {hsR : List Hd} (h : RingO w base v T hsR) : ∃ g c, v = .slice (some ⟨g, 0, none⟩) (hsR.length + 1) c := by
  obtain ⟨o3, c3, hs3, h1, h2, h3⟩ := h
  obtain ⟨g, c, e⟩ := own_someH h1 (by simp)
  exact ⟨g, c, by rw [e]; simp⟩
theorem one_own (w : World) (o : Option Addr) (n c : Nat) (T : TypeId) : ownL layH T (w.alloc (.cells #[.slice o n c] T)) w.heap.size (.slice (some ⟨w.heap.size, 0, none⟩) 1 1) [(o, n, c)] :=
  ⟨by simp [layH], .inr ⟨w.heap.size, 1, #[.slice o n c], rfl, Nat.le_refl _, heap_alloc_new w _, by simp, by unfold maxLen; omega, by simp [layH], by simp [layH]⟩⟩
/-- Behind the append: the ring's row, and the table's as it was. -/
theorem ring_app {V x1 : World} {base : Nat} {s v4 : Value} {o3 : Option Addr} {c3 : Nat} {hs3 hsR : List Hd} {T : Nat → List Int} (hs : ownL layH 116 V base s [(o3, 8, c3)]) (h2 : ownL layH 117 V base (.slice o3 8 c3) hs3) (h3 : Tab T 8 V base hs3) (ho : ownL layH 116 x1 base v4 ([(o3, 8, c3)] ++ hsR)) (hg : V.grownBy x1 s.ownBlock) : RingO x1 base v4 T hsR :=
  ⟨o3, c3, hs3, ho, World.ownsRow.kept h2 hg (own_apart h2 hs neT1), h3.other hs neT2 hg⟩
theorem Tab.mono {R : Nat → List Int} {k : Nat} {w : World} {base b2 : Nat} {hs : List Hd} (h : Tab R k w base hs) (hb : b2 ≤ base) : Tab R k w b2 hs := ⟨h.len, fun i hi => own_mono (h.row i hi) hb, h.apart⟩
abbrev setP (W : World) (B : Nat) (a b c : Value) : World := ((W.setCell ⟨B, 0, none⟩ a).setCell ⟨B, 1, none⟩ b).setCell ⟨B, 2, none⟩ c
theorem finP {cur W : World} {B : Nat} {key : Int} {v2 v4 : Value} {T : Nat → List Int} {hsR : List Hd} {z0 z1 z2 : Value} (hZ : W.heap[B]? = some (.cells #[z0, z1, z2] 28 (0, 0))) (hx : Below cur.heap.size cur W) (hB : cur.heap.size ≤ B) (hr : RingO W cur.heap.size v4 T hsR) :
    ∃ B' v', Value.pointer (some ⟨B, 0, none⟩) = .pointer (some ⟨B', 0, none⟩) ∧ Hid ((setP W B (.int .i64 key) v2 v4).heap[B']? = some (.cells #[.int .i64 key, v2, v'] 28 (0, 0))) ∧ Hid (Below cur.heap.size cur (setP W B (.int .i64 key) v2 v4)) ∧ cur.heap.size ≤ B' ∧ B' < (setP W B (.int .i64 key) v2 v4).heap.size ∧ Hid (RingO (setP W B (.int .i64 key) v2 v4) cur.heap.size v' T hsR) := by
  have h1 := box_put hZ 0 (.int .i64 key)
  have h2 := box_put h1 1 v2
  have h3 := box_put h2 2 v4
  refine ⟨B, v4, rfl, h3, ((hx.setCell (p := ⟨B, 0, none⟩) hB _).setCell (p := ⟨B, 1, none⟩) hB _).setCell (p := ⟨B, 2, none⟩) hB _, hB, (Array.getElem?_eq_some_iff.1 h3).1, ((hr.put hZ 0 _).put h1 1 _).put h2 2 _⟩
theorem finPn {cur W : World} {key : Int} {v2 v4 : Value} {T : Nat → List Int} {hsR : List Hd} (hx : Below cur.heap.size cur W) (hr : RingO W cur.heap.size v4 T hsR) :
    ∃ B' v', Value.pointer (some ⟨W.heap.size, 0, none⟩) = .pointer (some ⟨B', 0, none⟩) ∧ Hid ((W.alloc (.cells #[.int .i64 key, v2, v4] 28)).heap[B']? = some (.cells #[.int .i64 key, v2, v'] 28 (0, 0))) ∧ Hid (Below cur.heap.size cur (W.alloc (.cells #[.int .i64 key, v2, v4] 28))) ∧ cur.heap.size ≤ B' ∧ B' < (W.alloc (.cells #[.int .i64 key, v2, v4] 28)).heap.size ∧ Hid (RingO (W.alloc (.cells #[.int .i64 key, v2, v4] 28)) cur.heap.size v' T hsR) :=
  ⟨W.heap.size, v4, rfl, World.alloc_heap_new W _, hx.alloc hx.size _, hx.size, by simp, hr.alloc _⟩
theorem box_newA {w new : World} {c : Array Value} {T : TypeId} (hb : Below ((w.alloc (.cells c T)).drew).heap.size (w.alloc (.cells c T)).drew new) : new.heap[w.heap.size]? = some (.cells c T (0, 0)) := by
  have h1 := hb.block w.heap.size (by simp)
  have h2 : (w.alloc (.cells c T)).drew.heap[w.heap.size]? = (w.alloc (.cells c T)).heap[w.heap.size]? := rfl
  exact h1.trans (h2.trans (World.alloc_heap_new w (.cells c T)))
theorem box_far {V x1 : World} {B n : Nat} {c : Array Value} {T : TypeId} (hg : V.grownBy x1 (Value.slice (some ⟨n, 0, none⟩) 1 1).ownBlock) (hB : V.heap[B]? = some (.cells c T (0, 0))) (hne : B ≠ n) : x1.heap[B]? = some (.cells c T (0, 0)) :=
  (hg.block B (Array.getElem?_eq_some_iff.1 hB).1 (by simp [Value.ownBlock]; exact hne)).trans hB
theorem setP_cell {W : World} {B b j : Nat} {u x y z : Value} (h : W.cell? ⟨b, j, none⟩ = some u) (hb : b < B) : (setP W B x y z).cell? ⟨b, j, none⟩ = some u :=
  (((((Below.refl B W).setCell (p := ⟨B, 0, none⟩) (Nat.le_refl _) x).setCell (p := ⟨B, 1, none⟩) (Nat.le_refl _) y).setCell (p := ⟨B, 2, none⟩) (Nat.le_refl _) z).cell (p := ⟨b, j, none⟩) hb).trans h
theorem one_own1 (w : World) (ob : Obj) (o : Option Addr) (n c : Nat) (T : TypeId) : ownL layH T ((w.alloc ob).alloc (.cells #[.slice o n c] T)) (w.heap.size + 1) (.slice (some ⟨w.heap.size + 1, 0, none⟩) 1 1) [(o, n, c)] := by
  have h := one_own (w.alloc ob) o n c T
  rw [World.size_alloc] at h
  exact h
theorem box_old2 (w : World) (c : Array Value) (T : TypeId) (ob : Obj) : ((w.alloc (.cells c T)).alloc ob).heap[w.heap.size]? = some (.cells c T (0, 0)) := (Below.heap_alloc _ _ _ (by simp)).trans (World.alloc_heap_new w _)
theorem box_new2 (w : World) (c : Array Value) (T : TypeId) (ob : Obj) : ((w.alloc ob).alloc (.cells c T)).heap[w.heap.size + 1]? = some (.cells c T (0, 0)) := by
  have h := World.alloc_heap_new (w.alloc ob) (.cells c T)
  rw [World.size_alloc] at h
  exact h
theorem RingO.cap {w : World} {base n c : Nat} {g : Nat} {T : Nat → List Int} {hsR : List Hd} (h : RingO w base (.slice (some ⟨g, 0, none⟩) n c) T hsR) : n ≤ c := by
  obtain ⟨o3, c3, hs3, h1, h2, h3⟩ := h
  rcases h1.2 with ⟨e, _⟩ | ⟨g', cap, cur, e, hb, hc, h4, h5, h6, h7⟩
  · cases e
  · injection e with e1 e2 e3
    rw [e2, e3]
    exact h4
theorem cell_far {w : World} {B b j q : Nat} {u : Value} (h : b ≠ B) : (w.setCell ⟨B, q, none⟩ u).cell? ⟨b, j, none⟩ = w.cell? ⟨b, j, none⟩ := by
  simp only [World.cell?, Below.heap_setCell w ⟨B, q, none⟩ u b h]
theorem frozen_far {w : World} {B b j q : Nat} {u : Value} (h : b ≠ B) : (w.setCell ⟨B, q, none⟩ u).frozen? ⟨b, j, none⟩ = w.frozen? ⟨b, j, none⟩ := by
  simp only [World.frozen?, Below.heap_setCell w ⟨B, q, none⟩ u b h]
theorem own_head3 {w : World} {base g n c : Nat} {e : TypeId} {hs : List Hd} (h : ownL layH e w base (.slice (some ⟨g, 0, none⟩) n c) hs) (h3 : 3 ≤ hs.length) : ownL layH e w base (.slice (some ⟨g, 0, none⟩) 3 c) (hs.take 3) := by
  have hn : n = hs.length := by
    obtain ⟨o', c', e', _⟩ := ownL.open (L := layH) h
    injection e' with _ e2 _
  subst hn
  exact own_prefix (L := layH) h 3 h3
theorem RingO.mono {w : World} {base b2 : Nat} {v : Value} {T : Nat → List Int} {hsR : List Hd} (h : RingO w base v T hsR) (hb : b2 ≤ base) : RingO w b2 v T hsR := by
  obtain ⟨o3, c3, hs3, h1, h2, h3⟩ := h
  exact ⟨o3, c3, hs3, own_mono h1 hb, own_mono h2 hb, Tab.mono h3 hb⟩
/-- What l4do tells of a command that is done. -/
def DoPost (key : Int) (m : List Bk) (hsR : List Hd) (w : World) (e : Ending) (w' : World) : Prop := ∃ o2 c2 oR2 n2 cR2 o3 c3 hs3, e = .returned (.tuple #[plv key (.slice o2 m.length c2) (.slice oR2 n2 cR2), .bool true]) ∧ n2 = (((o3, 8, c3) :: hsR).take 3).length ∧ ownK w' w.heap.size (.slice o2 m.length c2) m ∧ ownL layH 116 w' w.heap.size (.slice oR2 n2 cR2) (((o3, 8, c3) :: hsR).take 3) ∧ ownL layH 117 w' w.heap.size (.slice o3 8 c3) hs3 ∧ Tab (fun b => pairI key b m) 8 w' w.heap.size hs3 ∧ Below w.heap.size w w'
theorem find_no {l : List Bk} {i : Int} (h : thereB l i = false) : findI l i = -1 := by unfold findI; rw [h]; rfl
theorem find_yes {l : List Bk} {i : Int} (h : thereB l i = true) : findI l i = (placeN l i : Int) := by unfold findI; rw [h]; rfl

end Go.Proofs.Ytfmnhdemhbbjlaa

/- Pools, as a shape: how they read, what owns its memory, and the laws' own helpers over them. -/
namespace Go.Proofs.Ytfmnhdemhbbjlaa
open Go.ChangeShapes Go.WideShapes Go.ChangeAt Go.RowKit Go.Joins
set_option linter.unusedVariables false
set_option linter.unusedSimpArgs false

/-- A pool, as the model has it. -/
structure Pm where
  key : Int
  l : List Bk
  ring : List (List (List Int))
def RiPm (lo hi : Nat) (w : World) (v : Value) (m : Pm) : Prop := ∃ vb vr, v = plv m.key vb vr ∧ RiV layK lo hi w vb m.l ∧ RiR lo hi w vr m.ring
abbrev RdPm (C : Nat) (w : World) (v : Value) (m : Pm) : Prop := RiPm 0 C w v m
def InPm (lo hi : Nat) (w : World) (v : Value) (m : Pm) : Prop := ∃ vb vr mid, v = plv m.key vb vr ∧ lo ≤ mid ∧ mid ≤ hi ∧ InL layK 137 lo mid w vb m.l ∧ InR mid hi w vr m.ring
theorem RiPm.step {a b lo hi : Nat} {w w' : World} {v : Value} {m : Pm} (h : RiPm a b w v m) (s : Stp lo hi w w') (hd : hi ≤ a ∨ b ≤ lo) : RiPm a b w' v m := by
  obtain ⟨vb, vr, e, h1, h2⟩ := h
  exact ⟨vb, vr, e, h1.step s hd, RiR.stp.go h2 s hd⟩
theorem RiPm.mono {a b a' b' : Nat} {w : World} {v : Value} {m : Pm} (h : RiPm a b w v m) (k1 : a' ≤ a) (k2 : b ≤ b') : RiPm a' b' w v m := by
  obtain ⟨vb, vr, e, h1, h2⟩ := h
  exact ⟨vb, vr, e, h1.mono k1 k2, RiR.mon.go h2 k1 k2⟩
theorem RiPm.rd {lo hi : Nat} {w : World} {v : Value} {m : Pm} (h : RiPm lo hi w v m) : RdPm hi w v m := h.mono (Nat.zero_le _) (Nat.le_refl _)
theorem RiPm.le {lo C D : Nat} {w : World} {v : Value} {m : Pm} (h : RiPm lo C w v m) (hc : C ≤ D) : RiPm lo D w v m := h.mono (Nat.le_refl _) hc
theorem RiPm.kept {lo C D : Nat} {w w' : World} {v : Value} {m : Pm} (h : RiPm lo C w v m) (hb : Below D w w') (hc : C ≤ D) : RiPm lo C w' v m :=
  h.step (lo := C) (hi := w.heap.size + C) ⟨hb.os, hb.tape, hb.output, hb.size, fun k hk hn => hb.block k (by omega)⟩ (.inr (Nat.le_refl _))
theorem InPm.step {a b lo hi : Nat} {w w' : World} {v : Value} {m : Pm} (h : InPm a b w v m) (s : Stp lo hi w w') (hd : hi ≤ a ∨ b ≤ lo) : InPm a b w' v m := by
  obtain ⟨vb, vr, mid, e, k1, k2, h1, h2⟩ := h
  exact ⟨vb, vr, mid, e, k1, k2, InRow.step h1 s (by omega), InR.stp.go h2 s (by omega)⟩
theorem InPm.ri {lo hi : Nat} {w : World} {v : Value} {m : Pm} (h : InPm lo hi w v m) : RiPm lo hi w v m := by
  obtain ⟨vb, vr, mid, e, k1, k2, h1, h2⟩ := h
  exact ⟨vb, vr, e, (InRow.ri h1).mono (Nat.le_refl _) k2, RiR.mon.go (InR.ri h2) k1 (Nat.le_refl _)⟩
theorem InPm.rd {lo hi : Nat} {w : World} {v : Value} {m : Pm} (h : InPm lo hi w v m) : RdPm hi w v m := h.ri.rd
theorem RiR.len {lo hi : Nat} {w : World} {v : Value} {lll : List (List (List Int))} (h : RiR lo hi w v lll) : ∃ o c, v = .slice o lll.length c := by
  obtain ⟨hs, h0, ⟨o, c, e, _⟩, _⟩ := h
  exact ⟨o, c, by rw [e, h0]⟩
theorem RiPm.opn {lo hi : Nat} {w : World} {v : Value} {m : Pm} (h : RiPm lo hi w v m) : ∃ (o : Option Addr) (c : Nat) (oR : Option Addr) (cR : Nat), v = plv m.key (.slice o m.l.length c) (.slice oR m.ring.length cR) := by
  obtain ⟨vb, vr, e, ⟨o, c, e1, _⟩, h2⟩ := h
  obtain ⟨oR, cR, e2⟩ := RiR.len h2
  exact ⟨o, c, oR, cR, by rw [e, e1, e2]⟩
theorem InPm.opn {lo hi : Nat} {w : World} {v : Value} {m : Pm} (h : InPm lo hi w v m) : ∃ (o : Option Addr) (c : Nat) (oR : Option Addr) (cR : Nat), v = plv m.key (.slice o m.l.length c) (.slice oR m.ring.length cR) := h.ri.opn
/-- No more than the laws look at. -/
def fitPm (m : Pm) : Prop := m.l.length ≤ 1048576 ∧ m.ring.length ≤ 1048576 ∧ szR m.ring ≤ 1048576 ∧ (∀ i, i < m.ring.length → (m.ring.getD i []).length ≤ 1048576) ∧ ∀ i, i < m.ring.length → ∀ j, j < (m.ring.getD i []).length → ((m.ring.getD i []).getD j []).length ≤ 1048576
/-- How many marks. -/
def nPm (m : Pm) : Int := 3 * (m.l.length : Int) + (szR m.ring : Int)
theorem nPm_bd {m : Pm} (h : fitPm m) : 0 ≤ nPm m ∧ nPm m ≤ 4194304 := by
  obtain ⟨h1, h2, h3, _⟩ := h
  unfold nPm; omega
def mkPm (k : Int) (m : Pm) : Pm := ⟨m.key, mkL mkBk 3 k m.l.length, mkR (k + 3 * (m.l.length : Int)) m.ring⟩

set_option maxRecDepth 100000 in
set_option maxHeartbeats 1000000 in
theorem eqPool_sh (v1 v2 : Value) (m : Pm) (w : World) (h1 : RdPm w.heap.size w v1 m) (h2 : RdPm w.heap.size w v2 m) (hf : fitPm m) :
    Calls Try.prog 21 #[v1, v2] w fun e w' => e = .returned (.bool true) ∧ Below w.heap.size w w' := by
  obtain ⟨vb1, vr1, rfl, ⟨o1, c1, rfl, b1⟩, r1⟩ := h1
  obtain ⟨vb2, vr2, rfl, ⟨o2, c2, rfl, b2⟩, r2⟩ := h2
  obtain ⟨oR1, cR1, rfl⟩ := RiR.len r1
  obtain ⟨oR2, cR2, rfl⟩ := RiR.len r2
  obtain ⟨hf1, hf2, hf3, hf4, hf5⟩ := hf
  have HBK := hide (fun W (hb : Below w.heap.size w W) => eqBackS_same o1 o2 c1 c2 m.l W ((b1.rd.kept hb (Nat.le_refl _)).le hb.size) ((b2.rd.kept hb (Nat.le_refl _)).le hb.size) hf1)
  have HRG := hide (fun W (hb : Below w.heap.size w W) => eqIntSSS_same (.slice oR1 m.ring.length cR1) (.slice oR2 m.ring.length cR2) m.ring W (RiR.mon.go (RiR.stp.go r1 (Stp.of (lo := 0) (hi := 0) hb) (.inl (Nat.zero_le _))) (Nat.le_refl _) hb.size) (RiR.mon.go (RiR.stp.go r2 (Stp.of (lo := 0) (hi := 0) hb) (.inl (Nat.zero_le _))) (Nat.le_refl _) hb.size) hf2 hf4 hf5)
  clear b1 b2 r1 r2 hf4 hf5
  obtain ⟨W0, hW0⟩ : ∃ W, ((w.alloc (.cells #[.int .i64 m.key, .slice o1 m.l.length c1, .slice oR1 m.ring.length cR1] 28)).alloc (.cells #[.int .i64 m.key, .slice o2 m.l.length c2, .slice oR2 m.ring.length cR2] 28)) = W := ⟨_, rfl⟩
  have hb_W0 : Below w.heap.size w W0 := by rw [← hW0]; exact (((Below.refl _ _).alloc (Nat.le_refl _) _).alloc (by simp <;> omega) _)
  have HB := hide hb_W0
  clear hb_W0
  have zz : w.heap.size < W0.heap.size := by rw [← hW0]; simp <;> omega
  have z0 : W0.cell? ⟨w.heap.size, 0, none⟩ = some (.int .i64 m.key) := by rw [← hW0]; simp [go_sem]
  have z1 : W0.cell? ⟨w.heap.size, 1, none⟩ = some (.slice o1 m.l.length c1) := by rw [← hW0]; simp [go_sem]
  have z2 : W0.cell? ⟨w.heap.size, 2, none⟩ = some (.slice oR1 m.ring.length cR1) := by rw [← hW0]; simp [go_sem]
  have zu : w.heap.size + 1 < W0.heap.size := by rw [← hW0]; simp
  have u0 : W0.cell? ⟨w.heap.size + 1, 0, none⟩ = some (.int .i64 m.key) := by rw [← hW0]; simp [go_sem]
  have u1 : W0.cell? ⟨w.heap.size + 1, 1, none⟩ = some (.slice o2 m.l.length c2) := by rw [← hW0]; simp [go_sem]
  have u2 : W0.cell? ⟨w.heap.size + 1, 2, none⟩ = some (.slice oR2 m.ring.length cR2) := by rw [← hW0]; simp [go_sem]
  go_enter Try.func21, Try.ntmps21
  go_wp2_with fail
  refine (HBK.out W0 HB.out).mono ?_
  rintro e v1 ⟨rfl, hb⟩
  replace z0 := bC hb z0 zz
  replace z1 := bC hb z1 zz
  replace z2 := bC hb z2 zz
  replace zz := Nat.lt_of_lt_of_le zz hb.size
  replace u0 := bC hb u0 zu
  replace u1 := bC hb u1 zu
  replace u2 := bC hb u2 zu
  replace zu := Nat.lt_of_lt_of_le zu hb.size
  replace HB := hide (HB.out.trans (hb.mono HB.out.size))
  clear hb
  go_wp2_with fail
  refine (HRG.out v1 HB.out).mono ?_
  rintro e v2 ⟨rfl, hb⟩
  replace z0 := bC hb z0 zz
  replace z1 := bC hb z1 zz
  replace z2 := bC hb z2 zz
  replace zz := Nat.lt_of_lt_of_le zz hb.size
  replace u0 := bC hb u0 zu
  replace u1 := bC hb u1 zu
  replace u2 := bC hb u2 zu
  replace zu := Nat.lt_of_lt_of_le zu hb.size
  replace HB := hide (HB.out.trans (hb.mono HB.out.size))
  clear hb
  go_wp2
  go_ret
  exact ⟨rfl, HB.out⟩

set_option maxRecDepth 100000 in
set_option maxHeartbeats 1000000 in
theorem markPool_sh (lo hi : Nat) (v : Value) (m : Pm) (k : Int) (w : World) (hv : InPm lo hi w v m) (h0 : 0 ≤ k) (h1 : k ≤ 1000000) (hf : fitPm m) :
    Calls Try.prog 24 #[v, .int .i64 k] w fun e w' => e = .returned (.int .i64 (k + nPm m)) ∧ InPm lo hi w' v (mkPm k m) ∧ Stp lo hi w w' := by
  obtain ⟨vb, vr, mid, rfl, k1, k2, ib, ir⟩ := hv
  obtain ⟨o, c, e1, _⟩ := InRow.ri ib
  subst e1
  obtain ⟨oR, cR, e2⟩ := RiR.len (InR.ri ir)
  subst e2
  obtain ⟨hf1, hf2, hf3, hf4, hf5⟩ := hf
  obtain ⟨W0, hW0⟩ : ∃ W, (w.alloc (.cells #[.int .i64 m.key, .slice o m.l.length c, .slice oR m.ring.length cR] 28)) = W := ⟨_, rfl⟩
  have hb0 : Below w.heap.size w W0 := by rw [← hW0]; exact (Below.refl _ _).alloc (Nat.le_refl _) _
  have z0 : W0.heap[w.heap.size]? = some (.cells #[.int .i64 m.key, .slice o m.l.length c, .slice oR m.ring.length cR] 28 (0, 0)) := by rw [← hW0]; exact World.alloc_heap_new w _
  have s0 : Hid (Stp lo hi w W0) := Stp.of hb0
  have hhi : Hid (∀ b, (Value.slice o m.l.length c).ownBlock = some b → b < w.heap.size) := fun b e => (ib.1.lt b e).2
  replace ib := InRow.step ib (Stp.of (lo := 0) (hi := 0) hb0) (.inl (Nat.zero_le _))
  replace ir := InR.stp.go ir (Stp.of (lo := 0) (hi := 0) hb0) (.inl (Nat.zero_le _))
  have HM := hide (markBackSm_any lo (.slice o m.l.length c) m.l k W0 ib.1 h0 (by omega) hf1)
  have HB := hide ib.2
  have HLO := hide (fun b e => (ib.1.lt b e).1)
  have HR := hide ir
  have p1 : W0.cell? ⟨w.heap.size, 1, none⟩ = some (.slice o m.l.length c) := bx_cell z0 1 _ rfl
  have p2 : W0.cell? ⟨w.heap.size, 2, none⟩ = some (.slice oR m.ring.length cR) := bx_cell z0 2 _ rfl
  have HZ := hide z0
  clear ib ir hb0 z0
  go_enter Try.func24, Try.ntmps24
  go_wp2_with fail
  refine HM.out.mono ?_
  rintro e v1 ⟨rfl, hown, hgr⟩
  have s1 : Hid (Stp lo mid W0 v1) := Stp.grown hgr (fun b e => ⟨HLO.out b e, HB.out b e⟩)
  have hz1 : v1.heap[w.heap.size]? = some (.cells #[.int .i64 m.key, .slice o m.l.length c, .slice oR m.ring.length cR] 28 (0, 0)) := (hgr.block _ (Array.getElem?_eq_some_iff.1 HZ.out).1 (fun e => by have := hhi.out _ e.symm; omega)).trans HZ.out
  have HO := hide hown
  have HMR := hide (markIntSSS_in mid hi (.slice oR m.ring.length cR) m.ring (k + 3 * (m.l.length : Int)) v1 (InR.stp.go HR.out s1.out (.inl (Nat.le_refl _))) (by omega) (by omega) hf2 hf3 hf4)
  have q2 : v1.cell? ⟨w.heap.size, 2, none⟩ = some (.slice oR m.ring.length cR) := bx_cell hz1 2 _ rfl
  clear hown hgr p1 p2 hz1 HR hf4 hf5
  go_wp2_with fail
  refine HMR.out.mono ?_
  rintro e v2 ⟨rfl, hir, hsp⟩
  have H : Hid (InPm lo hi v2 (plv m.key (.slice o m.l.length c) (.slice oR m.ring.length cR)) (mkPm k m) ∧ Stp lo hi w v2) := ⟨⟨_, _, mid, rfl, k1, k2, InRow.step ⟨HO.out, HB.out⟩ hsp (.inr (Nat.le_refl _)), hir⟩, s0.out.trans ((s1.out.wide2 (Nat.le_refl _) k2).trans (hsp.wide2 k1 (Nat.le_refl _)))⟩
  have HN := hide (show k + 3 * (m.l.length : Int) + (szR m.ring : Int) = k + nPm m by unfold nPm; omega)
  clear hir hsp HO s0 s1 HMR
  go_wp2
  go_ret
  exact ⟨by rw [HN.out]; rfl, H.out.1, H.out.2⟩

set_option maxRecDepth 100000 in
set_option maxHeartbeats 1000000 in
theorem heldPool_sh (v : Value) (m : Pm) (k : Int) (w : World) (hR : RdPm w.heap.size w v (mkPm k m)) (h0 : 0 ≤ k) (h1 : k ≤ 1000000) (hf : fitPm m) :
    Calls Try.prog 27 #[v, .int .i64 k] w fun e w' => e = .returned (.int .i64 (k + nPm m)) ∧ Below w.heap.size w w' := by
  obtain ⟨vb, vr, rfl, ⟨o, c, rfl, r⟩, rr⟩ := hR
  obtain ⟨oR, cR, e2⟩ := RiR.len rr
  subst e2
  obtain ⟨hf1, hf2, hf3, hf4, hf5⟩ := hf
  have e1 : (mkPm k m).l.length = m.l.length := mkL_length _ _ _ _
  have e3 : (mkPm k m).ring.length = m.ring.length := mkR_len _ _
  rw [e1, e3]
  have r0 : RdL layK w.heap.size w o (mkL mkBk 3 k m.l.length) := r.rd
  have rr0 : RiR 0 w.heap.size w (.slice oR m.ring.length cR) (mkR (k + 3 * (m.l.length : Int)) m.ring) := by rw [← e3]; exact rr
  have HH := hide (fun W (hb : Below w.heap.size w W) => heldBackSm_any o c m.l.length w.heap.size k W (r0.kept hb (Nat.le_refl _)) h0 (by omega) hf1)
  have HG := hide (fun W (hb : Below w.heap.size w W) => heldIntSSS_in (.slice oR m.ring.length cR) m.ring (k + 3 * (m.l.length : Int)) W (RiR.mon.go (RiR.stp.go rr0 (Stp.of (lo := 0) (hi := 0) hb) (.inl (Nat.zero_le _))) (Nat.le_refl _) hb.size) (by omega) (by omega) hf2 hf3 hf4)
  have hn : (0 : Int) ≤ k + 3 * m.l.length := by omega
  have hn2 : (0 : Int) ≤ k + 3 * m.l.length + (szR m.ring : Int) := by omega
  clear r rr r0 rr0 e1 e3 hf4 hf5
  show Calls Try.prog 27 #[plv m.key (.slice o m.l.length c) (.slice oR m.ring.length cR), .int .i64 k] w _
  have HN := hide (show k + 3 * (m.l.length : Int) + (szR m.ring : Int) = k + nPm m by unfold nPm; omega)
  obtain ⟨W0, hW0⟩ : ∃ W, (w.alloc (.cells #[.int .i64 m.key, .slice o m.l.length c, .slice oR m.ring.length cR] 28)) = W := ⟨_, rfl⟩
  have hb_W0 : Below w.heap.size w W0 := by rw [← hW0]; exact ((Below.refl _ _).alloc (Nat.le_refl _) _)
  have HB := hide hb_W0
  clear hb_W0
  have zz : w.heap.size < W0.heap.size := by rw [← hW0]; simp
  have z0 : W0.cell? ⟨w.heap.size, 0, none⟩ = some (.int .i64 m.key) := by rw [← hW0]; simp [go_sem]
  have z1 : W0.cell? ⟨w.heap.size, 1, none⟩ = some (.slice o m.l.length c) := by rw [← hW0]; simp [go_sem]
  have z2 : W0.cell? ⟨w.heap.size, 2, none⟩ = some (.slice oR m.ring.length cR) := by rw [← hW0]; simp [go_sem]
  go_enter Try.func27, Try.ntmps27
  go_wp2_with fail
  refine (HH.out W0 HB.out).mono ?_
  rintro e _ ⟨rfl, rfl⟩
  go_wp2_with fail
  refine (HG.out W0 HB.out).mono ?_
  rintro e _ ⟨rfl, rfl⟩
  go_wp2
  go_ret
  exact ⟨by rw [HN.out]; rfl, HB.out⟩

end Go.Proofs.Ytfmnhdemhbbjlaa

/- Contracts of the laws' own helpers over flows: a flow that came in, its copy, its comparison. -/
namespace Go.Proofs.Ytfmnhdemhbbjlaa
open Go.ChangeShapes Go.WideShapes Go.ChangeAt Go.RowKit Go.Joins
set_option linter.unusedVariables false
set_option linter.unusedSimpArgs false

theorem cellsLawsFlow : Try.prog.cellsOf 40 = 2 := by kernel_rfl

set_option maxRecDepth 100000 in
/-- A flow that came in: two numbers. -/
theorem open_flow {H : Type} {enc : TypeId × Value → H} {W : World} {base : Nat} {v : Value} {d : DataW H} {p : List MemPlace}
    (hv : Value.okWide Try.prog W .any base 40 v) (h : DataW.Trod enc Try.prog W 0 (fun _ => true) true 40 v d p) :
    ∃ a b : Int, v = .agg #[.int .i64 a, .int .i64 b] := by
  obtain ⟨c0, c1, y0, y1, m, rfl, rfl, rfl, hy0, hy1⟩ := open_agg2 Try.underlying40 (by kernel_rfl) cellsLawsFlow hv h
  obtain ⟨a, e0, rfl, wa⟩ := DataW.trod_int Try.underlying3 hy0
  obtain ⟨b, e1, rfl, wb⟩ := DataW.trod_int Try.underlying3 hy1
  simp at e0 e1
  subst e0 e1
  exact ⟨a, b, rfl⟩

set_option maxHeartbeats 400000 in
theorem toFlow_any (a b : Int) (w : World) :
    Calls Try.prog 33 #[.agg #[.int .i64 a, .int .i64 b]] w fun e w' => e = .returned (.agg #[.int .i64 a, .int .i64 b]) ∧ Below w.heap.size w w' := by
  have hB : Below w.heap.size w w := Below.refl _ _
  go_enter Try.func33, Try.ntmps33
  go_wp2
  refine bodyPost_ret (v := .agg #[.int .i64 a, .int .i64 b]) (by simp [results, Try.results33, go_sem]) rfl ⟨rfl, ?_⟩
  (repeat (first | with_reducible exact hB | with_reducible exact Below.refl _ _ | with_reducible refine Below.drew ?_ | with_reducible refine below_drewN ?_ _ | with_reducible refine Below.alloc ?_ ?_ _ | with_reducible refine Below.setCell ?_ ?_ _ | (focus (simp; done)) | (focus (simp; omega)) | omega))

set_option maxHeartbeats 400000 in
theorem eqFlow_any (a b c d : Int) (w : World) :
    Calls Try.prog 39 #[.agg #[.int .i64 a, .int .i64 b], .agg #[.int .i64 c, .int .i64 d]] w fun e w' => e = .returned (.bool (decide (a = c ∧ b = d))) ∧ Below w.heap.size w w' := by
  have hB : Below w.heap.size w w := Below.refl _ _
  go_enter Try.func39, Try.ntmps39
  go_wp2
  all_goals go_ret
  all_goals refine ⟨?_, by (repeat (first | with_reducible exact hB | with_reducible exact Below.refl _ _ | with_reducible refine Below.drew ?_ | with_reducible refine below_drewN ?_ _ | with_reducible refine Below.alloc ?_ ?_ _ | with_reducible refine Below.setCell ?_ ?_ _ | (focus (simp; done)) | (focus (simp; omega)) | omega))⟩
  all_goals (simp_all)

theorem eqFlow_same (a b : Int) (w : World) :
    Calls Try.prog 39 #[.agg #[.int .i64 a, .int .i64 b], .agg #[.int .i64 a, .int .i64 b]] w fun e w' => e = .returned (.bool true) ∧ Below w.heap.size w w' := by
  have := eqFlow_any a b a b w
  simpa using this

end Go.Proofs.Ytfmnhdemhbbjlaa

/- Slots, and rows of them: how they read; the laws' own helpers over them: toSlot, eqSlot, szSlotS, toSlotS, eqSlotS. -/
namespace Go.Proofs.Ytfmnhdemhbbjlaa
open Go.ChangeShapes Go.WideShapes Go.ChangeAt Go.RowKit Go.Joins
set_option linter.unusedVariables false
set_option linter.unusedSimpArgs false

/-- A slot, as the model has it. -/
structure Sl where
  u : Bool
  a : Int
  p : Int
  v : Int
  t : Int
abbrev sl0 : Sl := ⟨false, 0, 0, 0, 0⟩
def layS : Lay Sl := ⟨5, fun s => [.bool s.u, .int .i64 s.a, .int .i64 s.p, .int .i64 s.v, .int .i64 s.t], sl0, fun _ => rfl⟩
abbrev slot (s : Sl) : Value := .agg #[.bool s.u, .int .i64 s.a, .int .i64 s.p, .int .i64 s.v, .int .i64 s.t]
abbrev RdS := RdL layS
abbrev ownS := ownL layS 130
abbrev InS := InL layS 130

theorem RdL.slot {C : Nat} {w : World} {b off : Nat} {l : List Sl} (h : ∀ i, i < l.length → ∀ j, j < layS.k → w.cell? ⟨b, off + i * layS.k + j, none⟩ = (layS.cs (l.getD i layS.d))[j]?) (i : Nat) (hi : i < l.length) :
    w.cell? ⟨b, off + i * 5, none⟩ = some (.bool (l.getD i sl0).u) ∧ w.cell? ⟨b, off + i * 5 + 1, none⟩ = some (.int .i64 (l.getD i sl0).a) ∧ w.cell? ⟨b, off + i * 5 + 2, none⟩ = some (.int .i64 (l.getD i sl0).p) ∧ w.cell? ⟨b, off + i * 5 + 3, none⟩ = some (.int .i64 (l.getD i sl0).v) ∧ w.cell? ⟨b, off + i * 5 + 4, none⟩ = some (.int .i64 (l.getD i sl0).t) :=
  ⟨h i hi 0 (by decide), h i hi 1 (by decide), h i hi 2 (by decide), h i hi 3 (by decide), h i hi 4 (by decide)⟩
theorem flat_set5 {α : Type} (L : Lay α) (hk : L.k = 5) {v0 v1 v2 v3 v4 : Value} {a : α} (ha : L.cs a = [v0, v1, v2, v3, v4]) : ∀ (l : List α) (i : Nat), (((((l.flatMap L.cs).set (i * 5) v0).set (i * 5 + 1) v1).set (i * 5 + 2) v2).set (i * 5 + 3) v3).set (i * 5 + 4) v4 = (l.set i a).flatMap L.cs
  | [], i => by simp
  | q :: l, 0 => by
    have hq := (L.len q).trans hk
    match hc : L.cs q, hq with
    | [q0, q1, q2, q3, q4], _ => simp [ha, hc]
  | q :: l, i + 1 => by
    have hq := (L.len q).trans hk
    match hc : L.cs q, hq with
    | [q0, q1, q2, q3, q4], _ =>
      rw [show (i + 1) * 5 = i * 5 + 1 + 1 + 1 + 1 + 1 by omega]
      simp only [List.flatMap_cons, hc, List.cons_append, List.nil_append, List.set_cons_succ]
      rw [flat_set5 L hk ha l i]
theorem infoSlot : (Try.prog.info? 130).map (fun i => (i.zero, i.size, i.bytes)) = some (some (.agg #[.bool false, .int .i64 0, .int .i64 0, .int .i64 0, .int .i64 0]), 5, 40) := by kernel_rfl
theorem cellsInt1s : Try.prog.cellsOf 3 = 1 := by kernel_rfl
theorem cellsBool1s : Try.prog.cellsOf 4 = 1 := by kernel_rfl
set_option maxHeartbeats 800000 in
theorem eqSlot_same (s : Sl) (w : World) :
    Calls Try.prog 82 #[slot s, slot s] w fun e w' => e = .returned (.bool true) ∧ Below w.heap.size w w' := by
  have hB : Below w.heap.size w w := Below.refl _ _
  go_enter Try.func82, Try.ntmps82
  go_wp2_with (first | (go_at_call 39; refine (eqFlow_same s.a s.p _).mono ?_; rintro e w1a ⟨rfl, hba⟩; obtain ⟨hca, hfa⟩ := bcell hba; have hz0a : w.heap.size < w1a.heap.size := (by have hz := hba.size; (try simp at hz); omega); have hz1a : w.heap.size + 1 < w1a.heap.size := (by have hz := hba.size; (try simp at hz); omega); have hB : Below w.heap.size w w1a := (by refine Below.trans ?_ (hba.mono (by have hs := hB.size; (try simp) <;> omega)); (repeat (first | with_reducible exact hB | with_reducible exact Below.refl _ _ | with_reducible refine Below.drew ?_ | with_reducible refine below_drewN ?_ _ | with_reducible refine Below.alloc ?_ ?_ _ | with_reducible refine Below.setCell ?_ ?_ _ | (focus (simp; done)) | (focus (simp; omega)) | omega)))))
  all_goals go_ret
  all_goals exact ⟨rfl, by (repeat (first | with_reducible exact hB | with_reducible exact Below.refl _ _ | with_reducible refine Below.drew ?_ | with_reducible refine below_drewN ?_ _ | with_reducible refine Below.alloc ?_ ?_ _ | with_reducible refine Below.setCell ?_ ?_ _ | (focus (simp; done)) | (focus (simp; omega)) | omega))⟩

/-- A whole record stored into a row. -/
theorem stored5 {e : TypeId} {w wr : World} {base B g c n : Nat} {l : List Sl} {k : Nat} (s : Sl) (hg : B ≤ g) (hown : wr.ownsRow base e 5 (.slice (some ⟨g, 0, none⟩) n c) n (l.flatMap layS.cs)) (hB : Below B w wr) :
    (((((wr.setCell ⟨g, k * 5, none⟩ (.bool s.u)).setCell ⟨g, k * 5 + 1, none⟩ (.int .i64 s.a)).setCell ⟨g, k * 5 + 2, none⟩ (.int .i64 s.p)).setCell ⟨g, k * 5 + 3, none⟩ (.int .i64 s.v)).setCell ⟨g, k * 5 + 4, none⟩ (.int .i64 s.t)).ownsRow base e 5 (.slice (some ⟨g, 0, none⟩) n c) n ((l.set k s).flatMap layS.cs) ∧
      Below B w (((((wr.setCell ⟨g, k * 5, none⟩ (.bool s.u)).setCell ⟨g, k * 5 + 1, none⟩ (.int .i64 s.a)).setCell ⟨g, k * 5 + 2, none⟩ (.int .i64 s.p)).setCell ⟨g, k * 5 + 3, none⟩ (.int .i64 s.v)).setCell ⟨g, k * 5 + 4, none⟩ (.int .i64 s.t)) := by
  have h := (((((hown.stored (k * 5) (.bool s.u)).1.stored (k * 5 + 1) (.int .i64 s.a)).1.stored (k * 5 + 2) (.int .i64 s.p)).1.stored (k * 5 + 3) (.int .i64 s.v)).1.stored (k * 5 + 4) (.int .i64 s.t)).1
  rw [flat_set5 layS rfl (a := s) rfl] at h
  exact ⟨h, ((((hB.setCell (p := ⟨g, k * 5, none⟩) hg _).setCell (p := ⟨g, k * 5 + 1, none⟩) hg _).setCell (p := ⟨g, k * 5 + 2, none⟩) hg _).setCell (p := ⟨g, k * 5 + 3, none⟩) hg _).setCell (p := ⟨g, k * 5 + 4, none⟩) hg _⟩

set_option maxHeartbeats 2000000 in
theorem eqSlotS_same (o1 o2 : Option Addr) (c1 c2 : Nat) (l : List Sl) (w : World) (h1 : RdS w.heap.size w o1 l) (h2 : RdS w.heap.size w o2 l) (hl : l.length ≤ 1048576) :
    Calls Try.prog 52 #[.slice o1 l.length c1, .slice o2 l.length c2] w fun e w' => e = .returned (.bool true) ∧ Below w.heap.size w w' := by
  go_enter Try.func52, Try.ntmps52
  go_wp2
  go_loopw [5] (fun i wr => ∃ k : Nat, k ≤ l.length ∧ i = .int .i64 k ∧ Below w.heap.size w wr)
    (fun i _ => l.length - (intOf i).toNat)
  case atStart => exact ⟨0, Nat.zero_le _, rfl, Below.refl _ _⟩
  case round =>
    obtain ⟨k, hk, rfl, hBr⟩ := hrel
    by_cases hlt : k < l.length
    · rcases h1 with h1 | ⟨b1, off1, rfl, hb1, hcell1⟩
      · subst h1; simp at hlt
      rcases h2 with h2 | ⟨b2, off2, rfl, hb2, hcell2⟩
      · subst h2; simp at hlt
      obtain ⟨s, hxy⟩ : ∃ s, l.getD k sl0 = s := ⟨_, rfl⟩
      have hcx1 := RdL.slot (C := w.heap.size) hcell1 k hlt
      have hcx2 := RdL.slot (C := w.heap.size) hcell2 k hlt
      rw [hxy] at hcx1 hcx2
      have p0 : wr.cell? ⟨b1, off1 + k * 5, none⟩ = some (.bool s.u) := (hBr.cell (p := ⟨b1, off1 + k * 5, none⟩) hb1).trans hcx1.1
      have p1 : wr.cell? ⟨b1, off1 + k * 5 + 1, none⟩ = some (.int .i64 s.a) := (hBr.cell (p := ⟨b1, off1 + k * 5 + 1, none⟩) hb1).trans hcx1.2.1
      have p2 : wr.cell? ⟨b1, off1 + k * 5 + 2, none⟩ = some (.int .i64 s.p) := (hBr.cell (p := ⟨b1, off1 + k * 5 + 2, none⟩) hb1).trans hcx1.2.2.1
      have p3 : wr.cell? ⟨b1, off1 + k * 5 + 3, none⟩ = some (.int .i64 s.v) := (hBr.cell (p := ⟨b1, off1 + k * 5 + 3, none⟩) hb1).trans hcx1.2.2.2.1
      have p4 : wr.cell? ⟨b1, off1 + k * 5 + 4, none⟩ = some (.int .i64 s.t) := (hBr.cell (p := ⟨b1, off1 + k * 5 + 4, none⟩) hb1).trans hcx1.2.2.2.2
      have q0 : wr.cell? ⟨b2, off2 + k * 5, none⟩ = some (.bool s.u) := (hBr.cell (p := ⟨b2, off2 + k * 5, none⟩) hb2).trans hcx2.1
      have q1 : wr.cell? ⟨b2, off2 + k * 5 + 1, none⟩ = some (.int .i64 s.a) := (hBr.cell (p := ⟨b2, off2 + k * 5 + 1, none⟩) hb2).trans hcx2.2.1
      have q2 : wr.cell? ⟨b2, off2 + k * 5 + 2, none⟩ = some (.int .i64 s.p) := (hBr.cell (p := ⟨b2, off2 + k * 5 + 2, none⟩) hb2).trans hcx2.2.2.1
      have q3 : wr.cell? ⟨b2, off2 + k * 5 + 3, none⟩ = some (.int .i64 s.v) := (hBr.cell (p := ⟨b2, off2 + k * 5 + 3, none⟩) hb2).trans hcx2.2.2.2.1
      have q4 : wr.cell? ⟨b2, off2 + k * 5 + 4, none⟩ = some (.int .i64 s.t) := (hBr.cell (p := ⟨b2, off2 + k * 5 + 4, none⟩) hb2).trans hcx2.2.2.2.2
      have HB := hide hBr
      have hsr := hide hBr.size
      clear hcell1 hcell2 hBr hcx1 hcx2 hxy
      have i1 : (k : Int) < (l.length : Int) := by omega
      go_wp2
      go_region_held3 (fun w' => w'.cell? ⟨b1, off1 + k * 5, none⟩ = some (.bool s.u) ∧ w'.cell? ⟨b1, off1 + k * 5 + 1, none⟩ = some (.int .i64 s.a) ∧ w'.cell? ⟨b1, off1 + k * 5 + 2, none⟩ = some (.int .i64 s.p) ∧ w'.cell? ⟨b1, off1 + k * 5 + 3, none⟩ = some (.int .i64 s.v) ∧ w'.cell? ⟨b1, off1 + k * 5 + 4, none⟩ = some (.int .i64 s.t) ∧ w'.cell? ⟨b2, off2 + k * 5, none⟩ = some (.bool s.u) ∧ w'.cell? ⟨b2, off2 + k * 5 + 1, none⟩ = some (.int .i64 s.a) ∧ w'.cell? ⟨b2, off2 + k * 5 + 2, none⟩ = some (.int .i64 s.p) ∧ w'.cell? ⟨b2, off2 + k * 5 + 3, none⟩ = some (.int .i64 s.v) ∧ w'.cell? ⟨b2, off2 + k * 5 + 4, none⟩ = some (.int .i64 s.t)) (first | exact ⟨p0, p1, p2, p3, p4, q0, q1, q2, q3, q4⟩) (first | (go_at_call 82; refine (eqSlot_same s _).mono ?_; rintro e w2 ⟨rfl, hb2'⟩; replace hb2' : Below wr.heap.size wr w2 := (Below.drew (Below.refl _ _)).trans hb2'; have p0 := (hb2'.cell (p := ⟨b1, off1 + k * 5, none⟩) (Nat.lt_of_lt_of_le hb1 hsr.out)).trans p0; have p1 := (hb2'.cell (p := ⟨b1, off1 + k * 5 + 1, none⟩) (Nat.lt_of_lt_of_le hb1 hsr.out)).trans p1; have p2 := (hb2'.cell (p := ⟨b1, off1 + k * 5 + 2, none⟩) (Nat.lt_of_lt_of_le hb1 hsr.out)).trans p2; have p3 := (hb2'.cell (p := ⟨b1, off1 + k * 5 + 3, none⟩) (Nat.lt_of_lt_of_le hb1 hsr.out)).trans p3; have p4 := (hb2'.cell (p := ⟨b1, off1 + k * 5 + 4, none⟩) (Nat.lt_of_lt_of_le hb1 hsr.out)).trans p4; have q0 := (hb2'.cell (p := ⟨b2, off2 + k * 5, none⟩) (Nat.lt_of_lt_of_le hb2 hsr.out)).trans q0; have q1 := (hb2'.cell (p := ⟨b2, off2 + k * 5 + 1, none⟩) (Nat.lt_of_lt_of_le hb2 hsr.out)).trans q1; have q2 := (hb2'.cell (p := ⟨b2, off2 + k * 5 + 2, none⟩) (Nat.lt_of_lt_of_le hb2 hsr.out)).trans q2; have q3 := (hb2'.cell (p := ⟨b2, off2 + k * 5 + 3, none⟩) (Nat.lt_of_lt_of_le hb2 hsr.out)).trans q3; have q4 := (hb2'.cell (p := ⟨b2, off2 + k * 5 + 4, none⟩) (Nat.lt_of_lt_of_le hb2 hsr.out)).trans q4))
      go_wp2
      go_roundw
      case rel => exact ⟨k + 1, by omega, by go_num, HB.out.trans (hb2'.mono HB.out.size)⟩
      case measure => simp [intOf]; omega
    · have e : k = l.length := by omega
      subst e
      go_wp2
      go_ret
      exact ⟨rfl, hBr⟩

end Go.Proofs.Ytfmnhdemhbbjlaa

/- The laws' marks in a row of slots. -/
namespace Go.Proofs.Ytfmnhdemhbbjlaa
open Go.ChangeShapes Go.WideShapes Go.ChangeAt Go.RowKit Go.Joins
set_option linter.unusedVariables false
set_option linter.unusedSimpArgs false

def mkSl (k : Int) : Sl := ⟨k % 3 == 0, k + 1, k + 1 + 1, k + 1 + 1 + 1, k + 1 + 1 + 1 + 1⟩

set_option maxHeartbeats 4000000 in
theorem markSlotS_any (base : Nat) (v : Value) (l : List Sl) (k : Int) (w : World) (hv : ownL layS 130 w base v l) (h0 : 0 ≤ k) (h1 : k ≤ 1073741824) (hlen : l.length ≤ 1048576) :
    Calls Try.prog 56 #[v, .int .i64 k] w fun e w' => e = .returned (.int .i64 (k + 5 * l.length)) ∧ ownL layS 130 w' base v (mkL mkSl 5 k l.length) ∧ w.grownBy w' v.ownBlock := by
  rcases hv.2 with ⟨rfl, h2⟩ | ⟨g, cap, cur, rfl, hg, _⟩
  · have e : l = [] := List.eq_nil_of_length_eq_zero h2
    subst e
    go_enter Try.func56, Try.ntmps56
    go_wp2
    refine wp_loop_rounds 1 ?_
    rw [rounds_succ]
    go_wp2
    go_ret
    exact ⟨by simp, by simpa [mkL] using hv, World.grownBy.refl _ _⟩
  · have hv0 : w.ownsRow base 130 5 (.slice (some ⟨g, 0, none⟩) l.length cap) l.length ((mkTo mkSl 5 l k 0).flatMap layS.cs) := by rw [mkTo_zero]; exact hv
    go_enter Try.func56, Try.ntmps56
    go_wp2
    go_loopw [1, 5] (fun q j wr => ∃ i : Nat, i ≤ l.length ∧ j = .int .i64 i ∧ q = .int .i64 (k + 5 * (i : Int)) ∧ wr.ownsRow base 130 5 (.slice (some ⟨g, 0, none⟩) l.length cap) l.length ((mkTo mkSl 5 l k i).flatMap layS.cs) ∧ w.grownBy wr (some g))
      (fun _ j _ => l.length - (intOf j).toNat)
    case atStart => exact ⟨0, Nat.zero_le _, rfl, by simp, hv0, World.grownBy.refl _ _⟩
    case round =>
      obtain ⟨i, hi, rfl, rfl, hown, hgr⟩ := hrel
      by_cases hlt : i < l.length
      · have hxl : ((mkTo mkSl 5 l k i).flatMap layS.cs).length = l.length * 5 := by rw [flat_length, mkTo_length _ _ _ _ _ hi]; rfl
        have E := flat_set5 layS rfl (a := mkSl (k + 5 * (i : Int))) rfl (mkTo mkSl 5 l k i) i
        have E2 := mkTo_set mkSl 5 l k i hlt
        have HE0 := E.trans (congrArg (fun z => List.flatMap layS.cs z) E2)
        simp only [mkSl] at HE0
        clear E E2
        have hbm : (k + 5 * (i : Int)).tmod 3 = (k + 5 * (i : Int)) % 3 := Int.tmod_eq_emod_of_nonneg (by omega)
        generalize hxs : (mkTo mkSl 5 l k i).flatMap layS.cs = xs at *
        generalize hBB : ((k + 5 * (i : Int)) % 3 == 0) = B at *
        have s1 := grown_set1 (j := i * 5) (u := .bool B) hown hgr
        have s2 := grown_set1 (j := i * 5 + 1) (u := .int .i64 (k + 5 * (i : Int) + 1)) s1.1 s1.2
        have s3 := grown_set1 (j := i * 5 + 2) (u := .int .i64 (k + 5 * (i : Int) + 1 + 1)) s2.1 s2.2
        have s4 := grown_set1 (j := i * 5 + 3) (u := .int .i64 (k + 5 * (i : Int) + 1 + 1 + 1)) s3.1 s3.2
        have s5 := grown_set1 (j := i * 5 + 4) (u := .int .i64 (k + 5 * (i : Int) + 1 + 1 + 1 + 1)) s4.1 s4.2
        have f0 := hown.frozenAt (i * 5)
        obtain ⟨q0, hq0⟩ : ∃ z, wr.cell? ⟨g, i * 5, none⟩ = some z := ⟨_, (hown.cellAt (i * 5) (by omega)).trans (List.getElem?_eq_getElem (by (try simp) <;> omega))⟩
        have f1 := s1.1.frozenAt (i * 5 + 1)
        obtain ⟨q1, hq1⟩ : ∃ z, (wr.setCell ⟨g, i * 5, none⟩ (.bool B)).cell? ⟨g, i * 5 + 1, none⟩ = some z := ⟨_, (s1.1.cellAt (i * 5 + 1) (by omega)).trans (List.getElem?_eq_getElem (by (try simp) <;> omega))⟩
        have f2 := s2.1.frozenAt (i * 5 + 2)
        obtain ⟨q2, hq2⟩ : ∃ z, ((wr.setCell ⟨g, i * 5, none⟩ (.bool B)).setCell ⟨g, i * 5 + 1, none⟩ (.int .i64 (k + 5 * (i : Int) + 1))).cell? ⟨g, i * 5 + 2, none⟩ = some z := ⟨_, (s2.1.cellAt (i * 5 + 2) (by omega)).trans (List.getElem?_eq_getElem (by (try simp) <;> omega))⟩
        have f3 := s3.1.frozenAt (i * 5 + 3)
        obtain ⟨q3, hq3⟩ : ∃ z, (((wr.setCell ⟨g, i * 5, none⟩ (.bool B)).setCell ⟨g, i * 5 + 1, none⟩ (.int .i64 (k + 5 * (i : Int) + 1))).setCell ⟨g, i * 5 + 2, none⟩ (.int .i64 (k + 5 * (i : Int) + 1 + 1))).cell? ⟨g, i * 5 + 3, none⟩ = some z := ⟨_, (s3.1.cellAt (i * 5 + 3) (by omega)).trans (List.getElem?_eq_getElem (by (try simp) <;> omega))⟩
        have f4 := s4.1.frozenAt (i * 5 + 4)
        obtain ⟨q4, hq4⟩ : ∃ z, ((((wr.setCell ⟨g, i * 5, none⟩ (.bool B)).setCell ⟨g, i * 5 + 1, none⟩ (.int .i64 (k + 5 * (i : Int) + 1))).setCell ⟨g, i * 5 + 2, none⟩ (.int .i64 (k + 5 * (i : Int) + 1 + 1))).setCell ⟨g, i * 5 + 3, none⟩ (.int .i64 (k + 5 * (i : Int) + 1 + 1 + 1))).cell? ⟨g, i * 5 + 4, none⟩ = some z := ⟨_, (s4.1.cellAt (i * 5 + 4) (by omega)).trans (List.getElem?_eq_getElem (by (try simp) <;> omega))⟩
        have S := hide s5
        have HE := hide HE0
        have z1 : (i : Int) < (l.length : Int) := by omega
        clear s1 s2 s3 s4 s5 hown hgr hv hv0 HE0 hxl
        go_wp2
        go_roundw
        case rel =>
          refine ⟨i + 1, by omega, by go_num, by go_num, ?_, S.out.2⟩
          have h := S.out.1
          rw [← HE.out]
          exact h
        case measure => simp [intOf]; omega
      · have e : i = l.length := by omega
        subst e
        rw [mkTo_all] at hown
        have HO := hide hown
        clear hown
        go_wp2
        go_ret
        exact ⟨rfl, (by have := HO.out; unfold ownL; rw [mkL_length]; exact this), hgr⟩

set_option maxHeartbeats 4000000 in
theorem heldSlotS_any (o : Option Addr) (cap n C : Nat) (k : Int) (w : World) (hR : RdL layS C w o (mkL mkSl 5 k n)) (h0 : 0 ≤ k) (h1 : k ≤ 1073741824) (hlen : n ≤ 1048576) :
    Calls Try.prog 60 #[.slice o n cap, .int .i64 k] w fun e w' => e = .returned (.int .i64 (k + 5 * n)) ∧ w = w' := by
  go_enter Try.func60, Try.ntmps60
  go_wp2
  go_loop [1, 5] (fun q j => ∃ i : Nat, i ≤ n ∧ j = .int .i64 i ∧ q = .int .i64 (k + 5 * (i : Int)))
    (fun _ j => n - (intOf j).toNat)
  case atStart => exact ⟨0, Nat.zero_le _, rfl, by simp⟩
  case round =>
    obtain ⟨i, hi, rfl, rfl⟩ := hrel
    by_cases hlt : i < n
    · rcases hR with hR | ⟨b, off, rfl, hbl, hcell⟩
      · have := mkL_length mkSl 5 k n; rw [hR] at this; simp at this; omega
      have hc := hcell i (by rw [mkL_length]; exact hlt)
      rw [mkL_get _ _ _ _ _ _ hlt] at hc
      have hbm : (k + 5 * (i : Int)).tmod 3 = (k + 5 * (i : Int)) % 3 := Int.tmod_eq_emod_of_nonneg (by omega)
      have c0 : w.cell? ⟨b, off + i * 5, none⟩ = some (.bool ((k + 5 * (i : Int)) % 3 == 0)) := hc 0 (by decide)
      have c1 : w.cell? ⟨b, off + i * 5 + 1, none⟩ = some (.int .i64 (k + 5 * (i : Int) + 1)) := hc 1 (by decide)
      have c2 : w.cell? ⟨b, off + i * 5 + 2, none⟩ = some (.int .i64 (k + 5 * (i : Int) + 1 + 1)) := hc 2 (by decide)
      have c3 : w.cell? ⟨b, off + i * 5 + 3, none⟩ = some (.int .i64 (k + 5 * (i : Int) + 1 + 1 + 1)) := hc 3 (by decide)
      have c4 : w.cell? ⟨b, off + i * 5 + 4, none⟩ = some (.int .i64 (k + 5 * (i : Int) + 1 + 1 + 1 + 1)) := hc 4 (by decide)
      clear hcell hc
      go_wp2
      go_round
      case rel => exact ⟨i + 1, by omega, by go_num, by go_num⟩
      case measure => simp [intOf]; omega
    · have e : i = n := by omega
      subst e
      go_wp2
      go_ret
      exact ⟨rfl, rfl⟩

end Go.Proofs.Ytfmnhdemhbbjlaa

/- Tables, as a shape: how they read, what owns its memory, and the laws' own helpers over them. -/
namespace Go.Proofs.Ytfmnhdemhbbjlaa
open Go.ChangeShapes Go.WideShapes Go.ChangeAt Go.RowKit Go.Joins
set_option linter.unusedVariables false
set_option linter.unusedSimpArgs false

abbrev tab (v : Value) : Value := .agg #[v]
theorem block_cell1 {W : World} {B : Nat} {c : Array Value} {t : TypeId} (h : W.heap[B]? = some (.cells c t (0, 0))) (j : Nat) (u : Value) (hj : c[j]? = some u) : W.cell? ⟨B, j, none⟩ = some u := by
  simp [World.cell?, h, hj]
def RdT (C : Nat) (w : World) (v : Value) (l : List Sl) : Prop := ∃ vl, v = tab vl ∧ RdV layS C w vl l
def InTb (lo hi : Nat) (w : World) (v : Value) (l : List Sl) : Prop := ∃ vl, v = tab vl ∧ InS lo hi w vl l
theorem RdT.kept {C D : Nat} {w w' : World} {v : Value} {m : List Sl} (h : RdT C w v m) (hb : Below D w w') (hc : C ≤ D) : RdT C w' v m := by
  obtain ⟨vl, e, h1⟩ := h
  exact ⟨vl, e, h1.kept hb hc⟩
theorem RdT.le {C D : Nat} {w : World} {v : Value} {m : List Sl} (h : RdT C w v m) (hc : C ≤ D) : RdT D w v m := by
  obtain ⟨vl, e, h1⟩ := h
  exact ⟨vl, e, h1.le hc⟩
theorem InTb.rd {lo hi : Nat} {w : World} {v : Value} {m : List Sl} (h : InTb lo hi w v m) : RdT hi w v m := by
  obtain ⟨vl, e, h1⟩ := h
  exact ⟨vl, e, InL.rd (L := layS) h1⟩
theorem InTb.step {a b lo hi : Nat} {w w' : World} {v : Value} {m : List Sl} (h : InTb a b w v m) (s : Stp lo hi w w') (hd : hi ≤ a ∨ b ≤ lo) : InTb a b w' v m := by
  obtain ⟨vl, e, h1⟩ := h
  exact ⟨vl, e, InRow.step h1 s hd⟩
theorem InTb.mono {a b a' b' : Nat} {w : World} {v : Value} {m : List Sl} (h : InTb a b w v m) (h1 : a' ≤ a) (h2 : b ≤ b') : InTb a' b' w v m := by
  obtain ⟨vl, e, h3⟩ := h
  exact ⟨vl, e, InRow.mono h3 h1 h2⟩
def capT (v : Value) : Prop := ∃ vl, v = tab vl ∧ capV vl
theorem InTb.cap {lo hi : Nat} {w : World} {v : Value} {m : List Sl} (h : InTb lo hi w v m) : capT v := by
  obtain ⟨vl, e, h1⟩ := h
  exact ⟨vl, e, InRow.cap h1⟩
theorem capT.one {o : Option Addr} {n c : Nat} (h : capT (tab (.slice o n c))) : o = none → c = 0 := by
  obtain ⟨vl, e, h1⟩ := h
  injection e with e
  simp at e
  exact fun h => h1 n c (by rw [← e, h])
theorem InTb.row {lo hi : Nat} {w : World} {v : Value} {l : List Sl} (h : InTb lo hi w (tab v) l) : InS lo hi w v l := by
  obtain ⟨vl, e, h1⟩ := h
  injection e with e
  simp at e
  subst e
  exact h1

theorem array1 {α : Type} {cs : Array α} (h : cs.size = 1) : ∃ c0, cs = #[c0] := by
  obtain ⟨l⟩ := cs
  match l, h with
  | [c0], _ => exact ⟨c0, rfl⟩
set_option maxHeartbeats 1000000 in
theorem eqTable_sh (v1 v2 : Value) (m : List Sl) (w : World) (h1 : RdT w.heap.size w v1 m) (h2 : RdT w.heap.size w v2 m) (hl : m.length ≤ 1048576) :
    Calls Try.prog 22 #[v1, v2] w fun e w' => e = .returned (.bool true) ∧ Below w.heap.size w w' := by
  obtain ⟨vl, rfl, o, c, rfl, r1⟩ := h1
  obtain ⟨vl2, rfl, o2, c2, rfl, r2⟩ := h2
  have hB : Below w.heap.size w w := Below.refl _ _
  go_enter Try.func22, Try.ntmps22
  go_wp2_with (first | (go_at_call 52; refine (eqSlotS_same o o2 c c2 m _ ((r1.kept (D := w.heap.size) (by (repeat (first | with_reducible exact hB | with_reducible exact Below.refl _ _ | with_reducible refine Below.drew ?_ | with_reducible refine below_drewN ?_ _ | with_reducible refine Below.alloc ?_ ?_ _ | with_reducible refine Below.setCell ?_ ?_ _ | (focus (simp; done)) | (focus (simp; omega)) | omega))) (Nat.le_refl _)).le (by (try simp) <;> omega)) ((r2.kept (D := w.heap.size) (by (repeat (first | with_reducible exact hB | with_reducible exact Below.refl _ _ | with_reducible refine Below.drew ?_ | with_reducible refine below_drewN ?_ _ | with_reducible refine Below.alloc ?_ ?_ _ | with_reducible refine Below.setCell ?_ ?_ _ | (focus (simp; done)) | (focus (simp; omega)) | omega))) (Nat.le_refl _)).le (by (try simp) <;> omega)) hl).mono ?_; rintro e w1 ⟨rfl, hb⟩; obtain ⟨hc, hf⟩ := bcell hb; have hz0 : w.heap.size < w1.heap.size := (by have hz := hb.size; (try simp at hz); omega); have hz1 : w.heap.size + 1 < w1.heap.size := (by have hz := hb.size; (try simp at hz); omega); have hB : Below w.heap.size w w1 := (by refine Below.trans ?_ (hb.mono (by have hs := hB.size; (try simp) <;> omega)); (repeat (first | with_reducible exact hB | with_reducible exact Below.refl _ _ | with_reducible refine Below.drew ?_ | with_reducible refine below_drewN ?_ _ | with_reducible refine Below.alloc ?_ ?_ _ | with_reducible refine Below.setCell ?_ ?_ _ | (focus (simp; done)) | (focus (simp; omega)) | omega)))))
  go_ret
  exact ⟨rfl, by (repeat (first | with_reducible exact hB | with_reducible exact Below.refl _ _ | with_reducible refine Below.drew ?_ | with_reducible refine below_drewN ?_ _ | with_reducible refine Below.alloc ?_ ?_ _ | with_reducible refine Below.setCell ?_ ?_ _ | (focus (simp; done)) | (focus (simp; omega)) | omega))⟩

/-- The marks of a table. -/
def mkTb (k : Int) (m : List Sl) : List Sl := mkL mkSl 5 k m.length
set_option maxHeartbeats 1000000 in
theorem markTable_sh (lo hi : Nat) (v : Value) (m : List Sl) (k : Int) (w : World) (hv : InTb lo hi w v m) (h0 : 0 ≤ k) (h1 : k ≤ 100000000) (hl : m.length ≤ 1048576) :
    Calls Try.prog 25 #[v, .int .i64 k] w fun e w' => e = .returned (.int .i64 (k + 5 * m.length)) ∧ InTb lo hi w' v (mkTb k m) ∧ Stp lo hi w w' := by
  obtain ⟨vl, rfl, iv⟩ := hv
  obtain ⟨ol, cl, hle, _⟩ := InL.rd (L := layS) iv
  subst hle
  have s1 : Hid (Stp lo hi w (w.alloc (.cells #[.slice ol m.length cl] 31))) := Stp.of ((Below.refl _ _).alloc (Nat.le_refl _) _)
  have i1 : Hid (InS lo hi (w.alloc (.cells #[.slice ol m.length cl] 31)) (.slice ol m.length cl) m) := ⟨World.ownsRow.alloc iv.1 _, iv.2⟩
  clear iv
  go_enter Try.func25, Try.ntmps25
  go_wp2_with fail
  generalize w.alloc (.cells #[.slice ol m.length cl] 31) = w1 at *
  refine (markSlotS_any lo _ m k w1 i1.out.1 h0 (by omega) hl).mono ?_
  rintro e w2 ⟨rfl, hown, hgr⟩
  have H : Hid (InTb lo hi w2 (tab (.slice ol m.length cl)) (mkTb k m) ∧ Stp lo hi w w2) := ⟨⟨_, rfl, hown, i1.out.2⟩, s1.out.trans (Stp.grown hgr (fun b e => ⟨(i1.out.1.lt b e).1, i1.out.2 b e⟩))⟩
  clear hown hgr s1 i1
  go_wp2
  go_ret
  exact ⟨rfl, H.out.1, H.out.2⟩
set_option maxHeartbeats 1000000 in
theorem heldTable_sh (v : Value) (m : List Sl) (k : Int) (w : World) (hR : RdT w.heap.size w v (mkTb k m)) (h0 : 0 ≤ k) (h1 : k ≤ 100000000) (hl : m.length ≤ 1048576) :
    Calls Try.prog 28 #[v, .int .i64 k] w fun e w' => e = .returned (.int .i64 (k + 5 * m.length)) ∧ Below w.heap.size w w' := by
  obtain ⟨vl, rfl, o, c, rfl, r⟩ := hR
  have e1 : (mkTb k m).length = m.length := mkL_length _ _ _ _
  rw [e1]
  have hb0 : Hid (Below w.heap.size w (w.alloc (.cells #[.slice o m.length c] 31))) := (Below.refl _ _).alloc (Nat.le_refl _) _
  have hR0 : RdL layS w.heap.size w o (mkL mkSl 5 k m.length) := r
  clear r e1
  have hn : (0 : Int) ≤ k + 5 * m.length := by omega
  show Calls Try.prog 28 #[tab (.slice o m.length c), .int .i64 k] w _
  go_enter Try.func28, Try.ntmps28
  go_wp2_with fail
  generalize w.alloc (.cells #[.slice o m.length c] 31) = w1 at *
  refine (heldSlotS_any o c m.length w.heap.size k w1 (hR0.kept hb0.out (Nat.le_refl _)) h0 (by omega) hl).mono ?_
  rintro e _ ⟨rfl, rfl⟩
  go_wp2
  go_ret
  exact ⟨rfl, hb0.out⟩

end Go.Proofs.Ytfmnhdemhbbjlaa

/- Balancers, as a shape: a journal, a pool and hints; the laws' own helpers over them. -/
namespace Go.Proofs.Ytfmnhdemhbbjlaa
open Go.ChangeShapes Go.WideShapes Go.ChangeAt Go.RowKit Go.Joins
set_option linter.unusedVariables false
set_option linter.unusedSimpArgs false

/-- A balancer, as the model has it. -/
structure Bm where
  j : Jm
  p : Pm
  t : List Sl
abbrev balv (kj : Int) (vl : Value) (sf kp : Int) (vb vr vt : Value) : Value := .agg #[.int .i64 kj, vl, .int .i64 sf, .int .i64 kp, vb, vr, vt]
def RdBm (C : Nat) (w : World) (v : Value) (m : Bm) : Prop := ∃ vl vb vr vt, v = balv m.j.key vl m.j.safe m.p.key vb vr vt ∧ RdJm C w (jrn m.j.key vl m.j.safe) m.j ∧ RdPm C w (plv m.p.key vb vr) m.p ∧ RdT C w (tab vt) m.t
def InBm (lo hi : Nat) (w : World) (v : Value) (m : Bm) : Prop := ∃ vl vb vr vt a b, v = balv m.j.key vl m.j.safe m.p.key vb vr vt ∧ lo ≤ a ∧ a ≤ b ∧ b ≤ hi ∧ InJm lo a w (jrn m.j.key vl m.j.safe) m.j ∧ InPm a b w (plv m.p.key vb vr) m.p ∧ InTb b hi w (tab vt) m.t
theorem RdBm.kept {C D : Nat} {w w' : World} {v : Value} {m : Bm} (h : RdBm C w v m) (hb : Below D w w') (hc : C ≤ D) : RdBm C w' v m := by
  obtain ⟨vl, vb, vr, vt, e, h1, h2, h3⟩ := h
  exact ⟨vl, vb, vr, vt, e, h1.kept hb hc, h2.kept hb hc, h3.kept hb hc⟩
theorem RdBm.le {C D : Nat} {w : World} {v : Value} {m : Bm} (h : RdBm C w v m) (hc : C ≤ D) : RdBm D w v m := by
  obtain ⟨vl, vb, vr, vt, e, h1, h2, h3⟩ := h
  exact ⟨vl, vb, vr, vt, e, h1.le hc, h2.le hc, h3.le hc⟩
theorem InBm.rd {lo hi : Nat} {w : World} {v : Value} {m : Bm} (h : InBm lo hi w v m) : RdBm hi w v m := by
  obtain ⟨vl, vb, vr, vt, a, b, e, k1, k2, k3, h1, h2, h3⟩ := h
  exact ⟨vl, vb, vr, vt, e, h1.rd.le (by omega), h2.rd.le (by omega), h3.rd⟩
theorem InBm.step {x y lo hi : Nat} {w w' : World} {v : Value} {m : Bm} (h : InBm x y w v m) (s : Stp lo hi w w') (hd : hi ≤ x ∨ y ≤ lo) : InBm x y w' v m := by
  obtain ⟨vl, vb, vr, vt, a, b, e, k1, k2, k3, h1, h2, h3⟩ := h
  exact ⟨vl, vb, vr, vt, a, b, e, k1, k2, k3, h1.step s (by omega), h2.step s (by omega), h3.step s (by omega)⟩
theorem RdBm.opn {C : Nat} {w : World} {v : Value} {m : Bm} (h : RdBm C w v m) : ∃ (o : Option Addr) (c : Nat) (ob : Option Addr) (cb : Nat) (oR : Option Addr) (cR : Nat) (ot : Option Addr) (ct : Nat), v = balv m.j.key (.slice o m.j.l.length c) m.j.safe m.p.key (.slice ob m.p.l.length cb) (.slice oR m.p.ring.length cR) (.slice ot m.t.length ct) := by
  obtain ⟨vl, vb, vr, vt, e, ⟨vl', e1, o, c, e1', _⟩, h2, ⟨vt', e3, ot, ct, e3', _⟩⟩ := h
  obtain ⟨ob, cb, oR, cR, e2⟩ := h2.opn
  simp only [Value.agg.injEq, Array.mk.injEq, List.cons.injEq, and_true, true_and] at e1 e2 e3
  obtain ⟨e21, e22⟩ := e2
  subst e1 e1' e3 e3' e21 e22
  exact ⟨o, c, ob, cb, oR, cR, ot, ct, e⟩
def fitBm (m : Bm) : Prop := m.j.l.length ≤ 100000 ∧ fitPm m.p ∧ m.t.length ≤ 1048576
def nBm (m : Bm) : Int := 3 * (m.j.l.length : Int) + nPm m.p + 5 * (m.t.length : Int)
theorem nBm_bd {m : Bm} (h : fitBm m) : 0 ≤ nBm m ∧ nBm m ≤ 9999999 + 5242880 := by
  have h2 := nPm_bd h.2.1
  have h1 := h.1
  have h3 := h.2.2
  unfold nBm; omega
def mkBm (k : Int) (m : Bm) : Bm := ⟨mkJm k m.j, mkPm (k + 3 * (m.j.l.length : Int)) m.p, mkTb (k + 3 * (m.j.l.length : Int) + nPm m.p) m.t⟩

set_option maxRecDepth 100000 in
set_option maxHeartbeats 2000000 in
theorem eqBal_sh (v1 v2 : Value) (m : Bm) (w : World) (h1 : RdBm w.heap.size w v1 m) (h2 : RdBm w.heap.size w v2 m) (hf : fitBm m) :
    Calls Try.prog 7 #[v1, v2] w fun e w' => e = .returned (.bool true) ∧ Below w.heap.size w w' := by
  obtain ⟨o1, c1, ob1, cb1, oR1, cR1, ot1, ct1, rfl⟩ := h1.opn
  obtain ⟨o2, c2, ob2, cb2, oR2, cR2, ot2, ct2, rfl⟩ := h2.opn
  obtain ⟨vl, vb, vr, vt, e, a1, a2, a3⟩ := h1
  simp only [Value.agg.injEq, Array.mk.injEq, List.cons.injEq, and_true, true_and] at e
  obtain ⟨e1, e2, e3, e4⟩ := e
  subst e1 e2 e3 e4
  obtain ⟨vl, vb, vr, vt, e, b1, b2, b3⟩ := h2
  simp only [Value.agg.injEq, Array.mk.injEq, List.cons.injEq, and_true, true_and] at e
  obtain ⟨e1, e2, e3, e4⟩ := e
  subst e1 e2 e3 e4
  have hfj : m.j.l.length ≤ 1048576 := by have := hf.1; omega
  have HJ := hide (fun W (hb : Below w.heap.size w W) => eqJournal_sh _ _ m.j W ((a1.kept hb (Nat.le_refl _)).le hb.size) ((b1.kept hb (Nat.le_refl _)).le hb.size) hfj)
  have HP := hide (fun W (hb : Below w.heap.size w W) => eqPool_sh _ _ m.p W ((a2.kept hb (Nat.le_refl _)).le hb.size) ((b2.kept hb (Nat.le_refl _)).le hb.size) hf.2.1)
  have HT := hide (fun W (hb : Below w.heap.size w W) => eqTable_sh _ _ m.t W ((a3.kept hb (Nat.le_refl _)).le hb.size) ((b3.kept hb (Nat.le_refl _)).le hb.size) hf.2.2)
  clear a1 a2 a3 b1 b2 b3 hfj
  obtain ⟨W0, hW0⟩ : ∃ W, ((w.alloc (.cells #[.int .i64 m.j.key, .slice o1 m.j.l.length c1, .int .i64 m.j.safe, .int .i64 m.p.key, .slice ob1 m.p.l.length cb1, .slice oR1 m.p.ring.length cR1, .slice ot1 m.t.length ct1] 33)).alloc (.cells #[.int .i64 m.j.key, .slice o2 m.j.l.length c2, .int .i64 m.j.safe, .int .i64 m.p.key, .slice ob2 m.p.l.length cb2, .slice oR2 m.p.ring.length cR2, .slice ot2 m.t.length ct2] 33)) = W := ⟨_, rfl⟩
  have hb_W0 : Below w.heap.size w W0 := by rw [← hW0]; exact (((Below.refl _ _).alloc (Nat.le_refl _) _).alloc (by simp <;> omega) _)
  have HB := hide hb_W0
  clear hb_W0
  have zz : w.heap.size < W0.heap.size := by rw [← hW0]; simp <;> omega
  have z0 : W0.cell? ⟨w.heap.size, 0, none⟩ = some (.int .i64 m.j.key) := by rw [← hW0]; simp [go_sem]
  have z1 : W0.cell? ⟨w.heap.size, 1, none⟩ = some (.slice o1 m.j.l.length c1) := by rw [← hW0]; simp [go_sem]
  have z2 : W0.cell? ⟨w.heap.size, 2, none⟩ = some (.int .i64 m.j.safe) := by rw [← hW0]; simp [go_sem]
  have z3 : W0.cell? ⟨w.heap.size, 3, none⟩ = some (.int .i64 m.p.key) := by rw [← hW0]; simp [go_sem]
  have z4 : W0.cell? ⟨w.heap.size, 4, none⟩ = some (.slice ob1 m.p.l.length cb1) := by rw [← hW0]; simp [go_sem]
  have z5 : W0.cell? ⟨w.heap.size, 5, none⟩ = some (.slice oR1 m.p.ring.length cR1) := by rw [← hW0]; simp [go_sem]
  have z6 : W0.cell? ⟨w.heap.size, 6, none⟩ = some (.slice ot1 m.t.length ct1) := by rw [← hW0]; simp [go_sem]
  have zu : w.heap.size + 1 < W0.heap.size := by rw [← hW0]; simp
  have u0 : W0.cell? ⟨w.heap.size + 1, 0, none⟩ = some (.int .i64 m.j.key) := by rw [← hW0]; simp [go_sem]
  have u1 : W0.cell? ⟨w.heap.size + 1, 1, none⟩ = some (.slice o2 m.j.l.length c2) := by rw [← hW0]; simp [go_sem]
  have u2 : W0.cell? ⟨w.heap.size + 1, 2, none⟩ = some (.int .i64 m.j.safe) := by rw [← hW0]; simp [go_sem]
  have u3 : W0.cell? ⟨w.heap.size + 1, 3, none⟩ = some (.int .i64 m.p.key) := by rw [← hW0]; simp [go_sem]
  have u4 : W0.cell? ⟨w.heap.size + 1, 4, none⟩ = some (.slice ob2 m.p.l.length cb2) := by rw [← hW0]; simp [go_sem]
  have u5 : W0.cell? ⟨w.heap.size + 1, 5, none⟩ = some (.slice oR2 m.p.ring.length cR2) := by rw [← hW0]; simp [go_sem]
  have u6 : W0.cell? ⟨w.heap.size + 1, 6, none⟩ = some (.slice ot2 m.t.length ct2) := by rw [← hW0]; simp [go_sem]
  go_enter Try.func7, Try.ntmps7
  go_wp2_with fail
  refine (HJ.out W0 HB.out).mono ?_
  rintro e v1 ⟨rfl, hb⟩
  replace z0 := bC hb z0 zz
  replace z1 := bC hb z1 zz
  replace z2 := bC hb z2 zz
  replace z3 := bC hb z3 zz
  replace z4 := bC hb z4 zz
  replace z5 := bC hb z5 zz
  replace z6 := bC hb z6 zz
  replace zz := Nat.lt_of_lt_of_le zz hb.size
  replace u0 := bC hb u0 zu
  replace u1 := bC hb u1 zu
  replace u2 := bC hb u2 zu
  replace u3 := bC hb u3 zu
  replace u4 := bC hb u4 zu
  replace u5 := bC hb u5 zu
  replace u6 := bC hb u6 zu
  replace zu := Nat.lt_of_lt_of_le zu hb.size
  replace HB := hide (HB.out.trans (hb.mono HB.out.size))
  clear hb
  go_wp2_with fail
  refine (HP.out v1 HB.out).mono ?_
  rintro e v2 ⟨rfl, hb⟩
  replace z0 := bC hb z0 zz
  replace z1 := bC hb z1 zz
  replace z2 := bC hb z2 zz
  replace z3 := bC hb z3 zz
  replace z4 := bC hb z4 zz
  replace z5 := bC hb z5 zz
  replace z6 := bC hb z6 zz
  replace zz := Nat.lt_of_lt_of_le zz hb.size
  replace u0 := bC hb u0 zu
  replace u1 := bC hb u1 zu
  replace u2 := bC hb u2 zu
  replace u3 := bC hb u3 zu
  replace u4 := bC hb u4 zu
  replace u5 := bC hb u5 zu
  replace u6 := bC hb u6 zu
  replace zu := Nat.lt_of_lt_of_le zu hb.size
  replace HB := hide (HB.out.trans (hb.mono HB.out.size))
  clear hb
  go_wp2_with fail
  refine (HT.out v2 HB.out).mono ?_
  rintro e v3 ⟨rfl, hb⟩
  replace z0 := bC hb z0 zz
  replace z1 := bC hb z1 zz
  replace z2 := bC hb z2 zz
  replace z3 := bC hb z3 zz
  replace z4 := bC hb z4 zz
  replace z5 := bC hb z5 zz
  replace z6 := bC hb z6 zz
  replace zz := Nat.lt_of_lt_of_le zz hb.size
  replace u0 := bC hb u0 zu
  replace u1 := bC hb u1 zu
  replace u2 := bC hb u2 zu
  replace u3 := bC hb u3 zu
  replace u4 := bC hb u4 zu
  replace u5 := bC hb u5 zu
  replace u6 := bC hb u6 zu
  replace zu := Nat.lt_of_lt_of_le zu hb.size
  replace HB := hide (HB.out.trans (hb.mono HB.out.size))
  clear hb
  go_wp2
  go_ret
  exact ⟨rfl, HB.out⟩

set_option maxRecDepth 100000 in
set_option maxHeartbeats 4000000 in
theorem markBal_sh (lo hi : Nat) (v : Value) (m : Bm) (k : Int) (w : World) (hv : InBm lo hi w v m) (h0 : 0 ≤ k) (h1 : k ≤ 100000) (hh : hi ≤ w.heap.size) (hf : fitBm m) :
    Calls Try.prog 8 #[v, .int .i64 k] w fun e w' => e = .returned (.int .i64 (k + nBm m)) ∧ InBm lo hi w' v (mkBm k m) ∧ Stp lo hi w w' := by
  obtain ⟨o, c, ob, cb, oR, cR, ot, ct, rfl⟩ := hv.rd.opn
  obtain ⟨vl, vb, vr, vt, a, b, e, k1, k2, k3, i1, i2, i3⟩ := hv
  simp only [Value.agg.injEq, Array.mk.injEq, List.cons.injEq, and_true, true_and] at e
  obtain ⟨e1, e2, e3, e4⟩ := e
  subst e1 e2 e3 e4
  obtain ⟨f1, f2, f3⟩ := hf
  have hnp := nPm_bd f2
  obtain ⟨W0, hW0⟩ : ∃ W, w.alloc (.cells #[.int .i64 m.j.key, .slice o m.j.l.length c, .int .i64 m.j.safe, .int .i64 m.p.key, .slice ob m.p.l.length cb, .slice oR m.p.ring.length cR, .slice ot m.t.length ct] 33) = W := ⟨_, rfl⟩
  have hb0 : Below w.heap.size w W0 := by rw [← hW0]; exact (Below.refl _ _).alloc (Nat.le_refl _) _
  have HX0 : Hid (W0.heap[w.heap.size]? = some (.cells #[.int .i64 m.j.key, .slice o m.j.l.length c, .int .i64 m.j.safe, .int .i64 m.p.key, .slice ob m.p.l.length cb, .slice oR m.p.ring.length cR, .slice ot m.t.length ct] 33 (0, 0))) := by rw [← hW0]; exact World.alloc_heap_new w _
  have HS0 : Hid (Stp lo hi w W0) := Stp.of hb0
  have I1 := hide (i1.step (Stp.of (lo := 0) (hi := 0) hb0) (.inl (Nat.zero_le _)))
  have I2 := hide (i2.step (Stp.of (lo := 0) (hi := 0) hb0) (.inl (Nat.zero_le _)))
  have I3 := hide (i3.step (Stp.of (lo := 0) (hi := 0) hb0) (.inl (Nat.zero_le _)))
  have z0 : W0.cell? ⟨w.heap.size, 0, none⟩ = some (.int .i64 m.j.key) := bx_cell HX0.out 0 _ rfl
  have z1 : W0.cell? ⟨w.heap.size, 1, none⟩ = some (.slice o m.j.l.length c) := bx_cell HX0.out 1 _ rfl
  have z2 : W0.cell? ⟨w.heap.size, 2, none⟩ = some (.int .i64 m.j.safe) := bx_cell HX0.out 2 _ rfl
  have z3 : W0.cell? ⟨w.heap.size, 3, none⟩ = some (.int .i64 m.p.key) := bx_cell HX0.out 3 _ rfl
  have z4 : W0.cell? ⟨w.heap.size, 4, none⟩ = some (.slice ob m.p.l.length cb) := bx_cell HX0.out 4 _ rfl
  have z5 : W0.cell? ⟨w.heap.size, 5, none⟩ = some (.slice oR m.p.ring.length cR) := bx_cell HX0.out 5 _ rfl
  have z6 : W0.cell? ⟨w.heap.size, 6, none⟩ = some (.slice ot m.t.length ct) := bx_cell HX0.out 6 _ rfl
  clear i1 i2 i3 hb0
  go_enter Try.func8, Try.ntmps8
  go_wp2_with fail
  refine (markJournal_sh lo a _ m.j k W0 I1.out h0 (by omega) (by omega)).mono ?_
  rintro e v1 ⟨rfl, j1, s1⟩
  clear z0 z1 z2 z3 z4 z5 z6
  have HJ := hide j1
  have HS1 := hide s1
  have HX1 := hide (s1.box HX0.out (.inr (show a ≤ w.heap.size by omega)))
  replace I2 := hide (I2.out.step s1 (.inl (Nat.le_refl _)))
  replace I3 := hide (I3.out.step s1 (.inl (by omega)))
  have z0 : v1.cell? ⟨w.heap.size, 0, none⟩ = some (.int .i64 m.j.key) := bx_cell HX1.out 0 _ rfl
  have z1 : v1.cell? ⟨w.heap.size, 1, none⟩ = some (.slice o m.j.l.length c) := bx_cell HX1.out 1 _ rfl
  have z2 : v1.cell? ⟨w.heap.size, 2, none⟩ = some (.int .i64 m.j.safe) := bx_cell HX1.out 2 _ rfl
  have z3 : v1.cell? ⟨w.heap.size, 3, none⟩ = some (.int .i64 m.p.key) := bx_cell HX1.out 3 _ rfl
  have z4 : v1.cell? ⟨w.heap.size, 4, none⟩ = some (.slice ob m.p.l.length cb) := bx_cell HX1.out 4 _ rfl
  have z5 : v1.cell? ⟨w.heap.size, 5, none⟩ = some (.slice oR m.p.ring.length cR) := bx_cell HX1.out 5 _ rfl
  have z6 : v1.cell? ⟨w.heap.size, 6, none⟩ = some (.slice ot m.t.length ct) := bx_cell HX1.out 6 _ rfl
  clear j1 s1
  go_wp2_with fail
  refine (markPool_sh a b _ m.p (k + 3 * (m.j.l.length : Int)) v1 I2.out (by omega) (by omega) f2).mono ?_
  rintro e v2 ⟨rfl, p2, s2⟩
  clear z0 z1 z2 z3 z4 z5 z6
  have HP := hide p2
  have HS2 := hide s2
  have HX2 := hide (s2.box HX1.out (.inr (show b ≤ w.heap.size by omega)))
  replace HJ := hide (HJ.out.step s2 (.inr (Nat.le_refl _)))
  replace I3 := hide (I3.out.step s2 (.inl (Nat.le_refl _)))
  have z0 : v2.cell? ⟨w.heap.size, 0, none⟩ = some (.int .i64 m.j.key) := bx_cell HX2.out 0 _ rfl
  have z1 : v2.cell? ⟨w.heap.size, 1, none⟩ = some (.slice o m.j.l.length c) := bx_cell HX2.out 1 _ rfl
  have z2 : v2.cell? ⟨w.heap.size, 2, none⟩ = some (.int .i64 m.j.safe) := bx_cell HX2.out 2 _ rfl
  have z3 : v2.cell? ⟨w.heap.size, 3, none⟩ = some (.int .i64 m.p.key) := bx_cell HX2.out 3 _ rfl
  have z4 : v2.cell? ⟨w.heap.size, 4, none⟩ = some (.slice ob m.p.l.length cb) := bx_cell HX2.out 4 _ rfl
  have z5 : v2.cell? ⟨w.heap.size, 5, none⟩ = some (.slice oR m.p.ring.length cR) := bx_cell HX2.out 5 _ rfl
  have z6 : v2.cell? ⟨w.heap.size, 6, none⟩ = some (.slice ot m.t.length ct) := bx_cell HX2.out 6 _ rfl
  clear p2 s2
  go_wp2_with fail
  refine (markTable_sh b hi _ m.t (k + 3 * (m.j.l.length : Int) + nPm m.p) v2 I3.out (by omega) (by omega) f3).mono ?_
  rintro e v3 ⟨rfl, t3, s3⟩
  clear z0 z1 z2 z3 z4 z5 z6
  have HFI : Hid (InBm lo hi v3 (balv m.j.key (.slice o m.j.l.length c) m.j.safe m.p.key (.slice ob m.p.l.length cb) (.slice oR m.p.ring.length cR) (.slice ot m.t.length ct)) (mkBm k m) ∧ Stp lo hi w v3) :=
    ⟨⟨_, _, _, _, a, b, rfl, k1, k2, k3, HJ.out.step s3 (.inr k2), HP.out.step s3 (.inr (Nat.le_refl _)), t3⟩, HS0.out.trans (((HS1.out.wide2 (Nat.le_refl _) (by omega)).trans (HS2.out.wide2 k1 k3)).trans (s3.wide2 (by omega) (Nat.le_refl _)))⟩
  have HN := hide (show k + 3 * (m.j.l.length : Int) + nPm m.p + 5 * (m.t.length : Int) = k + nBm m by unfold nBm; omega)
  clear t3 s3
  go_wp2
  go_ret
  exact ⟨by rw [HN.out]; rfl, HFI.out.1, HFI.out.2⟩

set_option maxRecDepth 100000 in
set_option maxHeartbeats 4000000 in
theorem heldBal_sh (v : Value) (m : Bm) (k : Int) (w : World) (hR : RdBm w.heap.size w v (mkBm k m)) (h0 : 0 ≤ k) (h1 : k ≤ 100000) (hf : fitBm m) :
    Calls Try.prog 9 #[v, .int .i64 k] w fun e w' => e = .returned (.int .i64 (k + nBm m)) ∧ Below w.heap.size w w' := by
  obtain ⟨o, c, ob, cb, oR, cR, ot, ct, rfl⟩ := hR.opn
  obtain ⟨vl, vb, vr, vt, e, a1, a2, a3⟩ := hR
  simp only [Value.agg.injEq, Array.mk.injEq, List.cons.injEq, and_true, true_and] at e
  obtain ⟨e1, e2, e3, e4⟩ := e
  subst e1 e2 e3 e4
  obtain ⟨f1, f2, f3⟩ := hf
  have hnp := nPm_bd f2
  have HJ := hide (fun W (hb : Below w.heap.size w W) => heldJournal_sh _ m.j k W ((a1.kept hb (Nat.le_refl _)).le hb.size) h0 (by omega) (by omega))
  have HP := hide (fun W (hb : Below w.heap.size w W) => heldPool_sh _ m.p (k + 3 * (m.j.l.length : Int)) W ((a2.kept hb (Nat.le_refl _)).le hb.size) (by omega) (by omega) f2)
  have HT := hide (fun W (hb : Below w.heap.size w W) => heldTable_sh _ m.t (k + 3 * (m.j.l.length : Int) + nPm m.p) W ((a3.kept hb (Nat.le_refl _)).le hb.size) (by omega) (by omega) f3)
  have HN := hide (show k + 3 * (m.j.l.length : Int) + nPm m.p + 5 * (m.t.length : Int) = k + nBm m by unfold nBm; omega)
  clear a1 a2 a3
  obtain ⟨kj, hkj⟩ : ∃ x, (mkBm k m).j.key = x := ⟨_, rfl⟩
  obtain ⟨nj, hnj⟩ : ∃ x, (mkBm k m).j.l.length = x := ⟨_, rfl⟩
  obtain ⟨sj, hsj⟩ : ∃ x, (mkBm k m).j.safe = x := ⟨_, rfl⟩
  obtain ⟨kp, hkp⟩ : ∃ x, (mkBm k m).p.key = x := ⟨_, rfl⟩
  obtain ⟨np, hnp'⟩ : ∃ x, (mkBm k m).p.l.length = x := ⟨_, rfl⟩
  obtain ⟨nr, hnr⟩ : ∃ x, (mkBm k m).p.ring.length = x := ⟨_, rfl⟩
  obtain ⟨nt, hnt⟩ : ∃ x, (mkBm k m).t.length = x := ⟨_, rfl⟩
  rw [hkj, hnj, hsj, hkp, hnp', hnr, hnt]
  rw [hkj, hnj, hsj] at HJ
  rw [hkp, hnp', hnr] at HP
  rw [hnt] at HT
  clear hkj hnj hsj hkp hnp' hnr hnt
  have hq1 : ¬ (k + 3 * (m.j.l.length : Int) < 0) := by omega
  have hq2 : ¬ (k + 3 * (m.j.l.length : Int) + nPm m.p < 0) := by omega
  have hq3 : ¬ (k + nBm m < 0) := by rw [← HN.out]; omega
  rw [HN.out] at HT
  generalize nBm m = nb at *
  generalize k + 3 * (m.j.l.length : Int) = k3 at *
  generalize k3 + nPm m.p = k4 at *
  generalize k + nb = k5 at *
  obtain ⟨W0, hW0⟩ : ∃ W, (w.alloc (.cells #[.int .i64 kj, .slice o nj c, .int .i64 sj, .int .i64 kp, .slice ob np cb, .slice oR nr cR, .slice ot nt ct] 33)) = W := ⟨_, rfl⟩
  have hb_W0 : Below w.heap.size w W0 := by rw [← hW0]; exact ((Below.refl _ _).alloc (Nat.le_refl _) _)
  have HB := hide hb_W0
  clear hb_W0
  have zz : w.heap.size < W0.heap.size := by rw [← hW0]; simp
  have z0 : W0.cell? ⟨w.heap.size, 0, none⟩ = some (.int .i64 kj) := by rw [← hW0]; simp [go_sem]
  have z1 : W0.cell? ⟨w.heap.size, 1, none⟩ = some (.slice o nj c) := by rw [← hW0]; simp [go_sem]
  have z2 : W0.cell? ⟨w.heap.size, 2, none⟩ = some (.int .i64 sj) := by rw [← hW0]; simp [go_sem]
  have z3 : W0.cell? ⟨w.heap.size, 3, none⟩ = some (.int .i64 kp) := by rw [← hW0]; simp [go_sem]
  have z4 : W0.cell? ⟨w.heap.size, 4, none⟩ = some (.slice ob np cb) := by rw [← hW0]; simp [go_sem]
  have z5 : W0.cell? ⟨w.heap.size, 5, none⟩ = some (.slice oR nr cR) := by rw [← hW0]; simp [go_sem]
  have z6 : W0.cell? ⟨w.heap.size, 6, none⟩ = some (.slice ot nt ct) := by rw [← hW0]; simp [go_sem]
  go_enter Try.func9, Try.ntmps9
  go_wp2_with fail
  refine (HJ.out W0 HB.out).mono ?_
  rintro e v1 ⟨rfl, hb⟩
  replace z0 := bC hb z0 zz
  replace z1 := bC hb z1 zz
  replace z2 := bC hb z2 zz
  replace z3 := bC hb z3 zz
  replace z4 := bC hb z4 zz
  replace z5 := bC hb z5 zz
  replace z6 := bC hb z6 zz
  replace zz := Nat.lt_of_lt_of_le zz hb.size
  replace HB := hide (HB.out.trans (hb.mono HB.out.size))
  clear hb
  go_wp2_with fail
  refine (HP.out v1 HB.out).mono ?_
  rintro e v2 ⟨rfl, hb⟩
  replace z0 := bC hb z0 zz
  replace z1 := bC hb z1 zz
  replace z2 := bC hb z2 zz
  replace z3 := bC hb z3 zz
  replace z4 := bC hb z4 zz
  replace z5 := bC hb z5 zz
  replace z6 := bC hb z6 zz
  replace zz := Nat.lt_of_lt_of_le zz hb.size
  replace HB := hide (HB.out.trans (hb.mono HB.out.size))
  clear hb
  go_wp2_with fail
  refine (HT.out v2 HB.out).mono ?_
  rintro e v3 ⟨rfl, hb⟩
  replace z0 := bC hb z0 zz
  replace z1 := bC hb z1 zz
  replace z2 := bC hb z2 zz
  replace z3 := bC hb z3 zz
  replace z4 := bC hb z4 zz
  replace z5 := bC hb z5 zz
  replace z6 := bC hb z6 zz
  replace zz := Nat.lt_of_lt_of_le zz hb.size
  replace HB := hide (HB.out.trans (hb.mono HB.out.size))
  clear hb
  go_wp2
  go_ret
  exact ⟨rfl, HB.out⟩

end Go.Proofs.Ytfmnhdemhbbjlaa

