/- The model's way with a command to a pool. -/
import Derived.Deep.RegionHeld3
import Derived.Deep.CutRange
import Derived.Test.YtajfkcpifnpkeaaGreatQSend17
import Derived.Test.YtajfkcpifnpkeaaGreatQSend18
import Derived.Test.YtajfkcpifnpkeaaGreatQSend21
namespace Go.Proofs.YtajfkcpifnpkeaaGreat
open Go.ChangeShapes Go.WideShapes Go.ChangeAt Go.RowKit Go.Joins
set_option linter.unusedVariables false
set_option linter.unusedSimpArgs false

theorem own_capO {w : World} {base : Nat} {v : Value} {l : List Bk} (h : ownK w base v l) {o : Option Addr} {n c : Nat} (e : v = .slice o n c) : o = none → c = 0 := fun e' => (InRow.cap (InRow.of h)) n c (by rw [e, e'])
theorem bC {C b j : Nat} {w w' : World} {u : Value} (h : Below C w w') (hc : w.cell? ⟨b, j, none⟩ = some u) (hz : b < C) : w'.cell? ⟨b, j, none⟩ = some u := (h.cell (p := ⟨b, j, none⟩) hz).trans hc
theorem bF {C b j : Nat} {w w' : World} (h : Below C w w') (hc : w.frozen? ⟨b, j, none⟩ = false) (hz : b < C) : w'.frozen? ⟨b, j, none⟩ = false := (h.frozen (p := ⟨b, j, none⟩) hz).trans hc
abbrev plv (k : Int) (vb vr : Value) : Value := .agg #[.int .i64 k, vb, vr]
/-- Heads of tables, and how the tables read. -/
def RdTabs (C : Nat) (w : World) (hs : List Hd) (R : List (List (List Int))) : Prop := hs.length = R.length ∧ ∀ i, i < R.length → (hs.getD i (none, 0, 0)).2.1 = (R.getD i []).length ∧ RdLL C w (hs.getD i (none, 0, 0)).1 (R.getD i [])
def RdRing (C : Nat) (w : World) (o : Option Addr) (R : List (List (List Int))) : Prop := ∃ hs : List Hd, RdL layH C w o hs ∧ RdTabs C w hs R
theorem RdTabs.kept {C D : Nat} {w w' : World} {hs : List Hd} {R : List (List (List Int))} (h : RdTabs C w hs R) (hb : Below D w w') (hc : C ≤ D) : RdTabs C w' hs R := ⟨h.1, fun i hi => ⟨(h.2 i hi).1, (h.2 i hi).2.kept hb hc⟩⟩
theorem RdTabs.le {C D : Nat} {w : World} {hs : List Hd} {R : List (List (List Int))} (h : RdTabs C w hs R) (hc : C ≤ D) : RdTabs D w hs R := ⟨h.1, fun i hi => ⟨(h.2 i hi).1, (h.2 i hi).2.le hc⟩⟩
theorem RdRing.kept {C D : Nat} {w w' : World} {o : Option Addr} {R : List (List (List Int))} (h : RdRing C w o R) (hb : Below D w w') (hc : C ≤ D) : RdRing C w' o R := by
 obtain ⟨hs, h1, h2⟩ := h
 exact ⟨hs, h1.kept hb hc, h2.kept hb hc⟩
theorem RdRing.le {C D : Nat} {w : World} {o : Option Addr} {R : List (List (List Int))} (h : RdRing C w o R) (hc : C ≤ D) : RdRing D w o R := by
 obtain ⟨hs, h1, h2⟩ := h
 exact ⟨hs, h1.le hc, h2.le hc⟩
theorem RdTabs.cons {C : Nat} {w : World} {o : Option Addr} {n c : Nat} {hs : List Hd} {T : List (List Int)} {R : List (List (List Int))} (hn : n = T.length) (h0 : RdLL C w o T) (h : RdTabs C w hs R) : RdTabs C w ((o, n, c) :: hs) (T :: R) :=
 ⟨by simp [h.1], fun i hi => by
  cases i with
  | zero => exact ⟨hn, h0⟩
  | succ i => simpa using h.2 i (by simpa using hi)⟩
theorem RdTabs.take {C : Nat} {w : World} {hs : List Hd} {R : List (List (List Int))} (n : Nat) (h : RdTabs C w hs R) : RdTabs C w (hs.take n) (R.take n) :=
 ⟨by simp [h.1], fun i hi => by
  have h1 : i < n := by simp at hi; omega
  have h2 : i < R.length := by simp at hi; omega
  have e1 : (hs.take n).getD i (none, 0, 0) = hs.getD i (none, 0, 0) := by simp [List.getD_eq_getElem?_getD, List.getElem?_take, h1]
  have e2 : (R.take n).getD i [] = R.getD i [] := by simp [List.getD_eq_getElem?_getD, List.getElem?_take, h1]
  rw [e1, e2]; exact h.2 i h2⟩
theorem rdH_take {C : Nat} {w : World} {b off : Nat} {hs : List Hd} (n : Nat) (h : RdL layH C w (some ⟨b, off, none⟩) hs) : RdL layH C w (some ⟨b, off, none⟩) (hs.take n) := by
 rcases h with h | ⟨b', off', ho, hlt, r⟩
 ·left; rw [h]; simp
 ·refine .inr ⟨b', off', ho, hlt, fun i hi j hj => ?_⟩
  have h1 : i < n := by simp at hi; omega
  have h2 : i < hs.length := by simp at hi; omega
  rw [r i h2 j hj]
  simp [List.getD_eq_getElem?_getD, List.getElem?_take, h1]
theorem rd_oneK {w : World} {x y : Int} {z : Bool} {T : TypeId} : RdK (w.alloc (.cells #[.int .i64 x, .int .i64 y, .bool z] T)).heap.size (w.alloc (.cells #[.int .i64 x, .int .i64 y, .bool z] T)) (some ⟨w.heap.size, 0, none⟩) [(x, y, z)] :=
 .inr ⟨w.heap.size, 0, rfl, by simp, fun i hi j hj => by
  have e1 : i = 0 := by simpa using hi
  subst e1
  match j, hj with
  | 0, _ => simp [layK]
  | 1, _ => simp [layK]
  | 2, _ => simp [layK]⟩
theorem infoIntSS : (Tryz.prog.info? 152).map (fun i => (i.zero, i.size, i.bytes)) = some (some (.slice none 0 0), 1, 24) := by kernel_rfl
theorem appHT : AppOk layH 26 152 := ⟨Tryz.underlying26, ⟨_, _, infoIntSS, rfl, by decide⟩, by decide, fun a u hu => by
 simp [layH] at hu; subst hu; rfl⟩
/-- A box and a row of the call's own are not in one block, where their types differ. -/
theorem own_box {w : World} {base s n : Nat} {e T : TypeId} {v : Value} {xs : List Value} {B : Nat} {c : Array Value} (h : w.ownsRow base e s v n xs) (hB : w.heap[B]? = some (.cells c T (0, 0))) (he : e ≠ T) : v.ownBlock = none ∨ v.ownBlock ≠ some B := by
 rcases h.2 with ⟨h1, h2⟩ | ⟨g, cap, cur, h1, hb, hc, _⟩
 ·left; rw [h1]; rfl
 ·right
  rw [h1]
  intro e'
  simp [Value.ownBlock] at e'
  subst e'
  rw [hc] at hB
  simp at hB
  exact he hB.2
theorem grown_set (w : World) (B j : Nat) (u : Value) : w.grownBy (w.setCell ⟨B, j, none⟩ u) (some B) :=
 ⟨rfl, rfl, rfl, by simp [World.setCell], fun k hk hne => Below.heap_setCell w ⟨B, j, none⟩ u k (fun e => hne (by rw [e]))⟩
theorem box_put {W : World} {B : Nat} {c : Array Value} {T : TypeId} (h : W.heap[B]? = some (.cells c T (0, 0))) (j : Nat) (u : Value) : (W.setCell ⟨B, j, none⟩ u).heap[B]? = some (.cells (c.setIfInBounds j u) T (0, 0)) := by
 simp [World.setCell, Array.getElem?_modify, h]
theorem bx_cell {W : World} {B : Nat} {c : Array Value} {t : TypeId} (h : W.heap[B]? = some (.cells c t (0, 0))) (j : Nat) (u : Value) (hj : c[j]? = some u) : W.cell? ⟨B, j, none⟩ = some u := by
 simp [World.cell?, h, hj]
theorem bx_frozen {W : World} {B : Nat} {c : Array Value} {t : TypeId} (h : W.heap[B]? = some (.cells c t (0, 0))) (j : Nat) : W.frozen? ⟨B, j, none⟩ = false := by
 simp [World.frozen?, h]
/-- In a round: the list so far, a row of the call's own; the box of the one at hand. -/
structure St (W0 W : World) (lv : Value) (s : List Bk) (B : Nat) (x y : Int) (u : Bool) : Prop where
 own : ownK W W0.heap.size lv s
 bel : Below W0.heap.size W0 W
 box : W.heap[B]? = some (.cells #[.int .i64 x, .int .i64 y, .bool u] 150 (0, 0))
 ge : W0.heap.size ≤ B
 ne : ∀ b, lv.ownBlock = some b → b ≠ B
theorem St.start {W0 wr : World} {lv : Value} {s : List Bk} {x y : Int} {u : Bool} (ho : ownK wr W0.heap.size lv s) (hb : Below W0.heap.size W0 wr) : St W0 (wr.alloc (.cells #[.int .i64 x, .int .i64 y, .bool u] 150)) lv s wr.heap.size x y u :=
 ⟨World.ownsRow.alloc ho _, hb.alloc hb.size _, World.alloc_heap_new wr _, hb.size, fun b e => by have := (ho.lt b e).2; omega⟩
theorem St.app {W0 W w5 : World} {lv v5 : Value} {s : List Bk} {B : Nat} {x y : Int} {u : Bool} {a : Bk} {A : Obj} (h : St W0 W lv s B x y u) (ho : ownK w5 W0.heap.size v5 (s ++ [a])) (hg : (W.alloc A).grownBy w5 lv.ownBlock) (hn : v5.ownBlock = lv.ownBlock ∨ v5.ownBlock = some (W.heap.size + 1)) : St W0 w5 v5 (s ++ [a]) B x y u := by
 have hB : B < W.heap.size := (Array.getElem?_eq_some_iff.1 h.box).1
 have hs := h.bel.size
 refine ⟨ho, (h.bel.alloc hs A).grown hg (by simp; omega) (fun k e => (h.own.lt k e).1), ?_, h.ge, ?_⟩
 ·rw [hg.block B (by simp; omega) (fun e => h.ne B e.symm rfl), Below.heap_alloc _ _ _ hB]
  exact h.box
 ·intro b e
  rcases hn with hn | hn
  ·exact h.ne b (by rw [← hn, e])
  ·rw [hn] at e
   simp at e
   omega
theorem St.put1 {W0 W : World} {lv : Value} {s : List Bk} {B : Nat} {x y : Int} {u : Bool} (h : St W0 W lv s B x y u) (g : Int) : St W0 (W.setCell ⟨B, 1, none⟩ (.int .i64 g)) lv s B x g u :=
 ⟨World.ownsRow.kept h.own (grown_set W B 1 _) (by cases hob : lv.ownBlock with
  | none => exact .inl rfl
  | some b => exact .inr (fun e => h.ne b hob (by injection e))), h.bel.setCell (p := ⟨B, 1, none⟩) h.ge _, by rw [box_put h.box]; rfl, h.ge, h.ne⟩
theorem St.put2 {W0 W : World} {lv : Value} {s : List Bk} {B : Nat} {x y : Int} {u : Bool} (h : St W0 W lv s B x y u) (d : Bool) : St W0 (W.setCell ⟨B, 2, none⟩ (.bool d)) lv s B x y d :=
 ⟨World.ownsRow.kept h.own (grown_set W B 2 _) (by cases hob : lv.ownBlock with
  | none => exact .inl rfl
  | some b => exact .inr (fun e => h.ne b hob (by injection e))), h.bel.setCell (p := ⟨B, 2, none⟩) h.ge _, by rw [box_put h.box]; rfl, h.ge, h.ne⟩
/-- The ring's row and the newest table's, of the call's own. -/
def RingO (w : World) (base : Nat) (v : Value) (T : Nat → List Int) (hsR : List Hd) : Prop := ∃ o3 c3 hs3, ownL layH 152 w base v ((o3, 8, c3) :: hsR) ∧ ownL layH 175 w base (.slice o3 8 c3) hs3 ∧ Tab T 8 w base hs3
theorem neP1 : (152 : TypeId) ≠ 41 := by decide
theorem neP2 : (175 : TypeId) ≠ 41 := by decide
theorem neP3 : (3 : TypeId) ≠ 41 := by decide
theorem neP4 : (150 : TypeId) ≠ 41 := by decide
theorem neT1 : (175 : TypeId) ≠ 152 := by decide
theorem neT2 : (3 : TypeId) ≠ 152 := by decide
theorem own_putB {w : World} {base s n : Nat} {e : TypeId} {v : Value} {xs : List Value} {B : Nat} {c : Array Value} (h : w.ownsRow base e s v n xs) (hB : w.heap[B]? = some (.cells c 41 (0, 0))) (he : e ≠ 41) (j : Nat) (u : Value) : (w.setCell ⟨B, j, none⟩ u).ownsRow base e s v n xs :=
 World.ownsRow.kept h (grown_set w B j u) (own_box h hB he)
theorem own_low {w : World} {base s n : Nat} {e : TypeId} {v : Value} {xs : List Value} {B : Nat} (h : w.ownsRow base e s v n xs) (hB : B < base) (j : Nat) (u : Value) : (w.setCell ⟨B, j, none⟩ u).ownsRow base e s v n xs :=
 World.ownsRow.kept h (grown_set w B j u) (by
  cases hob : v.ownBlock with
  | none => exact .inl rfl
  | some b => exact .inr (fun e => by have := (h.lt b hob).1; injection e with e; omega))
theorem RingO.put {w : World} {base : Nat} {v : Value} {T : Nat → List Int} {hsR : List Hd} {B : Nat} {c : Array Value} (h : RingO w base v T hsR) (hB : w.heap[B]? = some (.cells c 41 (0, 0))) (j : Nat) (u : Value) : RingO (w.setCell ⟨B, j, none⟩ u) base v T hsR := by
 obtain ⟨o3, c3, hs3, h1, h2, h3⟩ := h
 exact ⟨o3, c3, hs3, own_putB h1 hB neP1 j u, own_putB h2 hB neP2 j u, h3.grown (grown_set w B j u) (fun i hi => own_box (h3.row i hi) hB neP3)⟩
theorem RingO.low {w : World} {base : Nat} {v : Value} {T : Nat → List Int} {hsR : List Hd} {B : Nat} (h : RingO w base v T hsR) (hB : B < base) (j : Nat) (u : Value) : RingO (w.setCell ⟨B, j, none⟩ u) base v T hsR := by
 obtain ⟨o3, c3, hs3, h1, h2, h3⟩ := h
 refine ⟨o3, c3, hs3, own_low h1 hB j u, own_low h2 hB j u, h3.grown (grown_set w B j u) (fun i hi => ?_)⟩
 cases hob : (hv hs3 i).ownBlock with
 | none => exact .inl rfl
 | some b => exact .inr (fun e => by have := ((h3.row i hi).lt b hob).1; injection e with e; omega)
theorem RingO.alloc {w : World} {base : Nat} {v : Value} {T : Nat → List Int} {hsR : List Hd} (h : RingO w base v T hsR) (o : Obj) : RingO (w.alloc o) base v T hsR := by
 obtain ⟨o3, c3, hs3, h1, h2, h3⟩ := h
 exact ⟨o3, c3, hs3, World.ownsRow.alloc h1 o, World.ownsRow.alloc h2 o, h3.kept ((Below.refl _ _).alloc (Nat.le_refl _) _)⟩
theorem RingO.rd {w : World} {base n c : Nat} {g : Nat} {T : Nat → List Int} {hsR : List Hd} {R : List (List (List Int))} {C : Nat} (h : RingO w base (.slice (some ⟨g, 0, none⟩) n c) T hsR) (ht : RdTabs C w hsR R) (hC : C ≤ w.heap.size) (q : Nat) : RdRing w.heap.size w (some ⟨g, 0, none⟩) ((rowsOf T 8 :: R).take q) := by
 obtain ⟨o3, c3, hs3, h1, h2, h3⟩ := h
 exact ⟨_, rdH_take q (ownL.rds h1), (RdTabs.cons (c := c3) (by rw [rowsOf_length]) (h3.rd h2) (ht.le hC)).take q⟩
theorem RingO.isSome {w : World} {base : Nat} {v : Value} {T : Nat → List Int} {hsR : List Hd} (h : RingO w base v T hsR) : ∃ g c, v = .slice (some ⟨g, 0, none⟩) (hsR.length + 1) c := by
 obtain ⟨o3, c3, hs3, h1, h2, h3⟩ := h
 obtain ⟨g, c, e⟩ := own_someH h1 (by simp)
 exact ⟨g, c, by rw [e]; simp⟩
theorem one_own (w : World) (o : Option Addr) (n c : Nat) (T : TypeId) : ownL layH T (w.alloc (.cells #[.slice o n c] T)) w.heap.size (.slice (some ⟨w.heap.size, 0, none⟩) 1 1) [(o, n, c)] :=
 ⟨by simp [layH], .inr ⟨w.heap.size, 1, #[.slice o n c], rfl, Nat.le_refl _, heap_alloc_new w _, by simp, by unfold maxLen; omega, by simp [layH], by simp [layH]⟩⟩
/-- Behind the append: the ring's row, and the table's as it was. -/
theorem ring_app {V x1 : World} {base : Nat} {s v4 : Value} {o3 : Option Addr} {c3 : Nat} {hs3 hsR : List Hd} {T : Nat → List Int} (hs : ownL layH 152 V base s [(o3, 8, c3)]) (h2 : ownL layH 175 V base (.slice o3 8 c3) hs3) (h3 : Tab T 8 V base hs3) (ho : ownL layH 152 x1 base v4 ([(o3, 8, c3)] ++ hsR)) (hg : V.grownBy x1 s.ownBlock) : RingO x1 base v4 T hsR :=
 ⟨o3, c3, hs3, ho, World.ownsRow.kept h2 hg (own_apart h2 hs neT1), h3.other hs neT2 hg⟩
theorem Tab.mono {R : Nat → List Int} {k : Nat} {w : World} {base b2 : Nat} {hs : List Hd} (h : Tab R k w base hs) (hb : b2 ≤ base) : Tab R k w b2 hs := ⟨h.len, fun i hi => own_mono (h.row i hi) hb, h.apart⟩
abbrev setP (W : World) (B : Nat) (a b c : Value) : World := ((W.setCell ⟨B, 0, none⟩ a).setCell ⟨B, 1, none⟩ b).setCell ⟨B, 2, none⟩ c
theorem finP {cur W : World} {B : Nat} {key : Int} {v2 v4 : Value} {T : Nat → List Int} {hsR : List Hd} {z0 z1 z2 : Value} (hZ : W.heap[B]? = some (.cells #[z0, z1, z2] 41 (0, 0))) (hx : Below cur.heap.size cur W) (hB : cur.heap.size ≤ B) (hr : RingO W cur.heap.size v4 T hsR) :
  ∃ B' v', Value.pointer (some ⟨B, 0, none⟩) = .pointer (some ⟨B', 0, none⟩) ∧ Hid ((setP W B (.int .i64 key) v2 v4).heap[B']? = some (.cells #[.int .i64 key, v2, v'] 41 (0, 0))) ∧ Hid (Below cur.heap.size cur (setP W B (.int .i64 key) v2 v4)) ∧ cur.heap.size ≤ B' ∧ B' < (setP W B (.int .i64 key) v2 v4).heap.size ∧ Hid (RingO (setP W B (.int .i64 key) v2 v4) cur.heap.size v' T hsR) := by
 have h1 := box_put hZ 0 (.int .i64 key)
 have h2 := box_put h1 1 v2
 have h3 := box_put h2 2 v4
 refine ⟨B, v4, rfl, h3, ((hx.setCell (p := ⟨B, 0, none⟩) hB _).setCell (p := ⟨B, 1, none⟩) hB _).setCell (p := ⟨B, 2, none⟩) hB _, hB, (Array.getElem?_eq_some_iff.1 h3).1, ((hr.put hZ 0 _).put h1 1 _).put h2 2 _⟩
theorem finPn {cur W : World} {key : Int} {v2 v4 : Value} {T : Nat → List Int} {hsR : List Hd} (hx : Below cur.heap.size cur W) (hr : RingO W cur.heap.size v4 T hsR) :
  ∃ B' v', Value.pointer (some ⟨W.heap.size, 0, none⟩) = .pointer (some ⟨B', 0, none⟩) ∧ Hid ((W.alloc (.cells #[.int .i64 key, v2, v4] 41)).heap[B']? = some (.cells #[.int .i64 key, v2, v'] 41 (0, 0))) ∧ Hid (Below cur.heap.size cur (W.alloc (.cells #[.int .i64 key, v2, v4] 41))) ∧ cur.heap.size ≤ B' ∧ B' < (W.alloc (.cells #[.int .i64 key, v2, v4] 41)).heap.size ∧ Hid (RingO (W.alloc (.cells #[.int .i64 key, v2, v4] 41)) cur.heap.size v' T hsR) :=
 ⟨W.heap.size, v4, rfl, World.alloc_heap_new W _, hx.alloc hx.size _, hx.size, by simp, hr.alloc _⟩
theorem box_newA {w new : World} {c : Array Value} {T : TypeId} (hb : Below ((w.alloc (.cells c T)).drew).heap.size (w.alloc (.cells c T)).drew new) : new.heap[w.heap.size]? = some (.cells c T (0, 0)) := by
 have h1 := hb.block w.heap.size (by simp)
 have h2 : (w.alloc (.cells c T)).drew.heap[w.heap.size]? = (w.alloc (.cells c T)).heap[w.heap.size]? := rfl
 exact h1.trans (h2.trans (World.alloc_heap_new w (.cells c T)))
theorem box_far {V x1 : World} {B n : Nat} {c : Array Value} {T : TypeId} (hg : V.grownBy x1 (Value.slice (some ⟨n, 0, none⟩) 1 1).ownBlock) (hB : V.heap[B]? = some (.cells c T (0, 0))) (hne : B ≠ n) : x1.heap[B]? = some (.cells c T (0, 0)) :=
 (hg.block B (Array.getElem?_eq_some_iff.1 hB).1 (by simp [Value.ownBlock]; exact hne)).trans hB
theorem setP_cell {W : World} {B b j : Nat} {u x y z : Value} (h : W.cell? ⟨b, j, none⟩ = some u) (hb : b < B) : (setP W B x y z).cell? ⟨b, j, none⟩ = some u :=
 (((((Below.refl B W).setCell (p := ⟨B, 0, none⟩) (Nat.le_refl _) x).setCell (p := ⟨B, 1, none⟩) (Nat.le_refl _) y).setCell (p := ⟨B, 2, none⟩) (Nat.le_refl _) z).cell (p := ⟨b, j, none⟩) hb).trans h
theorem one_own1 (w : World) (ob : Obj) (o : Option Addr) (n c : Nat) (T : TypeId) : ownL layH T ((w.alloc ob).alloc (.cells #[.slice o n c] T)) (w.heap.size + 1) (.slice (some ⟨w.heap.size + 1, 0, none⟩) 1 1) [(o, n, c)] := by
 have h := one_own (w.alloc ob) o n c T
 rw [World.size_alloc] at h
 exact h
theorem box_old2 (w : World) (c : Array Value) (T : TypeId) (ob : Obj) : ((w.alloc (.cells c T)).alloc ob).heap[w.heap.size]? = some (.cells c T (0, 0)) := (Below.heap_alloc _ _ _ (by simp)).trans (World.alloc_heap_new w _)
theorem box_new2 (w : World) (c : Array Value) (T : TypeId) (ob : Obj) : ((w.alloc ob).alloc (.cells c T)).heap[w.heap.size + 1]? = some (.cells c T (0, 0)) := by
 have h := World.alloc_heap_new (w.alloc ob) (.cells c T)
 rw [World.size_alloc] at h
 exact h
theorem RingO.cap {w : World} {base n c : Nat} {g : Nat} {T : Nat → List Int} {hsR : List Hd} (h : RingO w base (.slice (some ⟨g, 0, none⟩) n c) T hsR) : n ≤ c := by
 obtain ⟨o3, c3, hs3, h1, h2, h3⟩ := h
 rcases h1.2 with ⟨e, _⟩ | ⟨g', cap, cur, e, hb, hc, h4, h5, h6, h7⟩
 ·cases e
 ·injection e with e1 e2 e3
  rw [e2, e3]
  exact h4
theorem cell_far {w : World} {B b j q : Nat} {u : Value} (h : b ≠ B) : (w.setCell ⟨B, q, none⟩ u).cell? ⟨b, j, none⟩ = w.cell? ⟨b, j, none⟩ := by
 simp only [World.cell?, Below.heap_setCell w ⟨B, q, none⟩ u b h]
theorem frozen_far {w : World} {B b j q : Nat} {u : Value} (h : b ≠ B) : (w.setCell ⟨B, q, none⟩ u).frozen? ⟨b, j, none⟩ = w.frozen? ⟨b, j, none⟩ := by
 simp only [World.frozen?, Below.heap_setCell w ⟨B, q, none⟩ u b h]
theorem own_head3 {w : World} {base g n c : Nat} {e : TypeId} {hs : List Hd} (h : ownL layH e w base (.slice (some ⟨g, 0, none⟩) n c) hs) (h3 : 3 ≤ hs.length) : ownL layH e w base (.slice (some ⟨g, 0, none⟩) 3 c) (hs.take 3) := by
 have hn : n = hs.length := by
  obtain ⟨o', c', e', _⟩ := ownL.open (L := layH) h
  injection e' with _ e2 _
 subst hn
 exact own_prefix (L := layH) h 3 h3
theorem RingO.mono {w : World} {base b2 : Nat} {v : Value} {T : Nat → List Int} {hsR : List Hd} (h : RingO w base v T hsR) (hb : b2 ≤ base) : RingO w b2 v T hsR := by
 obtain ⟨o3, c3, hs3, h1, h2, h3⟩ := h
 exact ⟨o3, c3, hs3, own_mono h1 hb, own_mono h2 hb, Tab.mono h3 hb⟩
/-- What l4do tells of a command that is done. -/
def DoPost (key : Int) (m : List Bk) (hsR : List Hd) (w : World) (e : Ending) (w' : World) : Prop := ∃ o2 c2 oR2 n2 cR2 o3 c3 hs3, e = .returned (.tuple #[plv key (.slice o2 m.length c2) (.slice oR2 n2 cR2), .bool true]) ∧ n2 = (((o3, 8, c3) :: hsR).take 3).length ∧ ownK w' w.heap.size (.slice o2 m.length c2) m ∧ ownL layH 152 w' w.heap.size (.slice oR2 n2 cR2) (((o3, 8, c3) :: hsR).take 3) ∧ ownL layH 175 w' w.heap.size (.slice o3 8 c3) hs3 ∧ Tab (fun b => pairI key b m) 8 w' w.heap.size hs3 ∧ Below w.heap.size w w'
theorem find_no {l : List Bk} {i : Int} (h : thereB l i = false) : findI l i = -1 := by unfold findI; rw [h]; rfl
theorem find_yes {l : List Bk} {i : Int} (h : thereB l i = true) : findI l i = (placeN l i : Int) := by unfold findI; rw [h]; rfl

set_option maxRecDepth 100000 in
set_option maxHeartbeats 16000000 in
theorem l4do_add (key : Int) (o : Option Addr) (cap : Nat) (l : List Bk) (oR : Option Addr) (cR : Nat) (hsR : List Hd) (i g : Int) (m : List Bk) (w : World) (hk : keyB key = true) (hl : backsOkB l = true) (hc : cmdOkB 0 i g = true) (hm : doL l 0 i g = some m) (hlen : l.length ≤ 100) (hR : RdK w.heap.size w o l) (hG : RdL layH w.heap.size w oR hsR) (hnR : oR = none → cR = 0) (hR3 : hsR.length ≤ 3) :
  Calls Tryz.prog 103 #[plv key (.slice o l.length cap) (.slice oR hsR.length cR), cmd 0 i g] w fun e w' => DoPost key m hsR w e w' := by
 obtain ⟨W0, hW0⟩ : ∃ W, (((w.alloc (.cells #[.int .i64 key, .slice o l.length cap, .slice oR hsR.length cR] 41)).alloc (.cells #[.int .i64 0, .int .i64 i, .int .i64 g] 54)).alloc (.cells #[.int .i64 0, .slice none 0 0, .slice none 0 0] 41)) = W := ⟨_, rfl⟩
 have hb_W0 : Below w.heap.size w W0 := by rw [← hW0]; exact ((((Below.refl _ _).alloc (Nat.le_refl _) _).alloc (by simp <;> omega) _).alloc (by simp <;> omega) _)
 have HB := hide hb_W0
 clear hb_W0
 have zz : w.heap.size < W0.heap.size := by rw [← hW0]; simp <;> omega
 have z0 : W0.cell? ⟨w.heap.size, 0, none⟩ = some (.int .i64 key) := by rw [← hW0]; simp [go_sem]
 have z1 : W0.cell? ⟨w.heap.size, 1, none⟩ = some (.slice o l.length cap) := by rw [← hW0]; simp [go_sem]
 have z2 : W0.cell? ⟨w.heap.size, 2, none⟩ = some (.slice oR hsR.length cR) := by rw [← hW0]; simp [go_sem]
 have zu : w.heap.size + 1 < W0.heap.size := by rw [← hW0]; simp <;> omega
 have u0 : W0.cell? ⟨w.heap.size + 1, 0, none⟩ = some (.int .i64 0) := by rw [← hW0]; simp [go_sem]
 have u1 : W0.cell? ⟨w.heap.size + 1, 1, none⟩ = some (.int .i64 i) := by rw [← hW0]; simp [go_sem]
 have u2 : W0.cell? ⟨w.heap.size + 1, 2, none⟩ = some (.int .i64 g) := by rw [← hW0]; simp [go_sem]
 have zr : w.heap.size + 1 + 1 < W0.heap.size := by rw [← hW0]; simp
 have r0 : W0.cell? ⟨w.heap.size + 1 + 1, 0, none⟩ = some (.int .i64 0) := by rw [← hW0]; simp [go_sem]
 have r1 : W0.cell? ⟨w.heap.size + 1 + 1, 1, none⟩ = some (.slice none 0 0) := by rw [← hW0]; simp [go_sem]
 have r2 : W0.cell? ⟨w.heap.size + 1 + 1, 2, none⟩ = some (.slice none 0 0) := by rw [← hW0]; simp [go_sem]
 have fr0 : W0.frozen? ⟨w.heap.size + 1 + 1, 0, none⟩ = false := by rw [← hW0]; simp [go_sem]
 have fr1 : W0.frozen? ⟨w.heap.size + 1 + 1, 1, none⟩ = false := by rw [← hW0]; simp [go_sem]
 have fr2 : W0.frozen? ⟨w.heap.size + 1 + 1, 2, none⟩ = false := by rw [← hW0]; simp [go_sem]
 have hzr0 := zr
 have HR := hide hR
 have HG := hide hG
 have hW0s := HB.out.size
 have HF := hide (l4find_any o cap l i W0 ((hR.kept HB.out (Nat.le_refl _)).le HB.out.size) (by omega) hl)
 have HEND := hide (run_end hl hc hm)
 have hmok := doL_ok hl hc hm
 have hmlen := doL_len hm
 have hthere : thereB l i = false := by rcases doL_some hm with ⟨h, _⟩ | ⟨_, h, _⟩ | ⟨_, h, _⟩ | ⟨_, h, _⟩ <;> first | exact h | (exact absurd h (by decide)) | (exact absurd rfl h)
 rw [find_no hthere] at HF HEND
 clear hR hG hl hc
 have HPUT := hide (fun t => runM_put (l := l) (k := 0) (i := i) (g := g) (fi := -1) t)
 have Z0 := z0
 have Z1 := z1
 have Z2 := z2
 have ZZ := zz
 have U0 := u0
 have U1 := u1
 have U2 := u2
 have ZU := zu
 have Q0 := r0
 have Q1 := r1
 have Q2 := r2
 have ZQ := zr
 have FQ0 := fr0
 have FQ1 := fr1
 have FQ2 := fr2
 go_enter Tryz.func103, Tryz.ntmps103
 go_wp2_with fail
 refine HF.out.mono ?_
 rintro e w9 ⟨rfl, rfl⟩
 go_wp2
 go_loopw [7, 8, 9] (fun lv pv tv wr => ∃ t : Nat, t ≤ l.length ∧ tv = .int .i64 (t : Int) ∧ pv = .bool (runM l 0 i g (-1) t).2 ∧ Hid (ownK wr W0.heap.size lv (runM l 0 i g (-1) t).1) ∧ Hid (Below W0.heap.size W0 wr))
  (fun _ _ tv _ => l.length - (intOf tv).toNat)
 case atStart => exact ⟨0, Nat.zero_le _, rfl, by simp [runM], World.ownsRow_nil _ _ _ _, Below.refl _ _⟩
 case round =>
  obtain ⟨t, htl, rfl, rfl, HO, HBR⟩ := hrel
  clear HF z0 z1 z2 u0 u1 u2 r0 r1 r2 fr0 fr1 fr2 zz zu zr hW0
  have HBB : Hid (Below w.heap.size w wr) := HB.out.trans (HBR.out.mono hW0s)
  by_cases hlt : t < l.length
  ·skip
   have hlt' : (t : Int) < (l.length : Int) := by omega
   have ht0 : (0 : Int) ≤ (t : Int) := by omega
   rcases HR.out with hR | ⟨b, off, rfl, hbl, hcell⟩
   ·subst hR; simp at hlt
   obtain ⟨c0, c1, c2⟩ := RdL.back (C := w.heap.size) hcell t hlt
   replace c0 := (HBB.out.cell (p := ⟨b, off + t * 3, none⟩) hbl).trans c0
   replace c1 := (HBB.out.cell (p := ⟨b, off + t * 3 + 1, none⟩) hbl).trans c1
   replace c2 := (HBB.out.cell (p := ⟨b, off + t * 3 + 2, none⟩) hbl).trans c2
   have hrl := runM_len l 0 i g (-1) t
   have HRS := hide (show runM l 0 i g (-1) (t + 1) = stepM 0 i g (-1) (runM l 0 i g (-1) t) t (l.getD t (0, 0, false)) from rfl)
   have hput := HPUT.out t
   obtain ⟨x, y, u, hxyu⟩ : ∃ x y u, l.getD t (0, 0, false) = (x, y, u) := ⟨_, _, _, rfl⟩
   rw [hxyu] at c0 c1 c2 HRS
   dsimp only at c0 c1 c2
   clear hxyu hcell
   obtain ⟨s1, s2, hs12⟩ : ∃ s1 s2, runM l 0 i g (-1) t = (s1, s2) := ⟨_, _, rfl⟩
   rw [hs12] at HO HRS hrl hput ⊢
   dsimp only at HO hrl hput ⊢
   clear hs12 HEND HPUT
   have z1_wr := bC HBR.out Z1 ZZ
   have hneg : ((t : Int) == -1) = false := beq_eq_false_iff_ne.2 (by omega)
   have hneg2 : ¬ ((t : Int) = -1) := by omega
   cases s2 with
   | true =>
    have HRS2 := HRS.out
    unfold stepM at HRS2
    simp only [hneg2, if_false, Bool.true_eq_false, false_and] at HRS2
    have HRN := hide HRS2
    clear HRS HRS2
    (try have H1 := hide h1)
    (try have H3 := hide h3)
    (try clear h1 h3)
    (try clear h3)
    obtain ⟨W2, hW2⟩ : ∃ W, wr.alloc (.cells #[.int .i64 x, .int .i64 y, .bool u] 150) = W := ⟨_, rfl⟩
    have HS2 : Hid (St W0 W2 u7 s1 wr.heap.size x y u) := by rw [← hW2]; exact St.start HO.out HBR.out
    have z1_W2 := bC HS2.out.bel Z1 ZZ
    have u0_W2 := bC HS2.out.bel U0 ZU
    have u1_W2 := bC HS2.out.bel U1 ZU
    have u2_W2 := bC HS2.out.bel U2 ZU
    have b0_W2 := bx_cell HS2.out.box 0 _ rfl
    have b1_W2 := bx_cell HS2.out.box 1 _ rfl
    have b2_W2 := bx_cell HS2.out.box 2 _ rfl
    have fb0_W2 := bx_frozen HS2.out.box 0
    have fb1_W2 := bx_frozen HS2.out.box 1
    have fb2_W2 := bx_frozen HS2.out.box 2
    go_wp2_with (at_builtin; refine wpList_append_lay appK0 rfl (.tmp 69) (.tmp 71) rfl W0.heap.size _ _ rfl (World.ownsRow.alloc HS2.out.own (.cells #[.int .i64 x, .int .i64 y, .bool u] 150)) (some ⟨W2.heap.size, 0, none⟩) 1 (W2.alloc (.cells #[.int .i64 x, .int .i64 y, .bool u] 150)).heap.size [(x, y, u)] 1 rfl rfl (fun h => by cases h) rd_oneK (by simp; omega) (by have := HS2.out.bel.size; simp; omega) ?_)
    intro v6 w6 ho5 hg5 hn5
    have HSL := hide (HS2.out.app ho5 hg5 hn5)
    clear ho5 hg5 hn5
    go_wp2
    go_roundw
    case rel => exact ⟨t + 1, by omega, by go_num, by rw [HRN.out], by rw [HRN.out]; exact HSL.out.own, HSL.out.bel⟩
    case measure => simp [intOf]; omega
   | false =>
    by_cases hgt : i < x
    ·skip
     have HRS2 := HRS.out
     unfold stepM at HRS2
     simp only [hneg2, if_false, hgt, and_self, if_true] at HRS2
     have HRN := hide HRS2
     clear HRS HRS2
     (try have H1 := hide h1)
     (try have H3 := hide h3)
     (try clear h1 h3)
     (try clear h3)
     obtain ⟨W2, hW2⟩ : ∃ W, wr.alloc (.cells #[.int .i64 x, .int .i64 y, .bool u] 150) = W := ⟨_, rfl⟩
     have HS2 : Hid (St W0 W2 u7 s1 wr.heap.size x y u) := by rw [← hW2]; exact St.start HO.out HBR.out
     have z1_W2 := bC HS2.out.bel Z1 ZZ
     have u0_W2 := bC HS2.out.bel U0 ZU
     have u1_W2 := bC HS2.out.bel U1 ZU
     have u2_W2 := bC HS2.out.bel U2 ZU
     have b0_W2 := bx_cell HS2.out.box 0 _ rfl
     have b1_W2 := bx_cell HS2.out.box 1 _ rfl
     have b2_W2 := bx_cell HS2.out.box 2 _ rfl
     have fb0_W2 := bx_frozen HS2.out.box 0
     have fb1_W2 := bx_frozen HS2.out.box 1
     have fb2_W2 := bx_frozen HS2.out.box 2
     go_wp2_with (at_builtin; refine wpList_append_lay appK0 rfl (.tmp 48) (.tmp 54) rfl W0.heap.size _ _ rfl (World.ownsRow.alloc HS2.out.own (.cells #[.int .i64 i, .int .i64 g, .bool false] 150)) (some ⟨W2.heap.size, 0, none⟩) 1 (W2.alloc (.cells #[.int .i64 i, .int .i64 g, .bool false] 150)).heap.size [(i, g, false)] 1 rfl rfl (fun h => by cases h) rd_oneK (by simp; omega) (by have := HS2.out.bel.size; simp; omega) ?_)
     intro v5 w5 ho5 hg5 hn5
     have HS5 := hide (HS2.out.app ho5 hg5 hn5)
     clear ho5 hg5 hn5
     generalize hs5 : s1 ++ [(i, g, false)] = s5 at HS5 HRN
     have hl5 : s5.length = s1.length + 1 := by rw [← hs5]; simp
     clear hs5
     have z1_w5 := bC HS5.out.bel Z1 ZZ
     have b0_w5 := bx_cell HS5.out.box 0 _ rfl
     have b1_w5 := bx_cell HS5.out.box 1 _ rfl
     have b2_w5 := bx_cell HS5.out.box 2 _ rfl
     go_wp2_with (at_builtin; refine wpList_append_lay appK0 rfl (.tmp 69) (.tmp 71) rfl W0.heap.size _ _ rfl (World.ownsRow.alloc HS5.out.own (.cells #[.int .i64 x, .int .i64 y, .bool u] 150)) (some ⟨w5.heap.size, 0, none⟩) 1 (w5.alloc (.cells #[.int .i64 x, .int .i64 y, .bool u] 150)).heap.size [(x, y, u)] 1 rfl rfl (fun h => by cases h) rd_oneK (by simp; omega) (by have := HS5.out.bel.size; simp; omega) ?_)
     intro v6 w6 ho5 hg5 hn5
     have HSL := hide (HS5.out.app ho5 hg5 hn5)
     clear ho5 hg5 hn5
     go_wp2
     go_roundw
     case rel => exact ⟨t + 1, by omega, by go_num, by rw [HRN.out], by rw [HRN.out]; exact HSL.out.own, HSL.out.bel⟩
     case measure => simp [intOf]; omega
    ·have hgd : decide (i < x) = false := decide_eq_false hgt
     have HRS2 := HRS.out
     unfold stepM at HRS2
     simp only [hneg2, if_false, hgt, and_false] at HRS2
     have HRN := hide HRS2
     clear HRS HRS2
     (try have H1 := hide h1)
     (try have H3 := hide h3)
     (try clear h1 h3)
     (try clear h3)
     obtain ⟨W2, hW2⟩ : ∃ W, wr.alloc (.cells #[.int .i64 x, .int .i64 y, .bool u] 150) = W := ⟨_, rfl⟩
     have HS2 : Hid (St W0 W2 u7 s1 wr.heap.size x y u) := by rw [← hW2]; exact St.start HO.out HBR.out
     have z1_W2 := bC HS2.out.bel Z1 ZZ
     have u0_W2 := bC HS2.out.bel U0 ZU
     have u1_W2 := bC HS2.out.bel U1 ZU
     have u2_W2 := bC HS2.out.bel U2 ZU
     have b0_W2 := bx_cell HS2.out.box 0 _ rfl
     have b1_W2 := bx_cell HS2.out.box 1 _ rfl
     have b2_W2 := bx_cell HS2.out.box 2 _ rfl
     have fb0_W2 := bx_frozen HS2.out.box 0
     have fb1_W2 := bx_frozen HS2.out.box 1
     have fb2_W2 := bx_frozen HS2.out.box 2
     go_wp2_with (at_builtin; refine wpList_append_lay appK0 rfl (.tmp 69) (.tmp 71) rfl W0.heap.size _ _ rfl (World.ownsRow.alloc HS2.out.own (.cells #[.int .i64 x, .int .i64 y, .bool u] 150)) (some ⟨W2.heap.size, 0, none⟩) 1 (W2.alloc (.cells #[.int .i64 x, .int .i64 y, .bool u] 150)).heap.size [(x, y, u)] 1 rfl rfl (fun h => by cases h) rd_oneK (by simp; omega) (by have := HS2.out.bel.size; simp; omega) ?_)
     intro v6 w6 ho5 hg5 hn5
     have HSL := hide (HS2.out.app ho5 hg5 hn5)
     clear ho5 hg5 hn5
     go_wp2
     go_roundw
     case rel => exact ⟨t + 1, by omega, by go_num, by rw [HRN.out], by rw [HRN.out]; exact HSL.out.own, HSL.out.bel⟩
     case measure => simp [intOf]; omega
  ·have e : t = l.length := by omega
   subst e
   obtain ⟨s1, s2, hs12⟩ : ∃ s1 s2, runM l 0 i g (-1) l.length = (s1, s2) := ⟨_, _, rfl⟩
   have hrl := runM_len l 0 i g (-1) l.length
   have hput := HPUT.out l.length
   rw [hs12] at HO HEND hrl hput ⊢
   dsimp only at HO hrl hput ⊢
   clear hs12 HPUT hlt
   have z1_wr := bC HBR.out Z1 ZZ
   have u1_wr := bC HBR.out U1 ZU
   have u2_wr := bC HBR.out U2 ZU
   cases s2 with
   | true =>
    obtain rfl : m = s1 := HEND.out.symm
    have HOt := HO
    have HBt := HBR
    obtain ⟨o2, c2, e2, rd2⟩ := ownL.open (L := layK) HOt.out
    have hcap2 := hide (own_capO HOt.out e2)
    subst e2
    have HRD := hide rd2
    clear rd2 hput
    have HBt2 : Hid (Below w.heap.size w wr) := HB.out.trans (HBt.out.mono hW0s)
    have hszt := HBt.out.size
    have HRH := hide (HG.out.kept HBt2.out (Nat.le_refl _))
    clear HG
    have z0_wrt := bC HBt.out Z0 ZZ
    have z2_wrt := bC HBt.out Z2 ZZ
    have q0_wrt := bC HBt.out Q0 ZQ
    have q1_wrt := bC HBt.out Q1 ZQ
    have q2_wrt := bC HBt.out Q2 ZQ
    have hml : m.length ≤ 1000 := by omega
    go_upto_region 21 with fail
    go_cut [11] from 83 to 94 (fun s11 wx => ∃ B v', s11 = .pointer (some ⟨B, 0, none⟩) ∧ Hid (wx.heap[B]? = some (.cells #[.int .i64 key, .slice o2 m.length c2, v'] 41 (0, 0))) ∧ Hid (Below wr.heap.size wr wx) ∧ wr.heap.size ≤ B ∧ B < wx.heap.size ∧ Hid (RingO wx wr.heap.size v' (fun b => pairI key b m) hsR))
    case first =>
     have hzW : w.heap.size < wr.heap.size := by have := ZZ; omega
     go_region_held3 (fun w' => w'.cell? ⟨w.heap.size, 0, none⟩ = some (.int .i64 key) ∧ w'.cell? ⟨w.heap.size, 2, none⟩ = some (.slice oR hsR.length cR)) (first | with_reducible exact ⟨k1_0, k1_1⟩ | with_reducible exact ⟨k0_0, k0_1⟩ | with_reducible exact ⟨z0_wrt, z2_wrt⟩ | with_reducible exact ⟨setP_cell k1_0 (show w.heap.size < wr.heap.size by omega), setP_cell k1_1 (show w.heap.size < wr.heap.size by omega)⟩ | with_reducible exact ⟨setP_cell k1_0 (show w.heap.size < x0.heap.size by omega), setP_cell k1_1 (show w.heap.size < x0.heap.size by omega)⟩ | with_reducible exact ⟨setP_cell k1_0 (show w.heap.size < x0.heap.size + 1 by omega), setP_cell k1_1 (show w.heap.size < x0.heap.size + 1 by omega)⟩ | go_keep) (first | (go_at_call 157; have hc_ := l3tableO_any key o2 c2 m wr.drew ((HRD.out.kept (Below.drew (Below.refl _ _)) (Nat.le_refl _)).le (by simp)) hml hk hmok; with_reducible refine hc_.mono ?_; clear hc_; rintro e x0 ⟨o3, c3, hs3, rfl, ow3, tb3, hb⟩; have hp0 : Below wr.heap.size wr x0 := Below.trans (show Below wr.heap.size wr wr.drew from (Below.drew (Below.refl _ _))) (hb.mono (by simp)); have sp0 := hp0.size; have ow3 := own_mono ow3 (show wr.heap.size ≤ _ by simp); have tb3 := Tab.mono tb3 (show wr.heap.size ≤ _ by simp); have k0_0 := bC hp0 z0_wrt hzW; have k0_1 := bC hp0 z2_wrt hzW; clear hb) | (go_at_call 157; have hc_ := l3tableO_any key o2 c2 m (wr.alloc (.cells #[.int .i64 0, .slice none 0 0, .slice none 0 0] 41)).drew ((HRD.out.kept (Below.drew ((Below.refl _ _).alloc (Nat.le_refl _) _)) (Nat.le_refl _)).le (by simp)) hml hk hmok; with_reducible refine hc_.mono ?_; clear hc_; rintro e x0 ⟨o3, c3, hs3, rfl, ow3, tb3, hb⟩; have hp0 : Below wr.heap.size wr x0 := Below.trans (show Below wr.heap.size wr (wr.alloc (.cells #[.int .i64 0, .slice none 0 0, .slice none 0 0] 41)).drew from (Below.drew ((Below.refl _ _).alloc (Nat.le_refl _) _))) (hb.mono (by simp)); have sp0 := hp0.size; have ow3 := own_mono ow3 (show wr.heap.size ≤ _ by simp); have tb3 := Tab.mono tb3 (show wr.heap.size ≤ _ by simp); have k0_0 := bC hp0 z0_wrt hzW; have k0_1 := bC hp0 z2_wrt hzW; have hZ0 := box_newA hb; have hzl0 := (Array.getElem?_eq_some_iff.1 hZ0).1; clear hb) | (have hbv : Below x0.heap.size x0 (x0.alloc (.cells #[.slice o3 8 c3] 152)) := ((Below.refl x0.heap.size x0).alloc (Nat.le_refl _) (.cells #[.slice o3 8 c3] 152)); have own_ : ownL layH 152 (x0.alloc (.cells #[.slice o3 8 c3] 152)) wr.heap.size (.slice (some ⟨x0.heap.size, 0, none⟩) 1 1) [(o3, 8, c3)] := own_mono (one_own x0 o3 8 c3 _) (by (try simp) <;> omega); have hbw : Below w.heap.size w (x0.alloc (.cells #[.slice o3 8 c3] 152)) := HBt2.out.trans ((hp0.mono HBt2.out.size).trans (hbv.mono (Nat.le_trans HBt2.out.size sp0))); refine step_append_lay appHT rfl (.tmp 90) (.tmp 92) rfl wr.heap.size (.slice (some ⟨x0.heap.size, 0, none⟩) 1 1) [(o3, 8, c3)] rfl own_ oR cR w.heap.size hsR hsR.length rfl rfl hnR (HRH.out.kept (hp0.trans (hbv.mono sp0)) HBt2.out.size) (by simp; omega) (by simp; omega) ?_; intro v4 x1 ho4 hg4 hn4; have hr4 := ring_app own_ (own_kept ow3 hbv) (tb3.kept hbv) ho4 hg4; obtain ⟨g4, c4, e4⟩ := RingO.isSome hr4; subst e4; have hp1 : Below wr.heap.size wr x1 := (hp0.trans (hbv.mono sp0)).grown hg4 (by (try simp) <;> omega) (fun k h => (own_.lt k h).1); have sp1 := hp1.size; have k1_0 := bC hp1 z0_wrt hzW; have k1_1 := bC hp1 z2_wrt hzW; (try have hZ1 := box_far hg4 ((Below.heap_alloc _ _ _ hzl0).trans hZ0) (Nat.ne_of_lt hzl0)); (try have hzc1_0 := bx_cell hZ1 0 _ rfl); (try have hzf1_0 := bx_frozen hZ1 0); (try have hzc1_1 := bx_cell hZ1 1 _ rfl); (try have hzf1_1 := bx_frozen hZ1 1); (try have hzc1_2 := bx_cell hZ1 2 _ rfl); (try have hzf1_2 := bx_frozen hZ1 2); clear ho4 hg4 hn4 own_ hbw hbv) | (have hbv : Below x0.heap.size x0 ((x0.alloc (.cells #[.int .i64 0, .slice none 0 0, .slice none 0 0] 41)).alloc (.cells #[.slice o3 8 c3] 152)) := (((Below.refl x0.heap.size x0).alloc (Nat.le_refl _) (.cells #[.int .i64 0, .slice none 0 0, .slice none 0 0] 41)).alloc (by simp) (.cells #[.slice o3 8 c3] 152)); have own_ : ownL layH 152 ((x0.alloc (.cells #[.int .i64 0, .slice none 0 0, .slice none 0 0] 41)).alloc (.cells #[.slice o3 8 c3] 152)) wr.heap.size (.slice (some ⟨x0.heap.size + 1, 0, none⟩) 1 1) [(o3, 8, c3)] := own_mono (one_own1 x0 (.cells #[.int .i64 0, .slice none 0 0, .slice none 0 0] 41) o3 8 c3 _) (by (try simp) <;> omega); have hbw : Below w.heap.size w ((x0.alloc (.cells #[.int .i64 0, .slice none 0 0, .slice none 0 0] 41)).alloc (.cells #[.slice o3 8 c3] 152)) := HBt2.out.trans ((hp0.mono HBt2.out.size).trans (hbv.mono (Nat.le_trans HBt2.out.size sp0))); refine step_append_lay appHT rfl (.tmp 90) (.tmp 92) rfl wr.heap.size (.slice (some ⟨x0.heap.size + 1, 0, none⟩) 1 1) [(o3, 8, c3)] rfl own_ oR cR w.heap.size hsR hsR.length rfl rfl hnR (HRH.out.kept (hp0.trans (hbv.mono sp0)) HBt2.out.size) (by simp; omega) (by simp; omega) ?_; intro v4 x1 ho4 hg4 hn4; have hr4 := ring_app own_ (own_kept ow3 hbv) (tb3.kept hbv) ho4 hg4; obtain ⟨g4, c4, e4⟩ := RingO.isSome hr4; subst e4; have hp1 : Below wr.heap.size wr x1 := (hp0.trans (hbv.mono sp0)).grown hg4 (by (try simp) <;> omega) (fun k h => (own_.lt k h).1); have sp1 := hp1.size; have k1_0 := bC hp1 z0_wrt hzW; have k1_1 := bC hp1 z2_wrt hzW; have hZ2 := box_far hg4 (box_old2 x0 #[.int .i64 0, .slice none 0 0, .slice none 0 0] 41 (.cells #[.slice o3 8 c3] 152)) (Nat.ne_of_lt (Nat.lt_succ_self _)); (try have hzc2_0 := bx_cell hZ2 0 _ rfl); (try have hzf2_0 := bx_frozen hZ2 0); (try have hzc2_1 := bx_cell hZ2 1 _ rfl); (try have hzf2_1 := bx_frozen hZ2 1); (try have hzc2_2 := bx_cell hZ2 2 _ rfl); (try have hzf2_2 := bx_frozen hZ2 2); clear ho4 hg4 hn4 own_ hbw hbv) | (have hbv : Below x0.heap.size x0 ((x0.alloc (.cells #[.slice o3 8 c3] 152)).alloc (.cells #[.int .i64 0, .slice none 0 0, .slice none 0 0] 41)) := (((Below.refl x0.heap.size x0).alloc (Nat.le_refl _) (.cells #[.slice o3 8 c3] 152)).alloc (by simp) (.cells #[.int .i64 0, .slice none 0 0, .slice none 0 0] 41)); have own_ : ownL layH 152 ((x0.alloc (.cells #[.slice o3 8 c3] 152)).alloc (.cells #[.int .i64 0, .slice none 0 0, .slice none 0 0] 41)) wr.heap.size (.slice (some ⟨x0.heap.size, 0, none⟩) 1 1) [(o3, 8, c3)] := own_mono (World.ownsRow.alloc (one_own x0 o3 8 c3 _) (.cells #[.int .i64 0, .slice none 0 0, .slice none 0 0] 41)) (by (try simp) <;> omega); have hbw : Below w.heap.size w ((x0.alloc (.cells #[.slice o3 8 c3] 152)).alloc (.cells #[.int .i64 0, .slice none 0 0, .slice none 0 0] 41)) := HBt2.out.trans ((hp0.mono HBt2.out.size).trans (hbv.mono (Nat.le_trans HBt2.out.size sp0))); refine step_append_lay appHT rfl (.tmp 90) (.tmp 92) rfl wr.heap.size (.slice (some ⟨x0.heap.size, 0, none⟩) 1 1) [(o3, 8, c3)] rfl own_ oR cR w.heap.size hsR hsR.length rfl rfl hnR (HRH.out.kept (hp0.trans (hbv.mono sp0)) HBt2.out.size) (by simp; omega) (by simp; omega) ?_; intro v4 x1 ho4 hg4 hn4; have hr4 := ring_app own_ (own_kept ow3 hbv) (tb3.kept hbv) ho4 hg4; obtain ⟨g4, c4, e4⟩ := RingO.isSome hr4; subst e4; have hp1 : Below wr.heap.size wr x1 := (hp0.trans (hbv.mono sp0)).grown hg4 (by (try simp) <;> omega) (fun k h => (own_.lt k h).1); have sp1 := hp1.size; have k1_0 := bC hp1 z0_wrt hzW; have k1_1 := bC hp1 z2_wrt hzW; have hZ3 := box_far hg4 (box_new2 x0 #[.int .i64 0, .slice none 0 0, .slice none 0 0] 41 (.cells #[.slice o3 8 c3] 152)) (Nat.ne_of_gt (Nat.lt_succ_self _)); (try have hzc3_0 := bx_cell hZ3 0 _ rfl); (try have hzf3_0 := bx_frozen hZ3 0); (try have hzc3_1 := bx_cell hZ3 1 _ rfl); (try have hzf3_1 := bx_frozen hZ3 1); (try have hzc3_2 := bx_cell hZ3 2 _ rfl); (try have hzf3_2 := bx_frozen hZ3 2); clear ho4 hg4 hn4 own_ hbw hbv))
     all_goals (go_wp2_with fail; go_meet)
     all_goals first
      | with_reducible exact finP hZ1 hp1 (by omega) hr4
      | with_reducible exact finP hZ2 hp1 (by omega) hr4
      | with_reducible exact finP hZ3 hp1 (by omega) hr4
      | with_reducible exact finPn hp1 hr4
    case rest =>
    obtain ⟨B, v', rfl, Hbx, Hbl, hB1, hB2, Hr⟩ := hcut
    obtain ⟨g4, c4, e4⟩ := RingO.isSome Hr.out
    subst e4
    have hcap4 := RingO.cap Hr.out
    have hqz := ZQ
    have hqz2 : w.heap.size + 1 + 1 < wr.heap.size := by omega
    have hwc := Hbl.out.size
    have qc0 := bC Hbl.out q0_wrt hqz2
    have fqc0 := bF Hbl.out (bF HBt.out FQ0 ZQ) hqz2
    have bc0 := bx_cell Hbx.out 0 _ rfl
    have fbc0 := bx_frozen Hbx.out 0
    have qc1 := bC Hbl.out q1_wrt hqz2
    have fqc1 := bF Hbl.out (bF HBt.out FQ1 ZQ) hqz2
    have bc1 := bx_cell Hbx.out 1 _ rfl
    have fbc1 := bx_frozen Hbx.out 1
    have qc2 := bC Hbl.out q2_wrt hqz2
    have fqc2 := bF Hbl.out (bF HBt.out FQ2 ZQ) hqz2
    have bc2 := bx_cell Hbx.out 2 _ rfl
    have fbc2 := bx_frozen Hbx.out 2
    clear z0_wrt z2_wrt q0_wrt q1_wrt q2_wrt
    have HOw := hide (own_kept HOt.out Hbl.out)
    have HBw : Hid (Below w.heap.size w wc) := HBt2.out.trans (Hbl.out.mono HBt2.out.size)
    have hne1 : B ≠ w.heap.size + 1 + 1 := by omega
    have hne2 : w.heap.size + 1 + 1 ≠ B := by omega
    by_cases h4 : hsR.length = 3
    ·skip
     have h4' : (hsR.length : Int) = 3 := by omega
     have h41 : 3 ≤ c4 := by omega
     obtain ⟨W5, hW5⟩ : ∃ W, wc.setCell ⟨B, 2, none⟩ (.slice (some ⟨g4, 0, none⟩) 3 c4) = W := ⟨_, rfl⟩
     have hW5b : W5.heap[B]? = some (.cells #[.int .i64 key, .slice o2 m.length c2, .slice (some ⟨g4, 0, none⟩) 3 c4] 41 (0, 0)) := by rw [← hW5]; exact box_put Hbx.out 2 _
     have b50 := bx_cell hW5b 0 _ rfl
     have q50 : W5.cell? ⟨w.heap.size + 1 + 1, 0, none⟩ = some (.int .i64 0) := by rw [← hW5]; exact (cell_far hne2).trans qc0
     have fq50 : W5.frozen? ⟨w.heap.size + 1 + 1, 0, none⟩ = false := by rw [← hW5]; exact (frozen_far hne2).trans fqc0
     have b51 := bx_cell hW5b 1 _ rfl
     have q51 : W5.cell? ⟨w.heap.size + 1 + 1, 1, none⟩ = some (.slice none 0 0) := by rw [← hW5]; exact (cell_far hne2).trans qc1
     have fq51 : W5.frozen? ⟨w.heap.size + 1 + 1, 1, none⟩ = false := by rw [← hW5]; exact (frozen_far hne2).trans fqc1
     have b52 := bx_cell hW5b 2 _ rfl
     have q52 : W5.cell? ⟨w.heap.size + 1 + 1, 2, none⟩ = some (.slice none 0 0) := by rw [← hW5]; exact (cell_far hne2).trans qc2
     have fq52 : W5.frozen? ⟨w.heap.size + 1 + 1, 2, none⟩ = false := by rw [← hW5]; exact (frozen_far hne2).trans fqc2
     have HO5 : Hid (ownK W5 W0.heap.size (.slice o2 m.length c2) m) := by rw [← hW5]; exact own_putB HOw.out Hbx.out neP4 2 _
     have HR5 : Hid (RingO W5 wr.heap.size (.slice (some ⟨g4, 0, none⟩) (hsR.length + 1) c4) (fun b => pairI key b m) hsR) := by rw [← hW5]; exact Hr.out.put Hbx.out 2 _
     have HB5 : Hid (Below w.heap.size w W5) := by rw [← hW5]; exact HBw.out.setCell (p := ⟨B, 2, none⟩) (show w.heap.size ≤ B by have := HBt2.out.size; omega) _
     obtain ⟨o3, c3, hs3, rg1, rg2, rg3⟩ := ((HR5.out.low hqz2 0 (.int .i64 key)).low hqz2 1 (.slice o2 m.length c2)).low hqz2 2 (.slice (some ⟨g4, 0, none⟩) 3 c4)
     have HG1 := hide rg1
     have HG2 := hide rg2
     have HG3 := hide rg3
     clear rg1 rg2 rg3
     go_wp2
     refine bodyPost_ret (v := .tuple #[plv key (.slice o2 m.length c2) (.slice (some ⟨g4, 0, none⟩) 3 c4), .bool true]) (by simp [results, Tryz.results103, go_sem, q50, q51, q52]) rfl ?_
     unfold DoPost
     refine ⟨o2, c2, some ⟨g4, 0, none⟩, 3, c4, o3, c3, hs3, rfl, ?_, ?_, ?_, own_mono HG2.out (by omega), Tab.mono HG3.out (by omega), ?_⟩
     ·simp; omega
     ·exact own_mono (own_low (own_low (own_low HO5.out ZQ 0 _) ZQ 1 _) ZQ 2 _) hW0s
     ·exact own_mono (own_head3 HG1.out (by simp; omega)) (by omega)
     ·exact ((HB5.out.setCell (p := ⟨w.heap.size + 1 + 1, 0, none⟩) (by (try simp) <;> omega) _).setCell (p := ⟨w.heap.size + 1 + 1, 1, none⟩) (by (try simp) <;> omega) _).setCell (p := ⟨w.heap.size + 1 + 1, 2, none⟩) (by (try simp) <;> omega) _
    ·skip
     have h4' : ¬ ((hsR.length : Int) + 1 > 3) := by omega
     have h4d : decide (3 < (hsR.length : Int) + 1) = false := decide_eq_false (by omega)
     obtain ⟨o3, c3, hs3, rg1, rg2, rg3⟩ := ((Hr.out.low hqz2 0 (.int .i64 key)).low hqz2 1 (.slice o2 m.length c2)).low hqz2 2 (.slice (some ⟨g4, 0, none⟩) (hsR.length + 1) c4)
     have HG1 := hide rg1
     have HG2 := hide rg2
     have HG3 := hide rg3
     clear rg1 rg2 rg3
     go_wp2
     refine bodyPost_ret (v := .tuple #[plv key (.slice o2 m.length c2) (.slice (some ⟨g4, 0, none⟩) (hsR.length + 1) c4), .bool true]) (by simp [results, Tryz.results103, go_sem, qc0, qc1, qc2, hne1, hne2]) rfl ?_
     unfold DoPost
     refine ⟨o2, c2, some ⟨g4, 0, none⟩, (hsR.length + 1), c4, o3, c3, hs3, rfl, ?_, ?_, ?_, own_mono HG2.out (by omega), Tab.mono HG3.out (by omega), ?_⟩
     ·simp; omega
     ·exact own_mono (own_low (own_low (own_low HOw.out ZQ 0 _) ZQ 1 _) ZQ 2 _) hW0s
     ·have e : ((o3, 8, c3) :: hsR).take 3 = (o3, 8, c3) :: hsR := List.take_of_length_le (by simp; omega)
      rw [e]
      exact own_mono HG1.out (by omega)
     ·exact ((HBw.out.setCell (p := ⟨w.heap.size + 1 + 1, 0, none⟩) (by (try simp) <;> omega) _).setCell (p := ⟨w.heap.size + 1 + 1, 1, none⟩) (by (try simp) <;> omega) _).setCell (p := ⟨w.heap.size + 1 + 1, 2, none⟩) (by (try simp) <;> omega) _
   | false =>
    have hem : s1 ++ [(i, g, false)] = m := HEND.out
    go_wp2_with (at_builtin; refine wpList_append_lay appK0 rfl (.tmp 75) (.tmp 81) rfl W0.heap.size _ _ rfl (World.ownsRow.alloc HO.out (.cells #[.int .i64 i, .int .i64 g, .bool false] 150)) (some ⟨wr.heap.size, 0, none⟩) 1 (wr.alloc (.cells #[.int .i64 i, .int .i64 g, .bool false] 150)).heap.size [(i, g, false)] 1 rfl rfl (fun h => by cases h) rd_oneK (by simp; omega) (by have := HBR.out.size; simp; omega) ?_)
    intro vt wt ho5 hg5 _
    (try rw [hem] at ho5)
    have HOt := hide ho5
    have HBt := hide ((HBR.out.alloc HBR.out.size (.cells #[.int .i64 i, .int .i64 g, .bool false] 150)).grown hg5 (by have := HBR.out.size; simp; omega) (fun k e => (HO.out.lt k e).1))
    clear ho5 hg5 hem HEND HO z1_wr u1_wr u2_wr HBB HBR
    obtain ⟨o2, c2, e2, rd2⟩ := ownL.open (L := layK) HOt.out
    have hcap2 := hide (own_capO HOt.out e2)
    subst e2
    have HRD := hide rd2
    clear rd2
    have HBt2 : Hid (Below w.heap.size w wt) := HB.out.trans (HBt.out.mono hW0s)
    have hszt := HBt.out.size
    have HRH := hide (HG.out.kept HBt2.out (Nat.le_refl _))
    clear HG
    have z0_wtt := bC HBt.out Z0 ZZ
    have z2_wtt := bC HBt.out Z2 ZZ
    have q0_wtt := bC HBt.out Q0 ZQ
    have q1_wtt := bC HBt.out Q1 ZQ
    have q2_wtt := bC HBt.out Q2 ZQ
    have hml : m.length ≤ 1000 := by omega
    go_upto_region 21 with fail
    go_cut [11] from 83 to 94 (fun s11 wx => ∃ B v', s11 = .pointer (some ⟨B, 0, none⟩) ∧ Hid (wx.heap[B]? = some (.cells #[.int .i64 key, .slice o2 m.length c2, v'] 41 (0, 0))) ∧ Hid (Below wt.heap.size wt wx) ∧ wt.heap.size ≤ B ∧ B < wx.heap.size ∧ Hid (RingO wx wt.heap.size v' (fun b => pairI key b m) hsR))
    case first =>
     have hzW : w.heap.size < wt.heap.size := by have := ZZ; omega
     go_region_held3 (fun w' => w'.cell? ⟨w.heap.size, 0, none⟩ = some (.int .i64 key) ∧ w'.cell? ⟨w.heap.size, 2, none⟩ = some (.slice oR hsR.length cR)) (first | with_reducible exact ⟨k1_0, k1_1⟩ | with_reducible exact ⟨k0_0, k0_1⟩ | with_reducible exact ⟨z0_wtt, z2_wtt⟩ | with_reducible exact ⟨setP_cell k1_0 (show w.heap.size < wt.heap.size by omega), setP_cell k1_1 (show w.heap.size < wt.heap.size by omega)⟩ | with_reducible exact ⟨setP_cell k1_0 (show w.heap.size < x0.heap.size by omega), setP_cell k1_1 (show w.heap.size < x0.heap.size by omega)⟩ | with_reducible exact ⟨setP_cell k1_0 (show w.heap.size < x0.heap.size + 1 by omega), setP_cell k1_1 (show w.heap.size < x0.heap.size + 1 by omega)⟩ | go_keep) (first | (go_at_call 157; have hc_ := l3tableO_any key o2 c2 m wt.drew ((HRD.out.kept (Below.drew (Below.refl _ _)) (Nat.le_refl _)).le (by simp)) hml hk hmok; with_reducible refine hc_.mono ?_; clear hc_; rintro e x0 ⟨o3, c3, hs3, rfl, ow3, tb3, hb⟩; have hp0 : Below wt.heap.size wt x0 := Below.trans (show Below wt.heap.size wt wt.drew from (Below.drew (Below.refl _ _))) (hb.mono (by simp)); have sp0 := hp0.size; have ow3 := own_mono ow3 (show wt.heap.size ≤ _ by simp); have tb3 := Tab.mono tb3 (show wt.heap.size ≤ _ by simp); have k0_0 := bC hp0 z0_wtt hzW; have k0_1 := bC hp0 z2_wtt hzW; clear hb) | (go_at_call 157; have hc_ := l3tableO_any key o2 c2 m (wt.alloc (.cells #[.int .i64 0, .slice none 0 0, .slice none 0 0] 41)).drew ((HRD.out.kept (Below.drew ((Below.refl _ _).alloc (Nat.le_refl _) _)) (Nat.le_refl _)).le (by simp)) hml hk hmok; with_reducible refine hc_.mono ?_; clear hc_; rintro e x0 ⟨o3, c3, hs3, rfl, ow3, tb3, hb⟩; have hp0 : Below wt.heap.size wt x0 := Below.trans (show Below wt.heap.size wt (wt.alloc (.cells #[.int .i64 0, .slice none 0 0, .slice none 0 0] 41)).drew from (Below.drew ((Below.refl _ _).alloc (Nat.le_refl _) _))) (hb.mono (by simp)); have sp0 := hp0.size; have ow3 := own_mono ow3 (show wt.heap.size ≤ _ by simp); have tb3 := Tab.mono tb3 (show wt.heap.size ≤ _ by simp); have k0_0 := bC hp0 z0_wtt hzW; have k0_1 := bC hp0 z2_wtt hzW; have hZ0 := box_newA hb; have hzl0 := (Array.getElem?_eq_some_iff.1 hZ0).1; clear hb) | (have hbv : Below x0.heap.size x0 (x0.alloc (.cells #[.slice o3 8 c3] 152)) := ((Below.refl x0.heap.size x0).alloc (Nat.le_refl _) (.cells #[.slice o3 8 c3] 152)); have own_ : ownL layH 152 (x0.alloc (.cells #[.slice o3 8 c3] 152)) wt.heap.size (.slice (some ⟨x0.heap.size, 0, none⟩) 1 1) [(o3, 8, c3)] := own_mono (one_own x0 o3 8 c3 _) (by (try simp) <;> omega); have hbw : Below w.heap.size w (x0.alloc (.cells #[.slice o3 8 c3] 152)) := HBt2.out.trans ((hp0.mono HBt2.out.size).trans (hbv.mono (Nat.le_trans HBt2.out.size sp0))); refine step_append_lay appHT rfl (.tmp 90) (.tmp 92) rfl wt.heap.size (.slice (some ⟨x0.heap.size, 0, none⟩) 1 1) [(o3, 8, c3)] rfl own_ oR cR w.heap.size hsR hsR.length rfl rfl hnR (HRH.out.kept (hp0.trans (hbv.mono sp0)) HBt2.out.size) (by simp; omega) (by simp; omega) ?_; intro v4 x1 ho4 hg4 hn4; have hr4 := ring_app own_ (own_kept ow3 hbv) (tb3.kept hbv) ho4 hg4; obtain ⟨g4, c4, e4⟩ := RingO.isSome hr4; subst e4; have hp1 : Below wt.heap.size wt x1 := (hp0.trans (hbv.mono sp0)).grown hg4 (by (try simp) <;> omega) (fun k h => (own_.lt k h).1); have sp1 := hp1.size; have k1_0 := bC hp1 z0_wtt hzW; have k1_1 := bC hp1 z2_wtt hzW; (try have hZ1 := box_far hg4 ((Below.heap_alloc _ _ _ hzl0).trans hZ0) (Nat.ne_of_lt hzl0)); (try have hzc1_0 := bx_cell hZ1 0 _ rfl); (try have hzf1_0 := bx_frozen hZ1 0); (try have hzc1_1 := bx_cell hZ1 1 _ rfl); (try have hzf1_1 := bx_frozen hZ1 1); (try have hzc1_2 := bx_cell hZ1 2 _ rfl); (try have hzf1_2 := bx_frozen hZ1 2); clear ho4 hg4 hn4 own_ hbw hbv) | (have hbv : Below x0.heap.size x0 ((x0.alloc (.cells #[.int .i64 0, .slice none 0 0, .slice none 0 0] 41)).alloc (.cells #[.slice o3 8 c3] 152)) := (((Below.refl x0.heap.size x0).alloc (Nat.le_refl _) (.cells #[.int .i64 0, .slice none 0 0, .slice none 0 0] 41)).alloc (by simp) (.cells #[.slice o3 8 c3] 152)); have own_ : ownL layH 152 ((x0.alloc (.cells #[.int .i64 0, .slice none 0 0, .slice none 0 0] 41)).alloc (.cells #[.slice o3 8 c3] 152)) wt.heap.size (.slice (some ⟨x0.heap.size + 1, 0, none⟩) 1 1) [(o3, 8, c3)] := own_mono (one_own1 x0 (.cells #[.int .i64 0, .slice none 0 0, .slice none 0 0] 41) o3 8 c3 _) (by (try simp) <;> omega); have hbw : Below w.heap.size w ((x0.alloc (.cells #[.int .i64 0, .slice none 0 0, .slice none 0 0] 41)).alloc (.cells #[.slice o3 8 c3] 152)) := HBt2.out.trans ((hp0.mono HBt2.out.size).trans (hbv.mono (Nat.le_trans HBt2.out.size sp0))); refine step_append_lay appHT rfl (.tmp 90) (.tmp 92) rfl wt.heap.size (.slice (some ⟨x0.heap.size + 1, 0, none⟩) 1 1) [(o3, 8, c3)] rfl own_ oR cR w.heap.size hsR hsR.length rfl rfl hnR (HRH.out.kept (hp0.trans (hbv.mono sp0)) HBt2.out.size) (by simp; omega) (by simp; omega) ?_; intro v4 x1 ho4 hg4 hn4; have hr4 := ring_app own_ (own_kept ow3 hbv) (tb3.kept hbv) ho4 hg4; obtain ⟨g4, c4, e4⟩ := RingO.isSome hr4; subst e4; have hp1 : Below wt.heap.size wt x1 := (hp0.trans (hbv.mono sp0)).grown hg4 (by (try simp) <;> omega) (fun k h => (own_.lt k h).1); have sp1 := hp1.size; have k1_0 := bC hp1 z0_wtt hzW; have k1_1 := bC hp1 z2_wtt hzW; have hZ2 := box_far hg4 (box_old2 x0 #[.int .i64 0, .slice none 0 0, .slice none 0 0] 41 (.cells #[.slice o3 8 c3] 152)) (Nat.ne_of_lt (Nat.lt_succ_self _)); (try have hzc2_0 := bx_cell hZ2 0 _ rfl); (try have hzf2_0 := bx_frozen hZ2 0); (try have hzc2_1 := bx_cell hZ2 1 _ rfl); (try have hzf2_1 := bx_frozen hZ2 1); (try have hzc2_2 := bx_cell hZ2 2 _ rfl); (try have hzf2_2 := bx_frozen hZ2 2); clear ho4 hg4 hn4 own_ hbw hbv) | (have hbv : Below x0.heap.size x0 ((x0.alloc (.cells #[.slice o3 8 c3] 152)).alloc (.cells #[.int .i64 0, .slice none 0 0, .slice none 0 0] 41)) := (((Below.refl x0.heap.size x0).alloc (Nat.le_refl _) (.cells #[.slice o3 8 c3] 152)).alloc (by simp) (.cells #[.int .i64 0, .slice none 0 0, .slice none 0 0] 41)); have own_ : ownL layH 152 ((x0.alloc (.cells #[.slice o3 8 c3] 152)).alloc (.cells #[.int .i64 0, .slice none 0 0, .slice none 0 0] 41)) wt.heap.size (.slice (some ⟨x0.heap.size, 0, none⟩) 1 1) [(o3, 8, c3)] := own_mono (World.ownsRow.alloc (one_own x0 o3 8 c3 _) (.cells #[.int .i64 0, .slice none 0 0, .slice none 0 0] 41)) (by (try simp) <;> omega); have hbw : Below w.heap.size w ((x0.alloc (.cells #[.slice o3 8 c3] 152)).alloc (.cells #[.int .i64 0, .slice none 0 0, .slice none 0 0] 41)) := HBt2.out.trans ((hp0.mono HBt2.out.size).trans (hbv.mono (Nat.le_trans HBt2.out.size sp0))); refine step_append_lay appHT rfl (.tmp 90) (.tmp 92) rfl wt.heap.size (.slice (some ⟨x0.heap.size, 0, none⟩) 1 1) [(o3, 8, c3)] rfl own_ oR cR w.heap.size hsR hsR.length rfl rfl hnR (HRH.out.kept (hp0.trans (hbv.mono sp0)) HBt2.out.size) (by simp; omega) (by simp; omega) ?_; intro v4 x1 ho4 hg4 hn4; have hr4 := ring_app own_ (own_kept ow3 hbv) (tb3.kept hbv) ho4 hg4; obtain ⟨g4, c4, e4⟩ := RingO.isSome hr4; subst e4; have hp1 : Below wt.heap.size wt x1 := (hp0.trans (hbv.mono sp0)).grown hg4 (by (try simp) <;> omega) (fun k h => (own_.lt k h).1); have sp1 := hp1.size; have k1_0 := bC hp1 z0_wtt hzW; have k1_1 := bC hp1 z2_wtt hzW; have hZ3 := box_far hg4 (box_new2 x0 #[.int .i64 0, .slice none 0 0, .slice none 0 0] 41 (.cells #[.slice o3 8 c3] 152)) (Nat.ne_of_gt (Nat.lt_succ_self _)); (try have hzc3_0 := bx_cell hZ3 0 _ rfl); (try have hzf3_0 := bx_frozen hZ3 0); (try have hzc3_1 := bx_cell hZ3 1 _ rfl); (try have hzf3_1 := bx_frozen hZ3 1); (try have hzc3_2 := bx_cell hZ3 2 _ rfl); (try have hzf3_2 := bx_frozen hZ3 2); clear ho4 hg4 hn4 own_ hbw hbv))
     all_goals (go_wp2_with fail; go_meet)
     all_goals first
      | with_reducible exact finP hZ1 hp1 (by omega) hr4
      | with_reducible exact finP hZ2 hp1 (by omega) hr4
      | with_reducible exact finP hZ3 hp1 (by omega) hr4
      | with_reducible exact finPn hp1 hr4
    case rest =>
    obtain ⟨B, v', rfl, Hbx, Hbl, hB1, hB2, Hr⟩ := hcut
    obtain ⟨g4, c4, e4⟩ := RingO.isSome Hr.out
    subst e4
    have hcap4 := RingO.cap Hr.out
    have hqz := ZQ
    have hqz2 : w.heap.size + 1 + 1 < wt.heap.size := by omega
    have hwc := Hbl.out.size
    have qc0 := bC Hbl.out q0_wtt hqz2
    have fqc0 := bF Hbl.out (bF HBt.out FQ0 ZQ) hqz2
    have bc0 := bx_cell Hbx.out 0 _ rfl
    have fbc0 := bx_frozen Hbx.out 0
    have qc1 := bC Hbl.out q1_wtt hqz2
    have fqc1 := bF Hbl.out (bF HBt.out FQ1 ZQ) hqz2
    have bc1 := bx_cell Hbx.out 1 _ rfl
    have fbc1 := bx_frozen Hbx.out 1
    have qc2 := bC Hbl.out q2_wtt hqz2
    have fqc2 := bF Hbl.out (bF HBt.out FQ2 ZQ) hqz2
    have bc2 := bx_cell Hbx.out 2 _ rfl
    have fbc2 := bx_frozen Hbx.out 2
    clear z0_wtt z2_wtt q0_wtt q1_wtt q2_wtt
    have HOw := hide (own_kept HOt.out Hbl.out)
    have HBw : Hid (Below w.heap.size w wc) := HBt2.out.trans (Hbl.out.mono HBt2.out.size)
    have hne1 : B ≠ w.heap.size + 1 + 1 := by omega
    have hne2 : w.heap.size + 1 + 1 ≠ B := by omega
    by_cases h4 : hsR.length = 3
    ·skip
     have h4' : (hsR.length : Int) = 3 := by omega
     have h41 : 3 ≤ c4 := by omega
     obtain ⟨W5, hW5⟩ : ∃ W, wc.setCell ⟨B, 2, none⟩ (.slice (some ⟨g4, 0, none⟩) 3 c4) = W := ⟨_, rfl⟩
     have hW5b : W5.heap[B]? = some (.cells #[.int .i64 key, .slice o2 m.length c2, .slice (some ⟨g4, 0, none⟩) 3 c4] 41 (0, 0)) := by rw [← hW5]; exact box_put Hbx.out 2 _
     have b50 := bx_cell hW5b 0 _ rfl
     have q50 : W5.cell? ⟨w.heap.size + 1 + 1, 0, none⟩ = some (.int .i64 0) := by rw [← hW5]; exact (cell_far hne2).trans qc0
     have fq50 : W5.frozen? ⟨w.heap.size + 1 + 1, 0, none⟩ = false := by rw [← hW5]; exact (frozen_far hne2).trans fqc0
     have b51 := bx_cell hW5b 1 _ rfl
     have q51 : W5.cell? ⟨w.heap.size + 1 + 1, 1, none⟩ = some (.slice none 0 0) := by rw [← hW5]; exact (cell_far hne2).trans qc1
     have fq51 : W5.frozen? ⟨w.heap.size + 1 + 1, 1, none⟩ = false := by rw [← hW5]; exact (frozen_far hne2).trans fqc1
     have b52 := bx_cell hW5b 2 _ rfl
     have q52 : W5.cell? ⟨w.heap.size + 1 + 1, 2, none⟩ = some (.slice none 0 0) := by rw [← hW5]; exact (cell_far hne2).trans qc2
     have fq52 : W5.frozen? ⟨w.heap.size + 1 + 1, 2, none⟩ = false := by rw [← hW5]; exact (frozen_far hne2).trans fqc2
     have HO5 : Hid (ownK W5 W0.heap.size (.slice o2 m.length c2) m) := by rw [← hW5]; exact own_putB HOw.out Hbx.out neP4 2 _
     have HR5 : Hid (RingO W5 wt.heap.size (.slice (some ⟨g4, 0, none⟩) (hsR.length + 1) c4) (fun b => pairI key b m) hsR) := by rw [← hW5]; exact Hr.out.put Hbx.out 2 _
     have HB5 : Hid (Below w.heap.size w W5) := by rw [← hW5]; exact HBw.out.setCell (p := ⟨B, 2, none⟩) (show w.heap.size ≤ B by have := HBt2.out.size; omega) _
     obtain ⟨o3, c3, hs3, rg1, rg2, rg3⟩ := ((HR5.out.low hqz2 0 (.int .i64 key)).low hqz2 1 (.slice o2 m.length c2)).low hqz2 2 (.slice (some ⟨g4, 0, none⟩) 3 c4)
     have HG1 := hide rg1
     have HG2 := hide rg2
     have HG3 := hide rg3
     clear rg1 rg2 rg3
     go_wp2
     refine bodyPost_ret (v := .tuple #[plv key (.slice o2 m.length c2) (.slice (some ⟨g4, 0, none⟩) 3 c4), .bool true]) (by simp [results, Tryz.results103, go_sem, q50, q51, q52]) rfl ?_
     unfold DoPost
     refine ⟨o2, c2, some ⟨g4, 0, none⟩, 3, c4, o3, c3, hs3, rfl, ?_, ?_, ?_, own_mono HG2.out (by omega), Tab.mono HG3.out (by omega), ?_⟩
     ·simp; omega
     ·exact own_mono (own_low (own_low (own_low HO5.out ZQ 0 _) ZQ 1 _) ZQ 2 _) hW0s
     ·exact own_mono (own_head3 HG1.out (by simp; omega)) (by omega)
     ·exact ((HB5.out.setCell (p := ⟨w.heap.size + 1 + 1, 0, none⟩) (by (try simp) <;> omega) _).setCell (p := ⟨w.heap.size + 1 + 1, 1, none⟩) (by (try simp) <;> omega) _).setCell (p := ⟨w.heap.size + 1 + 1, 2, none⟩) (by (try simp) <;> omega) _
    ·skip
     have h4' : ¬ ((hsR.length : Int) + 1 > 3) := by omega
     have h4d : decide (3 < (hsR.length : Int) + 1) = false := decide_eq_false (by omega)
     obtain ⟨o3, c3, hs3, rg1, rg2, rg3⟩ := ((Hr.out.low hqz2 0 (.int .i64 key)).low hqz2 1 (.slice o2 m.length c2)).low hqz2 2 (.slice (some ⟨g4, 0, none⟩) (hsR.length + 1) c4)
     have HG1 := hide rg1
     have HG2 := hide rg2
     have HG3 := hide rg3
     clear rg1 rg2 rg3
     go_wp2
     refine bodyPost_ret (v := .tuple #[plv key (.slice o2 m.length c2) (.slice (some ⟨g4, 0, none⟩) (hsR.length + 1) c4), .bool true]) (by simp [results, Tryz.results103, go_sem, qc0, qc1, qc2, hne1, hne2]) rfl ?_
     unfold DoPost
     refine ⟨o2, c2, some ⟨g4, 0, none⟩, (hsR.length + 1), c4, o3, c3, hs3, rfl, ?_, ?_, ?_, own_mono HG2.out (by omega), Tab.mono HG3.out (by omega), ?_⟩
     ·simp; omega
     ·exact own_mono (own_low (own_low (own_low HOw.out ZQ 0 _) ZQ 1 _) ZQ 2 _) hW0s
     ·have e : ((o3, 8, c3) :: hsR).take 3 = (o3, 8, c3) :: hsR := List.take_of_length_le (by simp; omega)
      rw [e]
      exact own_mono HG1.out (by omega)
     ·exact ((HBw.out.setCell (p := ⟨w.heap.size + 1 + 1, 0, none⟩) (by (try simp) <;> omega) _).setCell (p := ⟨w.heap.size + 1 + 1, 1, none⟩) (by (try simp) <;> omega) _).setCell (p := ⟨w.heap.size + 1 + 1, 2, none⟩) (by (try simp) <;> omega) _

set_option maxRecDepth 100000 in
set_option maxHeartbeats 16000000 in
theorem l4do_else (key : Int) (o : Option Addr) (cap : Nat) (l : List Bk) (oR : Option Addr) (cR : Nat) (hsR : List Hd) (k i g : Int) (pl : Nat) (m : List Bk) (w : World) (hk : keyB key = true) (hl : backsOkB l = true) (hc : cmdOkB k i g = true) (hm : doL l k i g = some m) (hlen : l.length ≤ 100) (hR : RdK w.heap.size w o l) (hG : RdL layH w.heap.size w oR hsR) (hnR : oR = none → cR = 0) (hR3 : hsR.length ≤ 3) (hk1 : k ≠ 0) (hk0 : (k == 0) = false) (hpl : pl = placeN l i) :
  Calls Tryz.prog 103 #[plv key (.slice o l.length cap) (.slice oR hsR.length cR), cmd k i g] w fun e w' => DoPost key m hsR w e w' := by
 obtain ⟨W0, hW0⟩ : ∃ W, (((w.alloc (.cells #[.int .i64 key, .slice o l.length cap, .slice oR hsR.length cR] 41)).alloc (.cells #[.int .i64 k, .int .i64 i, .int .i64 g] 54)).alloc (.cells #[.int .i64 0, .slice none 0 0, .slice none 0 0] 41)) = W := ⟨_, rfl⟩
 have hb_W0 : Below w.heap.size w W0 := by rw [← hW0]; exact ((((Below.refl _ _).alloc (Nat.le_refl _) _).alloc (by simp <;> omega) _).alloc (by simp <;> omega) _)
 have HB := hide hb_W0
 clear hb_W0
 have zz : w.heap.size < W0.heap.size := by rw [← hW0]; simp <;> omega
 have z0 : W0.cell? ⟨w.heap.size, 0, none⟩ = some (.int .i64 key) := by rw [← hW0]; simp [go_sem]
 have z1 : W0.cell? ⟨w.heap.size, 1, none⟩ = some (.slice o l.length cap) := by rw [← hW0]; simp [go_sem]
 have z2 : W0.cell? ⟨w.heap.size, 2, none⟩ = some (.slice oR hsR.length cR) := by rw [← hW0]; simp [go_sem]
 have zu : w.heap.size + 1 < W0.heap.size := by rw [← hW0]; simp <;> omega
 have u0 : W0.cell? ⟨w.heap.size + 1, 0, none⟩ = some (.int .i64 k) := by rw [← hW0]; simp [go_sem]
 have u1 : W0.cell? ⟨w.heap.size + 1, 1, none⟩ = some (.int .i64 i) := by rw [← hW0]; simp [go_sem]
 have u2 : W0.cell? ⟨w.heap.size + 1, 2, none⟩ = some (.int .i64 g) := by rw [← hW0]; simp [go_sem]
 have zr : w.heap.size + 1 + 1 < W0.heap.size := by rw [← hW0]; simp
 have r0 : W0.cell? ⟨w.heap.size + 1 + 1, 0, none⟩ = some (.int .i64 0) := by rw [← hW0]; simp [go_sem]
 have r1 : W0.cell? ⟨w.heap.size + 1 + 1, 1, none⟩ = some (.slice none 0 0) := by rw [← hW0]; simp [go_sem]
 have r2 : W0.cell? ⟨w.heap.size + 1 + 1, 2, none⟩ = some (.slice none 0 0) := by rw [← hW0]; simp [go_sem]
 have fr0 : W0.frozen? ⟨w.heap.size + 1 + 1, 0, none⟩ = false := by rw [← hW0]; simp [go_sem]
 have fr1 : W0.frozen? ⟨w.heap.size + 1 + 1, 1, none⟩ = false := by rw [← hW0]; simp [go_sem]
 have fr2 : W0.frozen? ⟨w.heap.size + 1 + 1, 2, none⟩ = false := by rw [← hW0]; simp [go_sem]
 have hzr0 := zr
 have HR := hide hR
 have HG := hide hG
 have hW0s := HB.out.size
 have HF := hide (l4find_any o cap l i W0 ((hR.kept HB.out (Nat.le_refl _)).le HB.out.size) (by omega) hl)
 have HEND := hide (run_end hl hc hm)
 have hmok := doL_ok hl hc hm
 have hmlen := doL_len hm
 have hpl' : thereB l i = true := by rcases doL_some hm with ⟨_, h, _⟩ | ⟨h, _⟩ | ⟨h, _⟩ | ⟨h, _⟩ <;> first | exact h | (exact absurd h hk1)
 rw [find_yes hpl', ← hpl] at HF HEND
 have hge : (0 : Int) ≤ (pl : Int) := by omega
 have HPLX := hide hpl
 clear hpl
 clear hR hG hl hc
 have HPUT := hide (fun t => runM_put (l := l) (k := k) (i := i) (g := g) (fi := (pl : Int)) t)
 have Z0 := z0
 have Z1 := z1
 have Z2 := z2
 have ZZ := zz
 have U0 := u0
 have U1 := u1
 have U2 := u2
 have ZU := zu
 have Q0 := r0
 have Q1 := r1
 have Q2 := r2
 have ZQ := zr
 have FQ0 := fr0
 have FQ1 := fr1
 have FQ2 := fr2
 go_enter Tryz.func103, Tryz.ntmps103
 go_wp2_with fail
 refine HF.out.mono ?_
 rintro e w9 ⟨rfl, rfl⟩
 go_wp2
 go_loopw [7, 8, 9] (fun lv pv tv wr => ∃ t : Nat, t ≤ l.length ∧ tv = .int .i64 (t : Int) ∧ pv = .bool (runM l k i g ((pl : Int)) t).2 ∧ Hid (ownK wr W0.heap.size lv (runM l k i g ((pl : Int)) t).1) ∧ Hid (Below W0.heap.size W0 wr))
  (fun _ _ tv _ => l.length - (intOf tv).toNat)
 case atStart => exact ⟨0, Nat.zero_le _, rfl, by simp [runM, hk0, hk1], World.ownsRow_nil _ _ _ _, Below.refl _ _⟩
 case round =>
  obtain ⟨t, htl, rfl, rfl, HO, HBR⟩ := hrel
  clear HF z0 z1 z2 u0 u1 u2 r0 r1 r2 fr0 fr1 fr2 zz zu zr hW0
  have HBB : Hid (Below w.heap.size w wr) := HB.out.trans (HBR.out.mono hW0s)
  by_cases hlt : t < l.length
  ·skip
   have hlt' : (t : Int) < (l.length : Int) := by omega
   have ht0 : (0 : Int) ≤ (t : Int) := by omega
   rcases HR.out with hR | ⟨b, off, rfl, hbl, hcell⟩
   ·subst hR; simp at hlt
   obtain ⟨c0, c1, c2⟩ := RdL.back (C := w.heap.size) hcell t hlt
   replace c0 := (HBB.out.cell (p := ⟨b, off + t * 3, none⟩) hbl).trans c0
   replace c1 := (HBB.out.cell (p := ⟨b, off + t * 3 + 1, none⟩) hbl).trans c1
   replace c2 := (HBB.out.cell (p := ⟨b, off + t * 3 + 2, none⟩) hbl).trans c2
   have hrl := runM_len l k i g ((pl : Int)) t
   have HRS := hide (show runM l k i g ((pl : Int)) (t + 1) = stepM k i g ((pl : Int)) (runM l k i g ((pl : Int)) t) t (l.getD t (0, 0, false)) from rfl)
   have hput := HPUT.out t
   obtain ⟨x, y, u, hxyu⟩ : ∃ x y u, l.getD t (0, 0, false) = (x, y, u) := ⟨_, _, _, rfl⟩
   rw [hxyu] at c0 c1 c2 HRS
   dsimp only at c0 c1 c2
   clear hxyu hcell
   obtain ⟨s1, s2, hs12⟩ : ∃ s1 s2, runM l k i g ((pl : Int)) t = (s1, s2) := ⟨_, _, rfl⟩
   rw [hs12] at HO HRS hrl hput ⊢
   dsimp only at HO hrl hput ⊢
   clear hs12 HEND HPUT
   have z1_wr := bC HBR.out Z1 ZZ
   cases s2 with
   | false => have := hput rfl; simp [hk0] at this
   | true =>
    by_cases htp : t = pl
    ·subst htp
     have hteq : ((t : Int) == (t : Int)) = true := beq_self_eq_true _
     by_cases h3 : k = 3
     ·subst h3
      have HRS2 := HRS.out
      unfold stepM at HRS2
      simp only [if_true, Bool.true_eq_false, false_and, if_false] at HRS2
      have HRN := hide HRS2
      clear HRS HRS2
      (try have H1 := hide h1)
      (try have H3 := hide h3)
      (try clear h1 h3)
      (try clear h3)
      obtain ⟨W2, hW2⟩ : ∃ W, wr.alloc (.cells #[.int .i64 x, .int .i64 y, .bool u] 150) = W := ⟨_, rfl⟩
      have HS2 : Hid (St W0 W2 u7 s1 wr.heap.size x y u) := by rw [← hW2]; exact St.start HO.out HBR.out
      have z1_W2 := bC HS2.out.bel Z1 ZZ
      have u0_W2 := bC HS2.out.bel U0 ZU
      have u1_W2 := bC HS2.out.bel U1 ZU
      have u2_W2 := bC HS2.out.bel U2 ZU
      have b0_W2 := bx_cell HS2.out.box 0 _ rfl
      have b1_W2 := bx_cell HS2.out.box 1 _ rfl
      have b2_W2 := bx_cell HS2.out.box 2 _ rfl
      have fb0_W2 := bx_frozen HS2.out.box 0
      have fb1_W2 := bx_frozen HS2.out.box 1
      have fb2_W2 := bx_frozen HS2.out.box 2
      have HSL := HS2
      go_wp2
      go_roundw
      case rel => exact ⟨t + 1, by omega, by go_num, by rw [HRN.out], by rw [HRN.out]; exact HSL.out.own, HSL.out.bel⟩
      case measure => simp [intOf]; omega
     ·have h3' : (k == 3) = false := beq_eq_false_iff_ne.2 h3
      by_cases h1 : k = 1
      ·have h1' : (k == 1) = true := beq_iff_eq.2 h1
       have HRS2 := HRS.out
       unfold stepM at HRS2
       simp only [if_true, if_neg h3, if_pos h1, Bool.true_eq_false, false_and, if_false] at HRS2
       have HRN := hide HRS2
       clear HRS HRS2
       (try have H1 := hide h1)
       (try have H3 := hide h3)
       (try clear h1 h3)
       (try clear h3)
       obtain ⟨W2, hW2⟩ : ∃ W, wr.alloc (.cells #[.int .i64 x, .int .i64 y, .bool u] 150) = W := ⟨_, rfl⟩
       have HS2 : Hid (St W0 W2 u7 s1 wr.heap.size x y u) := by rw [← hW2]; exact St.start HO.out HBR.out
       have z1_W2 := bC HS2.out.bel Z1 ZZ
       have u0_W2 := bC HS2.out.bel U0 ZU
       have u1_W2 := bC HS2.out.bel U1 ZU
       have u2_W2 := bC HS2.out.bel U2 ZU
       have b0_W2 := bx_cell HS2.out.box 0 _ rfl
       have b1_W2 := bx_cell HS2.out.box 1 _ rfl
       have b2_W2 := bx_cell HS2.out.box 2 _ rfl
       have fb0_W2 := bx_frozen HS2.out.box 0
       have fb1_W2 := bx_frozen HS2.out.box 1
       have fb2_W2 := bx_frozen HS2.out.box 2
       obtain ⟨W4, hW4⟩ : ∃ W, W2.setCell ⟨wr.heap.size, 1, none⟩ (.int .i64 g) = W := ⟨_, rfl⟩
       have HS4 : Hid (St W0 W4 u7 s1 wr.heap.size x g u) := by rw [← hW4]; exact HS2.out.put1 _
       have z1_W4 := bC HS4.out.bel Z1 ZZ
       have b0_W4 := bx_cell HS4.out.box 0 _ rfl
       have b1_W4 := bx_cell HS4.out.box 1 _ rfl
       have b2_W4 := bx_cell HS4.out.box 2 _ rfl
       go_wp2_with (at_builtin; refine wpList_append_lay appK0 rfl (.tmp 69) (.tmp 71) rfl W0.heap.size _ _ rfl (World.ownsRow.alloc HS4.out.own (.cells #[.int .i64 x, .int .i64 g, .bool u] 150)) (some ⟨W4.heap.size, 0, none⟩) 1 (W4.alloc (.cells #[.int .i64 x, .int .i64 g, .bool u] 150)).heap.size [(x, g, u)] 1 rfl rfl (fun h => by cases h) rd_oneK (by simp; omega) (by have := HS4.out.bel.size; simp; omega) ?_)
       intro v6 w6 ho5 hg5 hn5
       have HSL := hide (HS4.out.app ho5 hg5 hn5)
       clear ho5 hg5 hn5
       go_wp2
       go_roundw
       case rel => exact ⟨t + 1, by omega, by go_num, by rw [HRN.out], by rw [HRN.out]; exact HSL.out.own, HSL.out.bel⟩
       case measure => simp [intOf]; omega
      ·have h1' : (k == 1) = false := beq_eq_false_iff_ne.2 h1
       have HRS2 := HRS.out
       unfold stepM at HRS2
       simp only [if_true, if_neg h3, if_neg h1, Bool.true_eq_false, false_and, if_false] at HRS2
       have HRN := hide HRS2
       clear HRS HRS2
       (try have H1 := hide h1)
       (try have H3 := hide h3)
       (try clear h1 h3)
       (try clear h3)
       obtain ⟨W2, hW2⟩ : ∃ W, wr.alloc (.cells #[.int .i64 x, .int .i64 y, .bool u] 150) = W := ⟨_, rfl⟩
       have HS2 : Hid (St W0 W2 u7 s1 wr.heap.size x y u) := by rw [← hW2]; exact St.start HO.out HBR.out
       have z1_W2 := bC HS2.out.bel Z1 ZZ
       have u0_W2 := bC HS2.out.bel U0 ZU
       have u1_W2 := bC HS2.out.bel U1 ZU
       have u2_W2 := bC HS2.out.bel U2 ZU
       have b0_W2 := bx_cell HS2.out.box 0 _ rfl
       have b1_W2 := bx_cell HS2.out.box 1 _ rfl
       have b2_W2 := bx_cell HS2.out.box 2 _ rfl
       have fb0_W2 := bx_frozen HS2.out.box 0
       have fb1_W2 := bx_frozen HS2.out.box 1
       have fb2_W2 := bx_frozen HS2.out.box 2
       obtain ⟨W4, hW4⟩ : ∃ W, W2.setCell ⟨wr.heap.size, 2, none⟩ (.bool true) = W := ⟨_, rfl⟩
       have HS4 : Hid (St W0 W4 u7 s1 wr.heap.size x y true) := by rw [← hW4]; exact HS2.out.put2 _
       have z1_W4 := bC HS4.out.bel Z1 ZZ
       have b0_W4 := bx_cell HS4.out.box 0 _ rfl
       have b1_W4 := bx_cell HS4.out.box 1 _ rfl
       have b2_W4 := bx_cell HS4.out.box 2 _ rfl
       go_wp2_with (at_builtin; refine wpList_append_lay appK0 rfl (.tmp 69) (.tmp 71) rfl W0.heap.size _ _ rfl (World.ownsRow.alloc HS4.out.own (.cells #[.int .i64 x, .int .i64 y, .bool true] 150)) (some ⟨W4.heap.size, 0, none⟩) 1 (W4.alloc (.cells #[.int .i64 x, .int .i64 y, .bool true] 150)).heap.size [(x, y, true)] 1 rfl rfl (fun h => by cases h) rd_oneK (by simp; omega) (by have := HS4.out.bel.size; simp; omega) ?_)
       intro v6 w6 ho5 hg5 hn5
       have HSL := hide (HS4.out.app ho5 hg5 hn5)
       clear ho5 hg5 hn5
       go_wp2
       go_roundw
       case rel => exact ⟨t + 1, by omega, by go_num, by rw [HRN.out], by rw [HRN.out]; exact HSL.out.own, HSL.out.bel⟩
       case measure => simp [intOf]; omega
    ·have hne : ((t : Int) == (pl : Int)) = false := beq_eq_false_iff_ne.2 (by omega)
     have hne2 : ¬ ((t : Int) = (pl : Int)) := by omega
     have HRS2 := HRS.out
     unfold stepM at HRS2
     simp only [hne2, Bool.true_eq_false, false_and, if_false] at HRS2
     have HRN := hide HRS2
     clear HRS HRS2
     (try have H1 := hide h1)
     (try have H3 := hide h3)
     (try clear h1 h3)
     (try clear h3)
     obtain ⟨W2, hW2⟩ : ∃ W, wr.alloc (.cells #[.int .i64 x, .int .i64 y, .bool u] 150) = W := ⟨_, rfl⟩
     have HS2 : Hid (St W0 W2 u7 s1 wr.heap.size x y u) := by rw [← hW2]; exact St.start HO.out HBR.out
     have z1_W2 := bC HS2.out.bel Z1 ZZ
     have u0_W2 := bC HS2.out.bel U0 ZU
     have u1_W2 := bC HS2.out.bel U1 ZU
     have u2_W2 := bC HS2.out.bel U2 ZU
     have b0_W2 := bx_cell HS2.out.box 0 _ rfl
     have b1_W2 := bx_cell HS2.out.box 1 _ rfl
     have b2_W2 := bx_cell HS2.out.box 2 _ rfl
     have fb0_W2 := bx_frozen HS2.out.box 0
     have fb1_W2 := bx_frozen HS2.out.box 1
     have fb2_W2 := bx_frozen HS2.out.box 2
     go_wp2_with (at_builtin; refine wpList_append_lay appK0 rfl (.tmp 69) (.tmp 71) rfl W0.heap.size _ _ rfl (World.ownsRow.alloc HS2.out.own (.cells #[.int .i64 x, .int .i64 y, .bool u] 150)) (some ⟨W2.heap.size, 0, none⟩) 1 (W2.alloc (.cells #[.int .i64 x, .int .i64 y, .bool u] 150)).heap.size [(x, y, u)] 1 rfl rfl (fun h => by cases h) rd_oneK (by simp; omega) (by have := HS2.out.bel.size; simp; omega) ?_)
     intro v6 w6 ho5 hg5 hn5
     have HSL := hide (HS2.out.app ho5 hg5 hn5)
     clear ho5 hg5 hn5
     go_wp2
     go_roundw
     case rel => exact ⟨t + 1, by omega, by go_num, by rw [HRN.out], by rw [HRN.out]; exact HSL.out.own, HSL.out.bel⟩
     case measure => simp [intOf]; omega
  ·have e : t = l.length := by omega
   subst e
   obtain ⟨s1, s2, hs12⟩ : ∃ s1 s2, runM l k i g ((pl : Int)) l.length = (s1, s2) := ⟨_, _, rfl⟩
   have hrl := runM_len l k i g ((pl : Int)) l.length
   have hput := HPUT.out l.length
   rw [hs12] at HO HEND hrl hput ⊢
   dsimp only at HO hrl hput ⊢
   clear hs12 HPUT hlt
   have z1_wr := bC HBR.out Z1 ZZ
   have u1_wr := bC HBR.out U1 ZU
   have u2_wr := bC HBR.out U2 ZU
   cases s2 with
   | true =>
    obtain rfl : m = s1 := HEND.out.symm
    have HOt := HO
    have HBt := HBR
    obtain ⟨o2, c2, e2, rd2⟩ := ownL.open (L := layK) HOt.out
    have hcap2 := hide (own_capO HOt.out e2)
    subst e2
    have HRD := hide rd2
    clear rd2 hput
    have HBt2 : Hid (Below w.heap.size w wr) := HB.out.trans (HBt.out.mono hW0s)
    have hszt := HBt.out.size
    have HRH := hide (HG.out.kept HBt2.out (Nat.le_refl _))
    clear HG
    have z0_wrt := bC HBt.out Z0 ZZ
    have z2_wrt := bC HBt.out Z2 ZZ
    have q0_wrt := bC HBt.out Q0 ZQ
    have q1_wrt := bC HBt.out Q1 ZQ
    have q2_wrt := bC HBt.out Q2 ZQ
    have hml : m.length ≤ 1000 := by omega
    go_upto_region 21 with fail
    go_cut [11] from 83 to 94 (fun s11 wx => ∃ B v', s11 = .pointer (some ⟨B, 0, none⟩) ∧ Hid (wx.heap[B]? = some (.cells #[.int .i64 key, .slice o2 m.length c2, v'] 41 (0, 0))) ∧ Hid (Below wr.heap.size wr wx) ∧ wr.heap.size ≤ B ∧ B < wx.heap.size ∧ Hid (RingO wx wr.heap.size v' (fun b => pairI key b m) hsR))
    case first =>
     have hzW : w.heap.size < wr.heap.size := by have := ZZ; omega
     go_region_held3 (fun w' => w'.cell? ⟨w.heap.size, 0, none⟩ = some (.int .i64 key) ∧ w'.cell? ⟨w.heap.size, 2, none⟩ = some (.slice oR hsR.length cR)) (first | with_reducible exact ⟨k1_0, k1_1⟩ | with_reducible exact ⟨k0_0, k0_1⟩ | with_reducible exact ⟨z0_wrt, z2_wrt⟩ | with_reducible exact ⟨setP_cell k1_0 (show w.heap.size < wr.heap.size by omega), setP_cell k1_1 (show w.heap.size < wr.heap.size by omega)⟩ | with_reducible exact ⟨setP_cell k1_0 (show w.heap.size < x0.heap.size by omega), setP_cell k1_1 (show w.heap.size < x0.heap.size by omega)⟩ | with_reducible exact ⟨setP_cell k1_0 (show w.heap.size < x0.heap.size + 1 by omega), setP_cell k1_1 (show w.heap.size < x0.heap.size + 1 by omega)⟩ | go_keep) (first | (go_at_call 157; have hc_ := l3tableO_any key o2 c2 m wr.drew ((HRD.out.kept (Below.drew (Below.refl _ _)) (Nat.le_refl _)).le (by simp)) hml hk hmok; with_reducible refine hc_.mono ?_; clear hc_; rintro e x0 ⟨o3, c3, hs3, rfl, ow3, tb3, hb⟩; have hp0 : Below wr.heap.size wr x0 := Below.trans (show Below wr.heap.size wr wr.drew from (Below.drew (Below.refl _ _))) (hb.mono (by simp)); have sp0 := hp0.size; have ow3 := own_mono ow3 (show wr.heap.size ≤ _ by simp); have tb3 := Tab.mono tb3 (show wr.heap.size ≤ _ by simp); have k0_0 := bC hp0 z0_wrt hzW; have k0_1 := bC hp0 z2_wrt hzW; clear hb) | (go_at_call 157; have hc_ := l3tableO_any key o2 c2 m (wr.alloc (.cells #[.int .i64 0, .slice none 0 0, .slice none 0 0] 41)).drew ((HRD.out.kept (Below.drew ((Below.refl _ _).alloc (Nat.le_refl _) _)) (Nat.le_refl _)).le (by simp)) hml hk hmok; with_reducible refine hc_.mono ?_; clear hc_; rintro e x0 ⟨o3, c3, hs3, rfl, ow3, tb3, hb⟩; have hp0 : Below wr.heap.size wr x0 := Below.trans (show Below wr.heap.size wr (wr.alloc (.cells #[.int .i64 0, .slice none 0 0, .slice none 0 0] 41)).drew from (Below.drew ((Below.refl _ _).alloc (Nat.le_refl _) _))) (hb.mono (by simp)); have sp0 := hp0.size; have ow3 := own_mono ow3 (show wr.heap.size ≤ _ by simp); have tb3 := Tab.mono tb3 (show wr.heap.size ≤ _ by simp); have k0_0 := bC hp0 z0_wrt hzW; have k0_1 := bC hp0 z2_wrt hzW; have hZ0 := box_newA hb; have hzl0 := (Array.getElem?_eq_some_iff.1 hZ0).1; clear hb) | (have hbv : Below x0.heap.size x0 (x0.alloc (.cells #[.slice o3 8 c3] 152)) := ((Below.refl x0.heap.size x0).alloc (Nat.le_refl _) (.cells #[.slice o3 8 c3] 152)); have own_ : ownL layH 152 (x0.alloc (.cells #[.slice o3 8 c3] 152)) wr.heap.size (.slice (some ⟨x0.heap.size, 0, none⟩) 1 1) [(o3, 8, c3)] := own_mono (one_own x0 o3 8 c3 _) (by (try simp) <;> omega); have hbw : Below w.heap.size w (x0.alloc (.cells #[.slice o3 8 c3] 152)) := HBt2.out.trans ((hp0.mono HBt2.out.size).trans (hbv.mono (Nat.le_trans HBt2.out.size sp0))); refine step_append_lay appHT rfl (.tmp 90) (.tmp 92) rfl wr.heap.size (.slice (some ⟨x0.heap.size, 0, none⟩) 1 1) [(o3, 8, c3)] rfl own_ oR cR w.heap.size hsR hsR.length rfl rfl hnR (HRH.out.kept (hp0.trans (hbv.mono sp0)) HBt2.out.size) (by simp; omega) (by simp; omega) ?_; intro v4 x1 ho4 hg4 hn4; have hr4 := ring_app own_ (own_kept ow3 hbv) (tb3.kept hbv) ho4 hg4; obtain ⟨g4, c4, e4⟩ := RingO.isSome hr4; subst e4; have hp1 : Below wr.heap.size wr x1 := (hp0.trans (hbv.mono sp0)).grown hg4 (by (try simp) <;> omega) (fun k h => (own_.lt k h).1); have sp1 := hp1.size; have k1_0 := bC hp1 z0_wrt hzW; have k1_1 := bC hp1 z2_wrt hzW; (try have hZ1 := box_far hg4 ((Below.heap_alloc _ _ _ hzl0).trans hZ0) (Nat.ne_of_lt hzl0)); (try have hzc1_0 := bx_cell hZ1 0 _ rfl); (try have hzf1_0 := bx_frozen hZ1 0); (try have hzc1_1 := bx_cell hZ1 1 _ rfl); (try have hzf1_1 := bx_frozen hZ1 1); (try have hzc1_2 := bx_cell hZ1 2 _ rfl); (try have hzf1_2 := bx_frozen hZ1 2); clear ho4 hg4 hn4 own_ hbw hbv) | (have hbv : Below x0.heap.size x0 ((x0.alloc (.cells #[.int .i64 0, .slice none 0 0, .slice none 0 0] 41)).alloc (.cells #[.slice o3 8 c3] 152)) := (((Below.refl x0.heap.size x0).alloc (Nat.le_refl _) (.cells #[.int .i64 0, .slice none 0 0, .slice none 0 0] 41)).alloc (by simp) (.cells #[.slice o3 8 c3] 152)); have own_ : ownL layH 152 ((x0.alloc (.cells #[.int .i64 0, .slice none 0 0, .slice none 0 0] 41)).alloc (.cells #[.slice o3 8 c3] 152)) wr.heap.size (.slice (some ⟨x0.heap.size + 1, 0, none⟩) 1 1) [(o3, 8, c3)] := own_mono (one_own1 x0 (.cells #[.int .i64 0, .slice none 0 0, .slice none 0 0] 41) o3 8 c3 _) (by (try simp) <;> omega); have hbw : Below w.heap.size w ((x0.alloc (.cells #[.int .i64 0, .slice none 0 0, .slice none 0 0] 41)).alloc (.cells #[.slice o3 8 c3] 152)) := HBt2.out.trans ((hp0.mono HBt2.out.size).trans (hbv.mono (Nat.le_trans HBt2.out.size sp0))); refine step_append_lay appHT rfl (.tmp 90) (.tmp 92) rfl wr.heap.size (.slice (some ⟨x0.heap.size + 1, 0, none⟩) 1 1) [(o3, 8, c3)] rfl own_ oR cR w.heap.size hsR hsR.length rfl rfl hnR (HRH.out.kept (hp0.trans (hbv.mono sp0)) HBt2.out.size) (by simp; omega) (by simp; omega) ?_; intro v4 x1 ho4 hg4 hn4; have hr4 := ring_app own_ (own_kept ow3 hbv) (tb3.kept hbv) ho4 hg4; obtain ⟨g4, c4, e4⟩ := RingO.isSome hr4; subst e4; have hp1 : Below wr.heap.size wr x1 := (hp0.trans (hbv.mono sp0)).grown hg4 (by (try simp) <;> omega) (fun k h => (own_.lt k h).1); have sp1 := hp1.size; have k1_0 := bC hp1 z0_wrt hzW; have k1_1 := bC hp1 z2_wrt hzW; have hZ2 := box_far hg4 (box_old2 x0 #[.int .i64 0, .slice none 0 0, .slice none 0 0] 41 (.cells #[.slice o3 8 c3] 152)) (Nat.ne_of_lt (Nat.lt_succ_self _)); (try have hzc2_0 := bx_cell hZ2 0 _ rfl); (try have hzf2_0 := bx_frozen hZ2 0); (try have hzc2_1 := bx_cell hZ2 1 _ rfl); (try have hzf2_1 := bx_frozen hZ2 1); (try have hzc2_2 := bx_cell hZ2 2 _ rfl); (try have hzf2_2 := bx_frozen hZ2 2); clear ho4 hg4 hn4 own_ hbw hbv) | (have hbv : Below x0.heap.size x0 ((x0.alloc (.cells #[.slice o3 8 c3] 152)).alloc (.cells #[.int .i64 0, .slice none 0 0, .slice none 0 0] 41)) := (((Below.refl x0.heap.size x0).alloc (Nat.le_refl _) (.cells #[.slice o3 8 c3] 152)).alloc (by simp) (.cells #[.int .i64 0, .slice none 0 0, .slice none 0 0] 41)); have own_ : ownL layH 152 ((x0.alloc (.cells #[.slice o3 8 c3] 152)).alloc (.cells #[.int .i64 0, .slice none 0 0, .slice none 0 0] 41)) wr.heap.size (.slice (some ⟨x0.heap.size, 0, none⟩) 1 1) [(o3, 8, c3)] := own_mono (World.ownsRow.alloc (one_own x0 o3 8 c3 _) (.cells #[.int .i64 0, .slice none 0 0, .slice none 0 0] 41)) (by (try simp) <;> omega); have hbw : Below w.heap.size w ((x0.alloc (.cells #[.slice o3 8 c3] 152)).alloc (.cells #[.int .i64 0, .slice none 0 0, .slice none 0 0] 41)) := HBt2.out.trans ((hp0.mono HBt2.out.size).trans (hbv.mono (Nat.le_trans HBt2.out.size sp0))); refine step_append_lay appHT rfl (.tmp 90) (.tmp 92) rfl wr.heap.size (.slice (some ⟨x0.heap.size, 0, none⟩) 1 1) [(o3, 8, c3)] rfl own_ oR cR w.heap.size hsR hsR.length rfl rfl hnR (HRH.out.kept (hp0.trans (hbv.mono sp0)) HBt2.out.size) (by simp; omega) (by simp; omega) ?_; intro v4 x1 ho4 hg4 hn4; have hr4 := ring_app own_ (own_kept ow3 hbv) (tb3.kept hbv) ho4 hg4; obtain ⟨g4, c4, e4⟩ := RingO.isSome hr4; subst e4; have hp1 : Below wr.heap.size wr x1 := (hp0.trans (hbv.mono sp0)).grown hg4 (by (try simp) <;> omega) (fun k h => (own_.lt k h).1); have sp1 := hp1.size; have k1_0 := bC hp1 z0_wrt hzW; have k1_1 := bC hp1 z2_wrt hzW; have hZ3 := box_far hg4 (box_new2 x0 #[.int .i64 0, .slice none 0 0, .slice none 0 0] 41 (.cells #[.slice o3 8 c3] 152)) (Nat.ne_of_gt (Nat.lt_succ_self _)); (try have hzc3_0 := bx_cell hZ3 0 _ rfl); (try have hzf3_0 := bx_frozen hZ3 0); (try have hzc3_1 := bx_cell hZ3 1 _ rfl); (try have hzf3_1 := bx_frozen hZ3 1); (try have hzc3_2 := bx_cell hZ3 2 _ rfl); (try have hzf3_2 := bx_frozen hZ3 2); clear ho4 hg4 hn4 own_ hbw hbv))
     all_goals (go_wp2_with fail; go_meet)
     all_goals first
      | with_reducible exact finP hZ1 hp1 (by omega) hr4
      | with_reducible exact finP hZ2 hp1 (by omega) hr4
      | with_reducible exact finP hZ3 hp1 (by omega) hr4
      | with_reducible exact finPn hp1 hr4
    case rest =>
    obtain ⟨B, v', rfl, Hbx, Hbl, hB1, hB2, Hr⟩ := hcut
    obtain ⟨g4, c4, e4⟩ := RingO.isSome Hr.out
    subst e4
    have hcap4 := RingO.cap Hr.out
    have hqz := ZQ
    have hqz2 : w.heap.size + 1 + 1 < wr.heap.size := by omega
    have hwc := Hbl.out.size
    have qc0 := bC Hbl.out q0_wrt hqz2
    have fqc0 := bF Hbl.out (bF HBt.out FQ0 ZQ) hqz2
    have bc0 := bx_cell Hbx.out 0 _ rfl
    have fbc0 := bx_frozen Hbx.out 0
    have qc1 := bC Hbl.out q1_wrt hqz2
    have fqc1 := bF Hbl.out (bF HBt.out FQ1 ZQ) hqz2
    have bc1 := bx_cell Hbx.out 1 _ rfl
    have fbc1 := bx_frozen Hbx.out 1
    have qc2 := bC Hbl.out q2_wrt hqz2
    have fqc2 := bF Hbl.out (bF HBt.out FQ2 ZQ) hqz2
    have bc2 := bx_cell Hbx.out 2 _ rfl
    have fbc2 := bx_frozen Hbx.out 2
    clear z0_wrt z2_wrt q0_wrt q1_wrt q2_wrt
    have HOw := hide (own_kept HOt.out Hbl.out)
    have HBw : Hid (Below w.heap.size w wc) := HBt2.out.trans (Hbl.out.mono HBt2.out.size)
    have hne1 : B ≠ w.heap.size + 1 + 1 := by omega
    have hne2 : w.heap.size + 1 + 1 ≠ B := by omega
    by_cases h4 : hsR.length = 3
    ·skip
     have h4' : (hsR.length : Int) = 3 := by omega
     have h41 : 3 ≤ c4 := by omega
     obtain ⟨W5, hW5⟩ : ∃ W, wc.setCell ⟨B, 2, none⟩ (.slice (some ⟨g4, 0, none⟩) 3 c4) = W := ⟨_, rfl⟩
     have hW5b : W5.heap[B]? = some (.cells #[.int .i64 key, .slice o2 m.length c2, .slice (some ⟨g4, 0, none⟩) 3 c4] 41 (0, 0)) := by rw [← hW5]; exact box_put Hbx.out 2 _
     have b50 := bx_cell hW5b 0 _ rfl
     have q50 : W5.cell? ⟨w.heap.size + 1 + 1, 0, none⟩ = some (.int .i64 0) := by rw [← hW5]; exact (cell_far hne2).trans qc0
     have fq50 : W5.frozen? ⟨w.heap.size + 1 + 1, 0, none⟩ = false := by rw [← hW5]; exact (frozen_far hne2).trans fqc0
     have b51 := bx_cell hW5b 1 _ rfl
     have q51 : W5.cell? ⟨w.heap.size + 1 + 1, 1, none⟩ = some (.slice none 0 0) := by rw [← hW5]; exact (cell_far hne2).trans qc1
     have fq51 : W5.frozen? ⟨w.heap.size + 1 + 1, 1, none⟩ = false := by rw [← hW5]; exact (frozen_far hne2).trans fqc1
     have b52 := bx_cell hW5b 2 _ rfl
     have q52 : W5.cell? ⟨w.heap.size + 1 + 1, 2, none⟩ = some (.slice none 0 0) := by rw [← hW5]; exact (cell_far hne2).trans qc2
     have fq52 : W5.frozen? ⟨w.heap.size + 1 + 1, 2, none⟩ = false := by rw [← hW5]; exact (frozen_far hne2).trans fqc2
     have HO5 : Hid (ownK W5 W0.heap.size (.slice o2 m.length c2) m) := by rw [← hW5]; exact own_putB HOw.out Hbx.out neP4 2 _
     have HR5 : Hid (RingO W5 wr.heap.size (.slice (some ⟨g4, 0, none⟩) (hsR.length + 1) c4) (fun b => pairI key b m) hsR) := by rw [← hW5]; exact Hr.out.put Hbx.out 2 _
     have HB5 : Hid (Below w.heap.size w W5) := by rw [← hW5]; exact HBw.out.setCell (p := ⟨B, 2, none⟩) (show w.heap.size ≤ B by have := HBt2.out.size; omega) _
     obtain ⟨o3, c3, hs3, rg1, rg2, rg3⟩ := ((HR5.out.low hqz2 0 (.int .i64 key)).low hqz2 1 (.slice o2 m.length c2)).low hqz2 2 (.slice (some ⟨g4, 0, none⟩) 3 c4)
     have HG1 := hide rg1
     have HG2 := hide rg2
     have HG3 := hide rg3
     clear rg1 rg2 rg3
     go_wp2
     refine bodyPost_ret (v := .tuple #[plv key (.slice o2 m.length c2) (.slice (some ⟨g4, 0, none⟩) 3 c4), .bool true]) (by simp [results, Tryz.results103, go_sem, q50, q51, q52]) rfl ?_
     unfold DoPost
     refine ⟨o2, c2, some ⟨g4, 0, none⟩, 3, c4, o3, c3, hs3, rfl, ?_, ?_, ?_, own_mono HG2.out (by omega), Tab.mono HG3.out (by omega), ?_⟩
     ·simp; omega
     ·exact own_mono (own_low (own_low (own_low HO5.out ZQ 0 _) ZQ 1 _) ZQ 2 _) hW0s
     ·exact own_mono (own_head3 HG1.out (by simp; omega)) (by omega)
     ·exact ((HB5.out.setCell (p := ⟨w.heap.size + 1 + 1, 0, none⟩) (by (try simp) <;> omega) _).setCell (p := ⟨w.heap.size + 1 + 1, 1, none⟩) (by (try simp) <;> omega) _).setCell (p := ⟨w.heap.size + 1 + 1, 2, none⟩) (by (try simp) <;> omega) _
    ·skip
     have h4' : ¬ ((hsR.length : Int) + 1 > 3) := by omega
     have h4d : decide (3 < (hsR.length : Int) + 1) = false := decide_eq_false (by omega)
     obtain ⟨o3, c3, hs3, rg1, rg2, rg3⟩ := ((Hr.out.low hqz2 0 (.int .i64 key)).low hqz2 1 (.slice o2 m.length c2)).low hqz2 2 (.slice (some ⟨g4, 0, none⟩) (hsR.length + 1) c4)
     have HG1 := hide rg1
     have HG2 := hide rg2
     have HG3 := hide rg3
     clear rg1 rg2 rg3
     go_wp2
     refine bodyPost_ret (v := .tuple #[plv key (.slice o2 m.length c2) (.slice (some ⟨g4, 0, none⟩) (hsR.length + 1) c4), .bool true]) (by simp [results, Tryz.results103, go_sem, qc0, qc1, qc2, hne1, hne2]) rfl ?_
     unfold DoPost
     refine ⟨o2, c2, some ⟨g4, 0, none⟩, (hsR.length + 1), c4, o3, c3, hs3, rfl, ?_, ?_, ?_, own_mono HG2.out (by omega), Tab.mono HG3.out (by omega), ?_⟩
     ·simp; omega
     ·exact own_mono (own_low (own_low (own_low HOw.out ZQ 0 _) ZQ 1 _) ZQ 2 _) hW0s
     ·have e : ((o3, 8, c3) :: hsR).take 3 = (o3, 8, c3) :: hsR := List.take_of_length_le (by simp; omega)
      rw [e]
      exact own_mono HG1.out (by omega)
     ·exact ((HBw.out.setCell (p := ⟨w.heap.size + 1 + 1, 0, none⟩) (by (try simp) <;> omega) _).setCell (p := ⟨w.heap.size + 1 + 1, 1, none⟩) (by (try simp) <;> omega) _).setCell (p := ⟨w.heap.size + 1 + 1, 2, none⟩) (by (try simp) <;> omega) _
   | false =>
    have := hput rfl
    simp [hk0] at this

end Go.Proofs.YtajfkcpifnpkeaaGreat

