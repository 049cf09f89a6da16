/- The model's way with a command to a pool. -/
import Derived.Deep.RegionHeld3
import Derived.Deep.CutRange
import Derived.Test.YtmmhgkkcpjhiiaaDoorQPoolText06
import Derived.Test.YtmmhgkkcpjhiiaaDoorQPoolText07
import Derived.Test.YtmmhgkkcpjhiiaaDoorQPoolText08
import Derived.Test.YtmmhgkkcpjhiiaaDoorQPoolText17
import Derived.Test.YtmmhgkkcpjhiiaaDoorQPoolText18
import Derived.Test.YtmmhgkkcpjhiiaaDoorQPoolText20
namespace Go.Proofs.YtmmhgkkcpjhiiaaDoor
open Go.ChangeShapes Go.WideShapes Go.ChangeAt Go.RowKit Go.Joins
set_option linter.unusedVariables false
set_option linter.unusedSimpArgs false

theorem bC {C b j : Nat} {w w' : World} {u : Value} (h : Below C w w') (hc : w.cell? ⟨b, j, none⟩ = some u) (hz : b < C) : w'.cell? ⟨b, j, none⟩ = some u := (h.cell (p := ⟨b, j, none⟩) hz).trans hc
theorem bF {C b j : Nat} {w w' : World} (h : Below C w w') (hc : w.frozen? ⟨b, j, none⟩ = false) (hz : b < C) : w'.frozen? ⟨b, j, none⟩ = false := (h.frozen (p := ⟨b, j, none⟩) hz).trans hc
abbrev plv (k : Int) (vb vr : Value) : Value := .agg #[.int .i64 k, vb, vr]
/-- Heads of tables, and how the tables read. -/
def RdTabs (C : Nat) (w : World) (hs : List Hd) (R : List (List (List Int))) : Prop := hs.length = R.length ∧ ∀ i, i < R.length → (hs.getD i (none, 0, 0)).2.1 = (R.getD i []).length ∧ RdLL C w (hs.getD i (none, 0, 0)).1 (R.getD i [])
def RdRing (C : Nat) (w : World) (o : Option Addr) (R : List (List (List Int))) : Prop := ∃ hs : List Hd, RdL layH C w o hs ∧ RdTabs C w hs R
theorem RdTabs.kept {C D : Nat} {w w' : World} {hs : List Hd} {R : List (List (List Int))} (h : RdTabs C w hs R) (hb : Below D w w') (hc : C ≤ D) : RdTabs C w' hs R := ⟨h.1, fun i hi => ⟨(h.2 i hi).1, (h.2 i hi).2.kept hb hc⟩⟩
theorem RdTabs.le {C D : Nat} {w : World} {hs : List Hd} {R : List (List (List Int))} (h : RdTabs C w hs R) (hc : C ≤ D) : RdTabs D w hs R := ⟨h.1, fun i hi => ⟨(h.2 i hi).1, (h.2 i hi).2.le hc⟩⟩
theorem RdRing.kept {C D : Nat} {w w' : World} {o : Option Addr} {R : List (List (List Int))} (h : RdRing C w o R) (hb : Below D w w') (hc : C ≤ D) : RdRing C w' o R := by
 obtain ⟨hs, h1, h2⟩ := h
 exact ⟨hs, h1.kept hb hc, h2.kept hb hc⟩
theorem RdRing.le {C D : Nat} {w : World} {o : Option Addr} {R : List (List (List Int))} (h : RdRing C w o R) (hc : C ≤ D) : RdRing D w o R := by
 obtain ⟨hs, h1, h2⟩ := h
 exact ⟨hs, h1.le hc, h2.le hc⟩
theorem RdTabs.cons {C : Nat} {w : World} {o : Option Addr} {n c : Nat} {hs : List Hd} {T : List (List Int)} {R : List (List (List Int))} (hn : n = T.length) (h0 : RdLL C w o T) (h : RdTabs C w hs R) : RdTabs C w ((o, n, c) :: hs) (T :: R) :=
 ⟨by simp [h.1], fun i hi => by
  cases i with
  | zero => exact ⟨hn, h0⟩
  | succ i => simpa using h.2 i (by simpa using hi)⟩
theorem RdTabs.take {C : Nat} {w : World} {hs : List Hd} {R : List (List (List Int))} (n : Nat) (h : RdTabs C w hs R) : RdTabs C w (hs.take n) (R.take n) :=
 ⟨by simp [h.1], fun i hi => by
  have h1 : i < n := by simp at hi; omega
  have h2 : i < R.length := by simp at hi; omega
  have e1 : (hs.take n).getD i (none, 0, 0) = hs.getD i (none, 0, 0) := by simp [List.getD_eq_getElem?_getD, List.getElem?_take, h1]
  have e2 : (R.take n).getD i [] = R.getD i [] := by simp [List.getD_eq_getElem?_getD, List.getElem?_take, h1]
  rw [e1, e2]; exact h.2 i h2⟩
theorem rdH_take {C : Nat} {w : World} {b off : Nat} {hs : List Hd} (n : Nat) (h : RdL layH C w (some ⟨b, off, none⟩) hs) : RdL layH C w (some ⟨b, off, none⟩) (hs.take n) := by
 rcases h with h | ⟨b', off', ho, hlt, r⟩
 ·left; rw [h]; simp
 ·refine .inr ⟨b', off', ho, hlt, fun i hi j hj => ?_⟩
  have h1 : i < n := by simp at hi; omega
  have h2 : i < hs.length := by simp at hi; omega
  rw [r i h2 j hj]
  simp [List.getD_eq_getElem?_getD, List.getElem?_take, h1]
theorem infoIntSS : (Tryd.prog.info? 71).map (fun i => (i.zero, i.size, i.bytes)) = some (some (.slice none 0 0), 1, 24) := by kernel_rfl
/-- A box and a row of the call's own are not in one block, where their types differ. -/
theorem own_box {w : World} {base s n : Nat} {e T : TypeId} {v : Value} {xs : List Value} {B : Nat} {c : Array Value} (h : w.ownsRow base e s v n xs) (hB : w.heap[B]? = some (.cells c T (0, 0))) (he : e ≠ T) : v.ownBlock = none ∨ v.ownBlock ≠ some B := by
 rcases h.2 with ⟨h1, h2⟩ | ⟨g, cap, cur, h1, hb, hc, _⟩
 ·left; rw [h1]; rfl
 ·right
  rw [h1]
  intro e'
  simp [Value.ownBlock] at e'
  subst e'
  rw [hc] at hB
  simp at hB
  exact he hB.2
theorem grown_set (w : World) (B j : Nat) (u : Value) : w.grownBy (w.setCell ⟨B, j, none⟩ u) (some B) :=
 ⟨rfl, rfl, rfl, by simp [World.setCell], fun k hk hne => Below.heap_setCell w ⟨B, j, none⟩ u k (fun e => hne (by rw [e]))⟩
theorem box_put {W : World} {B : Nat} {c : Array Value} {T : TypeId} (h : W.heap[B]? = some (.cells c T (0, 0))) (j : Nat) (u : Value) : (W.setCell ⟨B, j, none⟩ u).heap[B]? = some (.cells (c.setIfInBounds j u) T (0, 0)) := by
 simp [World.setCell, Array.getElem?_modify, h]
theorem bx_cell {W : World} {B : Nat} {c : Array Value} {t : TypeId} (h : W.heap[B]? = some (.cells c t (0, 0))) (j : Nat) (u : Value) (hj : c[j]? = some u) : W.cell? ⟨B, j, none⟩ = some u := by
 simp [World.cell?, h, hj]
theorem bx_frozen {W : World} {B : Nat} {c : Array Value} {t : TypeId} (h : W.heap[B]? = some (.cells c t (0, 0))) (j : Nat) : W.frozen? ⟨B, j, none⟩ = false := by
 simp [World.frozen?, h]
/-- The ring's row and the newest table's, of the call's own. -/
def RingO (w : World) (base : Nat) (v : Value) (T : Nat → List Int) (hsR : List Hd) : Prop := ∃ o3 c3 hs3, ownL layH 71 w base v ((o3, 8, c3) :: hsR) ∧ ownL layH 72 w base (.slice o3 8 c3) hs3 ∧ Tab T 8 w base hs3
theorem neP1 : (71 : TypeId) ≠ 49 := by decide
theorem neP2 : (72 : TypeId) ≠ 49 := by decide
theorem neP3 : (3 : TypeId) ≠ 49 := by decide
theorem neT1 : (72 : TypeId) ≠ 71 := by decide
theorem neT2 : (3 : TypeId) ≠ 71 := by decide
theorem own_putB {w : World} {base s n : Nat} {e : TypeId} {v : Value} {xs : List Value} {B : Nat} {c : Array Value} (h : w.ownsRow base e s v n xs) (hB : w.heap[B]? = some (.cells c 49 (0, 0))) (he : e ≠ 49) (j : Nat) (u : Value) : (w.setCell ⟨B, j, none⟩ u).ownsRow base e s v n xs :=
 World.ownsRow.kept h (grown_set w B j u) (own_box h hB he)
theorem own_low {w : World} {base s n : Nat} {e : TypeId} {v : Value} {xs : List Value} {B : Nat} (h : w.ownsRow base e s v n xs) (hB : B < base) (j : Nat) (u : Value) : (w.setCell ⟨B, j, none⟩ u).ownsRow base e s v n xs :=
 World.ownsRow.kept h (grown_set w B j u) (by
  cases hob : v.ownBlock with
  | none => exact .inl rfl
  | some b => exact .inr (fun e => by have := (h.lt b hob).1; injection e with e; omega))
theorem RingO.put {w : World} {base : Nat} {v : Value} {T : Nat → List Int} {hsR : List Hd} {B : Nat} {c : Array Value} (h : RingO w base v T hsR) (hB : w.heap[B]? = some (.cells c 49 (0, 0))) (j : Nat) (u : Value) : RingO (w.setCell ⟨B, j, none⟩ u) base v T hsR := by
 obtain ⟨o3, c3, hs3, h1, h2, h3⟩ := h
 exact ⟨o3, c3, hs3, own_putB h1 hB neP1 j u, own_putB h2 hB neP2 j u, h3.grown (grown_set w B j u) (fun i hi => own_box (h3.row i hi) hB neP3)⟩
theorem RingO.alloc {w : World} {base : Nat} {v : Value} {T : Nat → List Int} {hsR : List Hd} (h : RingO w base v T hsR) (o : Obj) : RingO (w.alloc o) base v T hsR := by
 obtain ⟨o3, c3, hs3, h1, h2, h3⟩ := h
 exact ⟨o3, c3, hs3, World.ownsRow.alloc h1 o, World.ownsRow.alloc h2 o, h3.kept ((Below.refl _ _).alloc (Nat.le_refl _) _)⟩
theorem RingO.rd {w : World} {base n c : Nat} {g : Nat} {T : Nat → List Int} {hsR : List Hd} {R : List (List (List Int))} {C : Nat} (h : RingO w base (.slice (some ⟨g, 0, none⟩) n c) T hsR) (ht : RdTabs C w hsR R) (hC : C ≤ w.heap.size) (q : Nat) : RdRing w.heap.size w (some ⟨g, 0, none⟩) ((rowsOf T 8 :: R).take q) := by
 obtain ⟨o3, c3, hs3, h1, h2, h3⟩ := h
 exact ⟨_, rdH_take q (ownL.rds h1), (RdTabs.cons (c := c3) (by rw [rowsOf_length]) (h3.rd h2) (ht.le hC)).take q⟩
theorem RingO.isSome {w : World} {base : Nat} {v : Value} {T : Nat → List Int} {hsR : List Hd} (h : RingO w base v T hsR) : ∃ g c, v = .slice (some ⟨g, 0, none⟩) (hsR.length + 1) c := by
 obtain ⟨o3, c3, hs3, h1, h2, h3⟩ := h
 obtain ⟨g, c, e⟩ := own_someH h1 (by simp)
 exact ⟨g, c, by rw [e]; simp⟩
theorem Tab.mono {R : Nat → List Int} {k : Nat} {w : World} {base b2 : Nat} {hs : List Hd} (h : Tab R k w base hs) (hb : b2 ≤ base) : Tab R k w b2 hs := ⟨h.len, fun i hi => own_mono (h.row i hi) hb, h.apart⟩
abbrev setP (W : World) (B : Nat) (a b c : Value) : World := ((W.setCell ⟨B, 0, none⟩ a).setCell ⟨B, 1, none⟩ b).setCell ⟨B, 2, none⟩ c
theorem box_old2 (w : World) (c : Array Value) (T : TypeId) (ob : Obj) : ((w.alloc (.cells c T)).alloc ob).heap[w.heap.size]? = some (.cells c T (0, 0)) := (Below.heap_alloc _ _ _ (by simp)).trans (World.alloc_heap_new w _)
theorem box_new2 (w : World) (c : Array Value) (T : TypeId) (ob : Obj) : ((w.alloc ob).alloc (.cells c T)).heap[w.heap.size + 1]? = some (.cells c T (0, 0)) := by
 have h := World.alloc_heap_new (w.alloc ob) (.cells c T)
 rw [World.size_alloc] at h
 exact h
theorem RingO.cap {w : World} {base n c : Nat} {g : Nat} {T : Nat → List Int} {hsR : List Hd} (h : RingO w base (.slice (some ⟨g, 0, none⟩) n c) T hsR) : n ≤ c := by
 obtain ⟨o3, c3, hs3, h1, h2, h3⟩ := h
 rcases h1.2 with ⟨e, _⟩ | ⟨g', cap, cur, e, hb, hc, h4, h5, h6, h7⟩
 ·cases e
 ·injection e with e1 e2 e3
  rw [e2, e3]
  exact h4
theorem cell_far {w : World} {B b j q : Nat} {u : Value} (h : b ≠ B) : (w.setCell ⟨B, q, none⟩ u).cell? ⟨b, j, none⟩ = w.cell? ⟨b, j, none⟩ := by
 simp only [World.cell?, Below.heap_setCell w ⟨B, q, none⟩ u b h]
theorem RingO.mono {w : World} {base b2 : Nat} {v : Value} {T : Nat → List Int} {hsR : List Hd} (h : RingO w base v T hsR) (hb : b2 ≤ base) : RingO w b2 v T hsR := by
 obtain ⟨o3, c3, hs3, h1, h2, h3⟩ := h
 exact ⟨o3, c3, hs3, own_mono h1 hb, own_mono h2 hb, Tab.mono h3 hb⟩
end Go.Proofs.YtmmhgkkcpjhiiaaDoor

