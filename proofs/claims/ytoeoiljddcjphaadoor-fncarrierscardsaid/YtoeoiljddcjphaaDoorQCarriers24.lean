/- Several texts in one: SDrC, SCBytes, SDrC2. -/
import Derived.Deep.RegionLaw
import Derived.Test.YtoeoiljddcjphaaDoorQCarriers08
import Derived.Test.YtoeoiljddcjphaaDoorQCarriers23
import Derived.Test.YtoeoiljddcjphaaDoorQCarriers10
/- A drawn carrier: it may be; its rows are its own. -/
namespace Go.Proofs.YtoeoiljddcjphaaDoor
open Go.ChangeShapes Go.WideShapes Go.ChangeAt Go.RowKit Go.Joins
set_option linter.unusedVariables false
set_option linter.unusedSimpArgs false


theorem routeR_zeros (op : Bool) (tl : List (Int × Int)) : ∀ (g : List (Int × Int)), (∀ p ∈ g, (0 ≤ p.1 ∧ p.1 < 4) ∧ p.2 = 0) → routeR op 0 (g ++ tl) = routeR op 0 tl
 | [], _ => rfl
 | p :: g, h => by
  have hp := h p (by simp)
  have ih := routeR_zeros op tl g (fun q hq => h q (List.mem_cons_of_mem _ hq))
  rw [List.cons_append, routeR, hp.2, ih]
  have : segOkB p.1 0 = true := segOkB_iff.2 ⟨hp.1.1, by omega, by omega, by omega⟩
  rw [this]
  simp
theorem routeR_two {op : Bool} (hop : op = true) {x y : Int} (hx : 0 ≤ x ∧ x < 4) (hy : 0 ≤ y ∧ y < 4) : routeR op 0 [(x, 1), (y, 1)] = true := by
 have h1 : segOkB x 1 = true := segOkB_iff.2 ⟨hx.1, by omega, by omega, by omega⟩
 have h2 : segOkB y 1 = true := segOkB_iff.2 ⟨hy.1, by omega, by omega, by omega⟩
 simp [routeR, h1, h2, hop]
theorem drawnP_ok {a b f s : Int} {n : Nat} (h : drawnP a b f s) (hn : n ≤ 4) : packetOkB a b f s n = true := by
 obtain ⟨h1, h2, h3, h4, h5⟩ := h
 refine packetOkB_iff.2 ⟨flowOkB_iff.2 (by omega), ?_, ?_, h4, by omega, by omega, ?_⟩
 all_goals (simp at h3; rcases h3 with h | h | h | h | h <;> subst h <;> decide +kernel)

/-- What is kept while a carrier is drawn: its rows, the cursor, and that nothing else has turned. -/
structure D2 (k : Nat) (w0 W : World) (v : Value) (L : List Int) (vg : Value) (g : List (Int × Int)) : Prop where
 row : ownB W w0.heap.size v L
 seg : ownL layG 62 W w0.heap.size vg g
 cur : isCur k W
 gr : w0.grownBy W (some k)
theorem own_ne {w : World} {base k n size : Nat} {e : TypeId} {v : Value} {xs : List Value} (h : w.ownsRow base e size v n xs) (hk : k < base) : v.ownBlock = none ∨ v.ownBlock ≠ some k := by
 cases hob : v.ownBlock with
 | none => exact .inl rfl
 | some j => right; have := (h.lt j hob).1; intro e; simp at e; omega
theorem box_lt {W : World} {P : Nat} {X : Obj} (h : W.heap[P]? = some X) : P < W.heap.size := (Array.getElem?_eq_some_iff.1 h).1
theorem box_gr {k P : Nat} {W W' : World} {X : Obj} (h : W.heap[P]? = some X) (hg : W.grownBy W' (some k)) (hne : P ≠ k) : W'.heap[P]? = some X := (hg.block P (box_lt h) (by simp [hne])).trans h
theorem box_al {P : Nat} {W : World} {X : Obj} (h : W.heap[P]? = some X) (O : Obj) : (W.alloc O).heap[P]? = some X := (Below.heap_alloc W O P (box_lt h)).trans h
theorem box_no {W : World} {B : Nat} {c : Array Value} {t e : TypeId} {z : Nat × Nat} (h : W.heap[B]? = some (.cells c t z)) (hte : t ≠ e) {base size k : Nat} {v : Value} {xs : List Value} (hr : W.ownsRow base e size v k xs) : some B ≠ v.ownBlock := by
 rcases hr.2 with ⟨rfl, _⟩ | ⟨g, cap, cur, rfl, _, hgb, _⟩
 ·simp [Value.ownBlock]
 ·intro e'
  obtain rfl : B = g := by simpa [Value.ownBlock] using e'
  rw [hgb] at h
  injection h with h
  injection h with _ h _
  exact hte h.symm
theorem D2.call {k : Nat} {w0 W W' : World} {v vg : Value} {L : List Int} {g : List (Int × Int)} (h : D2 k w0 W v L vg g) (hg : W.grownBy W' (some k)) (hc : isCur k W') (hk : k < w0.heap.size) : D2 k w0 W' v L vg g :=
 ⟨World.ownsRow.kept h.row hg (own_ne h.row hk), World.ownsRow.kept h.seg hg (own_ne h.seg hk), hc, grownBy_then h.gr hg⟩
theorem D2.alloc {k : Nat} {w0 W : World} {v vg : Value} {L : List Int} {g : List (Int × Int)} (h : D2 k w0 W v L vg g) (hk : k < w0.heap.size) (O : Obj) : D2 k w0 (W.alloc O) v L vg g :=
 h.call (grown_alloc W O k) (h.cur.alloc (Nat.lt_of_lt_of_le hk h.gr.size) O) hk
theorem D2.drew {k : Nat} {w0 W : World} {v vg : Value} {L : List Int} {g : List (Int × Int)} (h : D2 k w0 W v L vg g) : D2 k w0 W.drew v L vg g :=
 ⟨h.row, h.seg, h.cur.drew, ⟨h.gr.os, h.gr.tape, h.gr.output, h.gr.size, h.gr.block⟩⟩
/-- A store into a box of another type. -/
theorem D2.set {k P : Nat} {w0 W : World} {v vg : Value} {L : List Int} {g : List (Int × Int)} {cs : Array Value} (h : D2 k w0 W v L vg g) (hb : W.heap[P]? = some (.cells cs 29 (0, 0))) (hk : k < w0.heap.size) (hP : w0.heap.size ≤ P) (j : Nat) (u : Value) :
  D2 k w0 (W.setCell ⟨P, j, none⟩ u) v L vg g ∧ (W.setCell ⟨P, j, none⟩ u).heap[P]? = some (.cells (cs.setIfInBounds j u) 29 (0, 0)) := by
 have hbl : Below P W (W.setCell ⟨P, j, none⟩ u) := put_at (Below.refl P W) j u
 refine ⟨⟨own_set h.row P j u (fun b e h' => box_no hb (by decide) h.row (by rw [e, h'])), own_set h.seg P j u (fun b e h' => box_no hb (by decide) h.seg (by rw [e, h'])), h.cur.below (hbl.mono (by omega)), grown_below h.gr hbl hP⟩, box_set W P j cs _ u hb⟩
/-- The segs' row has grown. -/
theorem D2.app {k P : Nat} {w0 W W2 : World} {v vg vg' : Value} {L : List Int} {g g' : List (Int × Int)} {cs : Array Value} (h : D2 k w0 W v L vg g) (hb : W.heap[P]? = some (.cells cs 29 (0, 0))) (hk : k < w0.heap.size) (ho : ownL layG 62 W2 w0.heap.size vg' g') (hg : W.grownBy W2 vg.ownBlock) :
  D2 k w0 W2 v L vg' g' ∧ W2.heap[P]? = some (.cells cs 29 (0, 0)) := by
 have hbl : Below w0.heap.size W W2 := (Below.refl _ _).grown hg h.gr.size (fun q e => (h.seg.lt q e).1)
 exact ⟨⟨World.ownsRow.kept h.row hg (own_apart0 h.row h.seg (by decide)), ho, h.cur.below (hbl.mono hk), grown_below h.gr hbl (Nat.le_refl _)⟩, (hg.block P (box_lt hb) (box_no hb (by decide) h.seg)).trans hb⟩
theorem rd_seg1 (w : World) (x y : Int) : RdL layG (w.alloc (.cells #[.int .i64 x, .int .i64 y] 62)).heap.size (w.alloc (.cells #[.int .i64 x, .int .i64 y] 62)) (some ⟨w.heap.size, 0, none⟩) [(x, y)] := by
 refine .inr ⟨w.heap.size, 0, rfl, by simp, fun i hi j hj => ?_⟩
 have hi0 : i = 0 := by simpa using hi
 have hj2 : j = 0 ∨ j = 1 := by have : j < 2 := hj; omega
 subst hi0
 rcases hj2 with rfl | rfl <;> simp [layG]
theorem rd_seg2 (w : World) (x y x' y' : Int) : RdL layG (w.alloc (.cells #[.int .i64 x, .int .i64 y, .int .i64 x', .int .i64 y'] 62)).heap.size (w.alloc (.cells #[.int .i64 x, .int .i64 y, .int .i64 x', .int .i64 y'] 62)) (some ⟨w.heap.size, 0, none⟩) [(x, y), (x', y')] := by
 refine .inr ⟨w.heap.size, 0, rfl, by simp, fun i hi j hj => ?_⟩
 have hi0 : i = 0 ∨ i = 1 := by simp at hi; omega
 have hj2 : j = 0 ∨ j = 1 := by have : j < 2 := hj; omega
 rcases hi0 with rfl | rfl <;> rcases hj2 with rfl | rfl <;> simp [layG]
theorem grown_of_b {w w' : World} {r : Option Nat} (hb : Below w.heap.size w w') : w.grownBy w' r := ⟨hb.os, hb.tape, hb.output, hb.size, fun j hj _ => hb.block j hj⟩
theorem drawn_ok {a b f s : Int} {L : List Int} {g : List (Int × Int)} {pl st : Int} (hd : drawnP a b f s) (hL : L.length ≤ 4) (hg1 : 1 ≤ g.length) (hg6 : g.length ≤ 7) (hp0 : 0 ≤ pl) (hp1 : pl < (g.length : Int)) (hs0 : 0 ≤ st) (hs1 : st < 30) (hr : routeR (opens3 f) 0 g = true) : (Cm.mk a b f s L g pl st).ok = true := by
 have h : headB a b f s L.length g.length pl st = true := headB_iff.2 ⟨drawnP_ok hd hL, by omega, by omega, hp0, hp1, hs0, by omega, trivial⟩
 show carrierOkB a b f s L.length g pl st = true
 rw [← carrierOkB_yes h]
 exact hr

def drawnC (w : World) (k : Nat) (e : Ending) (w' : World) : Prop := ∃ (v : Value) (m : Cm), e = .returned v ∧ ownCm w' w.heap.size v m ∧ m.ok = true ∧ isB m.l ∧ m.l.length ≤ 4 ∧ m.g.length ≤ 7 ∧ isCur k w' ∧ w.grownBy w' (some k)
/-- The end: what was drawn goes into the answer's box. -/
theorem D2.ends {k : Nat} {w w0 W : World} {v vg : Value} {L : List Int} {g : List (Int × Int)} (h : D2 k w0 W v L vg g) (hk : k < w.heap.size) (hs : w.heap.size < w0.heap.size) (hg0 : w.grownBy w0 (some k)) {W' : World} (hb : Below w.heap.size W W') (hr : ownB W' w0.heap.size v L) (hq : ownL layG 62 W' w0.heap.size vg g) (a b f s pl st : Int) :
  ownCm W' w.heap.size (crr a b f s v vg pl st) ⟨a, b, f, s, L, g, pl, st⟩ ∧ isCur k W' ∧ w.grownBy W' (some k) :=
 ⟨⟨v, vg, rfl, own_mono hr (Nat.le_of_lt hs), own_mono (ownG_lay.2 hq) (Nat.le_of_lt hs)⟩, h.cur.below (hb.mono hk), grown_below (grownBy_then hg0 h.gr) hb (Nat.le_refl _)⟩
theorem D2.fin {k : Nat} {w w0 W : World} {v vg : Value} {L : List Int} {g : List (Int × Int)} (h : D2 k w0 W v L vg g) (hk : k < w.heap.size) (hs : w.heap.size < w0.heap.size) (hg0 : w.grownBy w0 (some k)) (a b f s pl st : Int) (hok : (Cm.mk a b f s L g pl st).ok = true) (hLb : isB L) (hLn : L.length ≤ 4) (hgn : g.length ≤ 7) {W' : World} (hb : Below w.heap.size W W') (hr : ownB W' w0.heap.size v L) (hq : ownL layG 62 W' w0.heap.size vg g) :
  drawnC w k (.returned (crr a b f s v vg pl st)) W' := by
 obtain ⟨h1, h2, h3⟩ := h.ends hk hs hg0 hb hr hq a b f s pl st
 exact ⟨_, _, rfl, h1, hok, hLb, hLn, hgn, h2, h3⟩

set_option maxRecDepth 100000 in
set_option maxHeartbeats 4000000 in
theorem l2draw_any (k : Nat) (w : World) (hc : isCur k w) (hk : k < w.heap.size) :
  Calls Tryd.prog 39 #[.pointer (some ⟨k, 0, none⟩)] w fun e w' => drawnC w k e w' := by
 have hR0 : (w.alloc (.cells #[.int .i64 0, .int .i64 0, .int .i64 0, .int .i64 0, .slice none 0 0, .slice none 0 0, .int .i64 0, .int .i64 0] 29)).heap[w.heap.size]? = some (.cells #[.int .i64 0, .int .i64 0, .int .i64 0, .int .i64 0, .slice none 0 0, .slice none 0 0, .int .i64 0, .int .i64 0] 29 (0, 0)) := World.alloc_heap_new w _
 have hc0 := hc.alloc hk (.cells #[.int .i64 0, .int .i64 0, .int .i64 0, .int .i64 0, .slice none 0 0, .slice none 0 0, .int .i64 0, .int .i64 0] 29)
 have hg0 := grown_alloc w (.cells #[.int .i64 0, .int .i64 0, .int .i64 0, .int .i64 0, .slice none 0 0, .slice none 0 0, .int .i64 0, .int .i64 0] 29) k
 go_enter Tryd.func39, Tryd.ntmps39
 go_wp2_with fail
 generalize hw0 : w.alloc (.cells #[.int .i64 0, .int .i64 0, .int .i64 0, .int .i64 0, .slice none 0 0, .slice none 0 0, .int .i64 0, .int .i64 0] 29) = w0 at *
 have hs0 : w.heap.size < w0.heap.size := by rw [← hw0]; simp
 have hk0 : k < w0.heap.size := by omega
 have hkR : w.heap.size ≠ k := by omega
 clear hw0
 refine (l1drawR_any k _ hc0 hk0).mono ?_
 rintro e w1 ⟨a, b, f, s, v, L, rfl, hdr, hv, hLb, hLn, hc1, hg1⟩
 have HDR := hide hdr
 clear hdr
 have hs1 : w0.heap.size ≤ w1.heap.size := hg1.size
 go_wp2_with fail
 refine (l1Below_any k 30 _ hc1 (by omega) (by omega)).mono ?_
 rintro e w2 ⟨st, rfl, hst0, hst1, hc2, hg2⟩
 have hs2 : w1.heap.size ≤ w2.heap.size := hg2.size
 have d2 : D2 k w0 w2 v L (.slice none 0 0) [] := ⟨own_other hv hg2 hk0, World.ownsRow_nil _ _ _ _, hc2, grownBy_then hg1 hg2⟩
 obtain ⟨ov, cv, hve, _⟩ := hv.open
 subst hve
 have b3 : (w2.alloc (.cells #[.int .i64 a, .int .i64 b, .int .i64 f, .int .i64 s, .slice ov L.length cv, .slice none 0 0, .int .i64 0, .int .i64 st] 29)).heap[w2.heap.size]? = some (.cells #[.int .i64 a, .int .i64 b, .int .i64 f, .int .i64 s, .slice ov L.length cv, .slice none 0 0, .int .i64 0, .int .i64 st] 29 (0, 0)) := World.alloc_heap_new w2 _
 have d3 := d2.alloc hk0 (.cells #[.int .i64 a, .int .i64 b, .int .i64 f, .int .i64 s, .slice ov L.length cv, .slice none 0 0, .int .i64 0, .int .i64 st] 29)
 clear hv hc hc0 hc1 hc2 hg1 hg2 d2
 go_wp2_with fail
 generalize hw3 : w2.alloc (.cells #[.int .i64 a, .int .i64 b, .int .i64 f, .int .i64 s, .slice ov L.length cv, .slice none 0 0, .int .i64 0, .int .i64 st] 29) = w3 at *
 have hs3 : w2.heap.size < w3.heap.size := by rw [← hw3]; simp
 clear hw3
 obtain ⟨P, hPe⟩ : ∃ P, w2.heap.size = P := ⟨_, rfl⟩
 have hP0 : w0.heap.size ≤ P := by omega
 have hPk : P ≠ k := by omega
 rw [hPe] at b3 hs3 ⊢
 clear hPe hs2 hs1
 refine (l1Below_any k 4 _ d3.cur (by omega) (by omega)).mono ?_
 rintro e w4 ⟨n0, rfl, hn0, hn1, hc4, hg4⟩
 obtain ⟨n, rfl⟩ := Int.eq_ofNat_of_zero_le hn0
 have D4 := hide (d3.call hg4 hc4 hk0)
 have B4 := hide (box_gr b3 hg4 hPk)
 have hn4 : n < 4 := by omega
 clear d3 b3 hg4 hc4 hs3 hn0 hn1
 go_wp2
 go_loopw [5] (fun i wr => ∃ (j : Nat) (vg : Value) (g : List (Int × Int)), j ≤ n + 1 ∧ i = .int .i64 j ∧ g.length = j ∧ (∀ p ∈ g, (0 ≤ p.1 ∧ p.1 < 4) ∧ p.2 = 0) ∧ D2 k w0 wr (.slice ov L.length cv) L vg g ∧ wr.heap[P]? = some (.cells #[.int .i64 a, .int .i64 b, .int .i64 f, .int .i64 s, .slice ov L.length cv, vg, .int .i64 0, .int .i64 st] 29 (0, 0)))
  (fun i _ => n + 1 - (intOf i).toNat)
 case atStart => exact ⟨0, _, [], by omega, rfl, rfl, fun p hp => (by cases hp), D4.out, B4.out⟩
 case round =>
  obtain ⟨j, vg, g, hj, rfl, hgj, hg, d, bx⟩ := hrel
  have HJ := hide hgj
  have HG := hide hg
  have hgl : g.length ≤ 5 := by omega
  clear hgj hg D4 B4
  obtain ⟨og, cg, hge, _⟩ := (ownG_lay.2 d.seg).open
  subst hge
  have hsr : w0.heap.size ≤ wr.heap.size := d.gr.size
  by_cases hlt : j < n + 1
  ·have z1 : (j : Int) < 1 + (n : Int) := by omega
   have c5 : wr.cell? ⟨P, 5, none⟩ = some (.slice og g.length cg) := block_cell bx 5 _ rfl
   go_wp2
   go_region_law (first | (go_simp; go_at_call 41; refine (l1Below_any k 4 _ d.drew.cur (by omega) (by omega)).mono ?_; rintro e w7 ⟨x, rfl, hx0, hx1, hc7, hg7⟩; have d7 := d.drew.call hg7 hc7 hk0; have b7 := box_gr (W := wr.drew) bx hg7 hPk; have c7 : w7.cell? ⟨P, 5, none⟩ = some (.slice og g.length cg) := block_cell b7 5 _ rfl; have c7a : ∀ O, (w7.alloc O).cell? ⟨P, 5, none⟩ = some (.slice og g.length cg) := (fun O => block_cell (box_al b7 O) 5 _ rfl); dsimp only) | (refine step_append_lay appG rfl (.tmp 20) (.tmp 24) rfl w0.heap.size (.slice og g.length cg) g rfl (d7.alloc hk0 _).seg (some ⟨w7.heap.size, 0, none⟩) 1 _ [(x, 0)] 1 rfl rfl (fun h => by cases h) (rd_seg1 w7 x 0) (by simp; omega) (d7.alloc hk0 _).gr.size ?_; intro v8 w8 hv8 hg8 _; obtain ⟨o8, k8, e8, _⟩ := (ownG_lay.2 hv8).open; obtain ⟨n8, hn8⟩ : ∃ n, (g ++ [((x : Int), (0 : Int))]).length = n := ⟨_, rfl⟩; rw [hn8] at e8; rw [e8] at hv8 ⊢; clear hn8; obtain ⟨d8, b8⟩ := (d7.alloc hk0 _).app (box_al b7 _) hk0 hv8 hg8; have c8 : w8.cell? ⟨P, 5, none⟩ = some (.slice og g.length cg) := block_cell b8 5 _ rfl; have f8 : w8.frozen? ⟨P, 5, none⟩ = false := block_frozen b8 5))
   all_goals (
    have R := hide (d8.set b8 hk0 hP0 5 (.slice o8 n8 k8))
    have HG2 : Hid (∀ p ∈ g ++ [(x, 0)], (0 ≤ p.1 ∧ p.1 < 4) ∧ p.2 = 0) := by
     intro p hp
     rcases List.mem_append.1 hp with h | h
     ·exact HG.out p h
     ·have : p = (x, 0) := by simpa using h
      subst this
      exact ⟨⟨hx0, hx1⟩, rfl⟩
    have HL2 : Hid ((g ++ [(x, 0)]).length = j + 1) := by unfold Hid; rw [List.length_append, HJ.out]; rfl
    clear hv8 hg8 d8 b8 d7 b7 c7 c7a c5 hc7 hg7 d bx
    generalize g ++ [(x, 0)] = g2 at *
    go_wp2
    go_roundw
    case rel => exact ⟨j + 1, _, g2, by omega, by go_num, HL2.out, HG2.out, R.out.1, R.out.2⟩
    case measure => simp [intOf]; omega)
  ·have z1 : ¬ ((j : Int) < 1 + (n : Int)) := by omega
   have hg1 : 1 ≤ g.length := by have := HJ.out; omega
   have x0 : wr.cell? ⟨P, 0, none⟩ = some (.int .i64 a) := block_cell bx 0 _ rfl
   have x1 : wr.cell? ⟨P, 1, none⟩ = some (.int .i64 b) := block_cell bx 1 _ rfl
   have x2 : wr.cell? ⟨P, 2, none⟩ = some (.int .i64 f) := block_cell bx 2 _ rfl
   have x3 : wr.cell? ⟨P, 3, none⟩ = some (.int .i64 s) := block_cell bx 3 _ rfl
   have x4 : wr.cell? ⟨P, 4, none⟩ = some (.slice ov L.length cv) := block_cell bx 4 _ rfl
   clear HJ
   go_wp2_with fail
   refine (l1opens_any a b f s ov L.length cv wr).mono ?_
   rintro e w5 ⟨rfl, hb5⟩
   have d5 : D2 k w0 w5 (.slice ov L.length cv) L (.slice og g.length cg) g := d.call (grown_of_b hb5) (d.cur.below (hb5.mono (by omega))) hk0
   have b5 := (hb5.block P (box_lt bx)).trans bx
   clear d bx x0 x1 x2 x3 x4 hb5
   cases hop : opens3 f with
   | false =>
    have hgl9 : 1 ≤ g.length ∧ g.length ≤ 7 := ⟨hg1, by omega⟩
    have HLN : Hid (g.length = g.length) := rfl
    obtain ⟨HRT⟩ : Nonempty (Hid (routeR (opens3 f) 0 g = true)) := ⟨by unfold Hid; rw [← List.append_nil g, routeR_zeros _ _ _ HG.out]; rfl⟩
    have c9 : w5.cell? ⟨P, 5, none⟩ = some (.slice og g.length cg) := block_cell b5 5 _ rfl
    go_wp2_with fail
    refine (l1Below_any k (g.length : Int) _ d5.cur (by omega) (by omega)).mono ?_
    rintro e w9 ⟨pl, rfl, hpl0, hpl1, hc9, hg9⟩
    have d9 := d5.call hg9 hc9 hk0
    have b9 := box_gr b5 hg9 hPk
    have f9 : w9.frozen? ⟨P, 6, none⟩ = false := block_frozen b9 6
    have c6 : w9.cell? ⟨P, 6, none⟩ = some (.int .i64 0) := block_cell b9 6 _ rfl
    obtain ⟨dS, bS⟩ := d9.set b9 hk0 hP0 6 (.int .i64 pl)
    have rS := box_gr hR0 dS.gr hkR
    have y0 : (w9.setCell ⟨P, 6, none⟩ (.int .i64 pl)).cell? ⟨P, 0, none⟩ = some (.int .i64 a) := block_cell bS 0 _ rfl
    have y1 : (w9.setCell ⟨P, 6, none⟩ (.int .i64 pl)).cell? ⟨P, 1, none⟩ = some (.int .i64 b) := block_cell bS 1 _ rfl
    have y2 : (w9.setCell ⟨P, 6, none⟩ (.int .i64 pl)).cell? ⟨P, 2, none⟩ = some (.int .i64 f) := block_cell bS 2 _ rfl
    have y3 : (w9.setCell ⟨P, 6, none⟩ (.int .i64 pl)).cell? ⟨P, 3, none⟩ = some (.int .i64 s) := block_cell bS 3 _ rfl
    have y4 : (w9.setCell ⟨P, 6, none⟩ (.int .i64 pl)).cell? ⟨P, 4, none⟩ = some (.slice ov L.length cv) := block_cell bS 4 _ rfl
    have y5 : (w9.setCell ⟨P, 6, none⟩ (.int .i64 pl)).cell? ⟨P, 5, none⟩ = some (.slice og g.length cg) := block_cell bS 5 _ rfl
    have y6 : (w9.setCell ⟨P, 6, none⟩ (.int .i64 pl)).cell? ⟨P, 6, none⟩ = some (.int .i64 pl) := block_cell bS 6 _ rfl
    have y7 : (w9.setCell ⟨P, 6, none⟩ (.int .i64 pl)).cell? ⟨P, 7, none⟩ = some (.int .i64 st) := block_cell bS 7 _ rfl
    have e0 : (w9.setCell ⟨P, 6, none⟩ (.int .i64 pl)).cell? ⟨w.heap.size, 0, none⟩ = some (.int .i64 0) := block_cell rS 0 _ rfl
    have q0 : (w9.setCell ⟨P, 6, none⟩ (.int .i64 pl)).frozen? ⟨w.heap.size, 0, none⟩ = false := block_frozen rS 0
    have e1 : (w9.setCell ⟨P, 6, none⟩ (.int .i64 pl)).cell? ⟨w.heap.size, 1, none⟩ = some (.int .i64 0) := block_cell rS 1 _ rfl
    have q1 : (w9.setCell ⟨P, 6, none⟩ (.int .i64 pl)).frozen? ⟨w.heap.size, 1, none⟩ = false := block_frozen rS 1
    have e2 : (w9.setCell ⟨P, 6, none⟩ (.int .i64 pl)).cell? ⟨w.heap.size, 2, none⟩ = some (.int .i64 0) := block_cell rS 2 _ rfl
    have q2 : (w9.setCell ⟨P, 6, none⟩ (.int .i64 pl)).frozen? ⟨w.heap.size, 2, none⟩ = false := block_frozen rS 2
    have e3 : (w9.setCell ⟨P, 6, none⟩ (.int .i64 pl)).cell? ⟨w.heap.size, 3, none⟩ = some (.int .i64 0) := block_cell rS 3 _ rfl
    have q3 : (w9.setCell ⟨P, 6, none⟩ (.int .i64 pl)).frozen? ⟨w.heap.size, 3, none⟩ = false := block_frozen rS 3
    have e4 : (w9.setCell ⟨P, 6, none⟩ (.int .i64 pl)).cell? ⟨w.heap.size, 4, none⟩ = some (.slice none 0 0) := block_cell rS 4 _ rfl
    have q4 : (w9.setCell ⟨P, 6, none⟩ (.int .i64 pl)).frozen? ⟨w.heap.size, 4, none⟩ = false := block_frozen rS 4
    have e5 : (w9.setCell ⟨P, 6, none⟩ (.int .i64 pl)).cell? ⟨w.heap.size, 5, none⟩ = some (.slice none 0 0) := block_cell rS 5 _ rfl
    have q5 : (w9.setCell ⟨P, 6, none⟩ (.int .i64 pl)).frozen? ⟨w.heap.size, 5, none⟩ = false := block_frozen rS 5
    have e6 : (w9.setCell ⟨P, 6, none⟩ (.int .i64 pl)).cell? ⟨w.heap.size, 6, none⟩ = some (.int .i64 0) := block_cell rS 6 _ rfl
    have q6 : (w9.setCell ⟨P, 6, none⟩ (.int .i64 pl)).frozen? ⟨w.heap.size, 6, none⟩ = false := block_frozen rS 6
    have e7 : (w9.setCell ⟨P, 6, none⟩ (.int .i64 pl)).cell? ⟨w.heap.size, 7, none⟩ = some (.int .i64 0) := block_cell rS 7 _ rfl
    have q7 : (w9.setCell ⟨P, 6, none⟩ (.int .i64 pl)).frozen? ⟨w.heap.size, 7, none⟩ = false := block_frozen rS 7
    have HOK := hide (drawn_ok (L := L) HDR.out hLn (by have := HLN.out; omega) (by have := HLN.out; omega) hpl0 (by have := HLN.out; omega) hst0 hst1 HRT.out)
    have HD := hide dS
    clear HRT d9 b9 hc9 hg9 bS rS dS
    go_wp2
    refine bodyPost_ret (v := crr a b f s (.slice ov L.length cv) (.slice og g.length cg) pl st) (by simp [results, Tryd.results39, go_sem, e0, e1, e2, e3, e4, e5, e6, e7]) rfl ?_
    refine HD.out.fin hk hs0 hg0 a b f s pl st HOK.out hLb hLn (by have := HLN.out; omega) ?zb ?zr ?zq
    case zb => exact (put_at (put_at (put_at (put_at (put_at (put_at (put_at (put_at (Below.refl w.heap.size (w9.setCell ⟨P, 6, none⟩ (.int .i64 pl))) 0 _) 1 _) 2 _) 3 _) 4 _) 5 _) 6 _) 7 _)
    case zr => (repeat (refine ownsRow_setCell_below ?_ hs0 _)); exact HD.out.row
    case zq => (repeat (refine ownsRow_setCell_below ?_ hs0 _)); exact HD.out.seg
   | true =>
    go_wp2_with fail
    refine (l1Once_any k 2 _ d5.cur (by omega) (by omega)).mono ?_
    rintro e w6 ⟨x6, rfl, hc6, hg6⟩
    have d6 := d5.call hg6 hc6 hk0
    have b6 := box_gr b5 hg6 hPk
    clear hc6 hg6 d5 b5
    cases x6 with
    | false =>
     have hgl9 : 1 ≤ g.length ∧ g.length ≤ 7 := ⟨hg1, by omega⟩
     have HLN : Hid (g.length = g.length) := rfl
     obtain ⟨HRT⟩ : Nonempty (Hid (routeR (opens3 f) 0 g = true)) := ⟨by unfold Hid; rw [← List.append_nil g, routeR_zeros _ _ _ HG.out]; rfl⟩
     have c9 : w6.cell? ⟨P, 5, none⟩ = some (.slice og g.length cg) := block_cell b6 5 _ rfl
     go_wp2_with fail
     refine (l1Below_any k (g.length : Int) _ d6.cur (by omega) (by omega)).mono ?_
     rintro e w9 ⟨pl, rfl, hpl0, hpl1, hc9, hg9⟩
     have d9 := d6.call hg9 hc9 hk0
     have b9 := box_gr b6 hg9 hPk
     have f9 : w9.frozen? ⟨P, 6, none⟩ = false := block_frozen b9 6
     have c6 : w9.cell? ⟨P, 6, none⟩ = some (.int .i64 0) := block_cell b9 6 _ rfl
     obtain ⟨dS, bS⟩ := d9.set b9 hk0 hP0 6 (.int .i64 pl)
     have rS := box_gr hR0 dS.gr hkR
     have y0 : (w9.setCell ⟨P, 6, none⟩ (.int .i64 pl)).cell? ⟨P, 0, none⟩ = some (.int .i64 a) := block_cell bS 0 _ rfl
     have y1 : (w9.setCell ⟨P, 6, none⟩ (.int .i64 pl)).cell? ⟨P, 1, none⟩ = some (.int .i64 b) := block_cell bS 1 _ rfl
     have y2 : (w9.setCell ⟨P, 6, none⟩ (.int .i64 pl)).cell? ⟨P, 2, none⟩ = some (.int .i64 f) := block_cell bS 2 _ rfl
     have y3 : (w9.setCell ⟨P, 6, none⟩ (.int .i64 pl)).cell? ⟨P, 3, none⟩ = some (.int .i64 s) := block_cell bS 3 _ rfl
     have y4 : (w9.setCell ⟨P, 6, none⟩ (.int .i64 pl)).cell? ⟨P, 4, none⟩ = some (.slice ov L.length cv) := block_cell bS 4 _ rfl
     have y5 : (w9.setCell ⟨P, 6, none⟩ (.int .i64 pl)).cell? ⟨P, 5, none⟩ = some (.slice og g.length cg) := block_cell bS 5 _ rfl
     have y6 : (w9.setCell ⟨P, 6, none⟩ (.int .i64 pl)).cell? ⟨P, 6, none⟩ = some (.int .i64 pl) := block_cell bS 6 _ rfl
     have y7 : (w9.setCell ⟨P, 6, none⟩ (.int .i64 pl)).cell? ⟨P, 7, none⟩ = some (.int .i64 st) := block_cell bS 7 _ rfl
     have e0 : (w9.setCell ⟨P, 6, none⟩ (.int .i64 pl)).cell? ⟨w.heap.size, 0, none⟩ = some (.int .i64 0) := block_cell rS 0 _ rfl
     have q0 : (w9.setCell ⟨P, 6, none⟩ (.int .i64 pl)).frozen? ⟨w.heap.size, 0, none⟩ = false := block_frozen rS 0
     have e1 : (w9.setCell ⟨P, 6, none⟩ (.int .i64 pl)).cell? ⟨w.heap.size, 1, none⟩ = some (.int .i64 0) := block_cell rS 1 _ rfl
     have q1 : (w9.setCell ⟨P, 6, none⟩ (.int .i64 pl)).frozen? ⟨w.heap.size, 1, none⟩ = false := block_frozen rS 1
     have e2 : (w9.setCell ⟨P, 6, none⟩ (.int .i64 pl)).cell? ⟨w.heap.size, 2, none⟩ = some (.int .i64 0) := block_cell rS 2 _ rfl
     have q2 : (w9.setCell ⟨P, 6, none⟩ (.int .i64 pl)).frozen? ⟨w.heap.size, 2, none⟩ = false := block_frozen rS 2
     have e3 : (w9.setCell ⟨P, 6, none⟩ (.int .i64 pl)).cell? ⟨w.heap.size, 3, none⟩ = some (.int .i64 0) := block_cell rS 3 _ rfl
     have q3 : (w9.setCell ⟨P, 6, none⟩ (.int .i64 pl)).frozen? ⟨w.heap.size, 3, none⟩ = false := block_frozen rS 3
     have e4 : (w9.setCell ⟨P, 6, none⟩ (.int .i64 pl)).cell? ⟨w.heap.size, 4, none⟩ = some (.slice none 0 0) := block_cell rS 4 _ rfl
     have q4 : (w9.setCell ⟨P, 6, none⟩ (.int .i64 pl)).frozen? ⟨w.heap.size, 4, none⟩ = false := block_frozen rS 4
     have e5 : (w9.setCell ⟨P, 6, none⟩ (.int .i64 pl)).cell? ⟨w.heap.size, 5, none⟩ = some (.slice none 0 0) := block_cell rS 5 _ rfl
     have q5 : (w9.setCell ⟨P, 6, none⟩ (.int .i64 pl)).frozen? ⟨w.heap.size, 5, none⟩ = false := block_frozen rS 5
     have e6 : (w9.setCell ⟨P, 6, none⟩ (.int .i64 pl)).cell? ⟨w.heap.size, 6, none⟩ = some (.int .i64 0) := block_cell rS 6 _ rfl
     have q6 : (w9.setCell ⟨P, 6, none⟩ (.int .i64 pl)).frozen? ⟨w.heap.size, 6, none⟩ = false := block_frozen rS 6
     have e7 : (w9.setCell ⟨P, 6, none⟩ (.int .i64 pl)).cell? ⟨w.heap.size, 7, none⟩ = some (.int .i64 0) := block_cell rS 7 _ rfl
     have q7 : (w9.setCell ⟨P, 6, none⟩ (.int .i64 pl)).frozen? ⟨w.heap.size, 7, none⟩ = false := block_frozen rS 7
     have HOK := hide (drawn_ok (L := L) HDR.out hLn (by have := HLN.out; omega) (by have := HLN.out; omega) hpl0 (by have := HLN.out; omega) hst0 hst1 HRT.out)
     have HD := hide dS
     clear HRT d9 b9 hc9 hg9 bS rS dS
     go_wp2
     refine bodyPost_ret (v := crr a b f s (.slice ov L.length cv) (.slice og g.length cg) pl st) (by simp [results, Tryd.results39, go_sem, e0, e1, e2, e3, e4, e5, e6, e7]) rfl ?_
     refine HD.out.fin hk hs0 hg0 a b f s pl st HOK.out hLb hLn (by have := HLN.out; omega) ?zb ?zr ?zq
     case zb => exact (put_at (put_at (put_at (put_at (put_at (put_at (put_at (put_at (Below.refl w.heap.size (w9.setCell ⟨P, 6, none⟩ (.int .i64 pl))) 0 _) 1 _) 2 _) 3 _) 4 _) 5 _) 6 _) 7 _)
     case zr => (repeat (refine ownsRow_setCell_below ?_ hs0 _)); exact HD.out.row
     case zq => (repeat (refine ownsRow_setCell_below ?_ hs0 _)); exact HD.out.seg
    | true =>
     have c6 : w6.cell? ⟨P, 5, none⟩ = some (.slice og g.length cg) := block_cell b6 5 _ rfl
     go_wp2
     go_region_law (first | (go_simp; go_at_call 41; refine (l1Below_any k 4 _ d7.cur (by omega) (by omega)).mono ?_; rintro e w8 ⟨y, rfl, hy0, hy1, hc8, hg8⟩; have d8 := d7.call hg8 hc8 hk0; have b8 := box_gr b7 hg8 hPk; have c8 : w8.cell? ⟨P, 5, none⟩ = some (.slice og g.length cg) := block_cell b8 5 _ rfl; have c8a : ∀ O, (w8.alloc O).cell? ⟨P, 5, none⟩ = some (.slice og g.length cg) := (fun O => block_cell (box_al b8 O) 5 _ rfl); dsimp only) | (refine step_append_lay appG rfl (.tmp 35) (.tmp 42) rfl w0.heap.size (.slice og g.length cg) g rfl (d8.alloc hk0 _).seg (some ⟨w8.heap.size, 0, none⟩) 2 _ [(x, 1), (y, 1)] 2 rfl rfl (fun h => by cases h) (rd_seg2 w8 x 1 y 1) (by simp; omega) (d8.alloc hk0 _).gr.size ?_; intro va wa hva hga _; have HTL : Hid (routeR true 0 [(x, 1), (y, 1)] = true ∧ [((x : Int), (1 : Int)), (y, 1)].length = 2) := (show _ ∧ _ from ⟨routeR_two rfl ⟨hx0, hx1⟩ ⟨hy0, hy1⟩, rfl⟩); obtain ⟨tl, htl⟩ : ∃ tl, [((x : Int), (1 : Int)), (y, 1)] = tl := ⟨_, rfl⟩; rw [htl] at hva HTL; clear htl; obtain ⟨oa, ka, ea, _⟩ := (ownG_lay.2 hva).open; obtain ⟨na, hna⟩ : ∃ n, (g ++ tl).length = n := ⟨_, rfl⟩; have HNA := hide hna; rw [hna] at ea; rw [ea] at hva ⊢; clear hna; obtain ⟨da, ba⟩ := (d8.alloc hk0 _).app (box_al b8 _) hk0 hva hga; have ca : wa.cell? ⟨P, 5, none⟩ = some (.slice og g.length cg) := block_cell ba 5 _ rfl; have fa : wa.frozen? ⟨P, 5, none⟩ = false := block_frozen ba 5) | (refine step_append_lay appG rfl (.tmp 35) (.tmp 42) rfl w0.heap.size (.slice og g.length cg) g rfl (d8.alloc hk0 _).seg (some ⟨w8.heap.size, 0, none⟩) 2 _ [(y, 1), (x, 1)] 2 rfl rfl (fun h => by cases h) (rd_seg2 w8 y 1 x 1) (by simp; omega) (d8.alloc hk0 _).gr.size ?_; intro va wa hva hga _; have HTL : Hid (routeR true 0 [(y, 1), (x, 1)] = true ∧ [((y : Int), (1 : Int)), (x, 1)].length = 2) := (show _ ∧ _ from ⟨routeR_two rfl ⟨hy0, hy1⟩ ⟨hx0, hx1⟩, rfl⟩); obtain ⟨tl, htl⟩ : ∃ tl, [((y : Int), (1 : Int)), (x, 1)] = tl := ⟨_, rfl⟩; rw [htl] at hva HTL; clear htl; obtain ⟨oa, ka, ea, _⟩ := (ownG_lay.2 hva).open; obtain ⟨na, hna⟩ : ∃ n, (g ++ tl).length = n := ⟨_, rfl⟩; have HNA := hide hna; rw [hna] at ea; rw [ea] at hva ⊢; clear hna; obtain ⟨da, ba⟩ := (d8.alloc hk0 _).app (box_al b8 _) hk0 hva hga; have ca : wa.cell? ⟨P, 5, none⟩ = some (.slice og g.length cg) := block_cell ba 5 _ rfl; have fa : wa.frozen? ⟨P, 5, none⟩ = false := block_frozen ba 5) | (go_simp; go_at_call 41; refine (l1Below_any k 4 _ d6.drew.cur (by omega) (by omega)).mono ?_; rintro e w7 ⟨x, rfl, hx0, hx1, hc7, hg7⟩; have d7 := d6.drew.call hg7 hc7 hk0; have b7 := box_gr (W := w6.drew) b6 hg7 hPk; have c7 : w7.cell? ⟨P, 5, none⟩ = some (.slice og g.length cg) := block_cell b7 5 _ rfl; dsimp only))
     all_goals (
      have HG2 : Hid (routeR (opens3 f) 0 (g ++ tl) = true) := by unfold Hid; rw [routeR_zeros _ _ _ HG.out, hop]; exact HTL.out.1
      have HL2 : Hid (1 ≤ na ∧ na ≤ 7) := by have := HTL.out.2; have h9 := HNA.out; rw [List.length_append] at h9; unfold Hid; omega
      obtain ⟨db, bb⟩ := da.set ba hk0 hP0 5 (.slice oa na ka)
      have DB := hide db
      have BB := hide bb
      clear hva hga da ba d8 b8 c8 c8a d7 b7 c7 d6 b6 hc7 hg7 hc8 hg8 db bb hop HG HTL
      generalize g ++ tl = g2 at *
      go_wp2_with fail
      have db := DB.out
      have bb := BB.out
      clear DB BB
      generalize hwb : wa.setCell ⟨P, 5, none⟩ (.slice oa na ka) = wb at *
      clear hwb ca fa c6
      have hgl9 : 1 ≤ na ∧ na ≤ 7 := HL2.out
      have HLN : Hid (g2.length = na) := HNA.out
      obtain ⟨HRT⟩ : Nonempty (Hid (routeR (opens3 f) 0 g2 = true)) := ⟨HG2.out⟩
      refine (l1Below_any k (na : Int) _ db.cur (by omega) (by omega)).mono ?_
      rintro e w9 ⟨pl, rfl, hpl0, hpl1, hc9, hg9⟩
      have d9 := db.call hg9 hc9 hk0
      have b9 := box_gr bb hg9 hPk
      have f9 : w9.frozen? ⟨P, 6, none⟩ = false := block_frozen b9 6
      have c6 : w9.cell? ⟨P, 6, none⟩ = some (.int .i64 0) := block_cell b9 6 _ rfl
      obtain ⟨dS, bS⟩ := d9.set b9 hk0 hP0 6 (.int .i64 pl)
      have rS := box_gr hR0 dS.gr hkR
      have y0 : (w9.setCell ⟨P, 6, none⟩ (.int .i64 pl)).cell? ⟨P, 0, none⟩ = some (.int .i64 a) := block_cell bS 0 _ rfl
      have y1 : (w9.setCell ⟨P, 6, none⟩ (.int .i64 pl)).cell? ⟨P, 1, none⟩ = some (.int .i64 b) := block_cell bS 1 _ rfl
      have y2 : (w9.setCell ⟨P, 6, none⟩ (.int .i64 pl)).cell? ⟨P, 2, none⟩ = some (.int .i64 f) := block_cell bS 2 _ rfl
      have y3 : (w9.setCell ⟨P, 6, none⟩ (.int .i64 pl)).cell? ⟨P, 3, none⟩ = some (.int .i64 s) := block_cell bS 3 _ rfl
      have y4 : (w9.setCell ⟨P, 6, none⟩ (.int .i64 pl)).cell? ⟨P, 4, none⟩ = some (.slice ov L.length cv) := block_cell bS 4 _ rfl
      have y5 : (w9.setCell ⟨P, 6, none⟩ (.int .i64 pl)).cell? ⟨P, 5, none⟩ = some (.slice oa na ka) := block_cell bS 5 _ rfl
      have y6 : (w9.setCell ⟨P, 6, none⟩ (.int .i64 pl)).cell? ⟨P, 6, none⟩ = some (.int .i64 pl) := block_cell bS 6 _ rfl
      have y7 : (w9.setCell ⟨P, 6, none⟩ (.int .i64 pl)).cell? ⟨P, 7, none⟩ = some (.int .i64 st) := block_cell bS 7 _ rfl
      have e0 : (w9.setCell ⟨P, 6, none⟩ (.int .i64 pl)).cell? ⟨w.heap.size, 0, none⟩ = some (.int .i64 0) := block_cell rS 0 _ rfl
      have q0 : (w9.setCell ⟨P, 6, none⟩ (.int .i64 pl)).frozen? ⟨w.heap.size, 0, none⟩ = false := block_frozen rS 0
      have e1 : (w9.setCell ⟨P, 6, none⟩ (.int .i64 pl)).cell? ⟨w.heap.size, 1, none⟩ = some (.int .i64 0) := block_cell rS 1 _ rfl
      have q1 : (w9.setCell ⟨P, 6, none⟩ (.int .i64 pl)).frozen? ⟨w.heap.size, 1, none⟩ = false := block_frozen rS 1
      have e2 : (w9.setCell ⟨P, 6, none⟩ (.int .i64 pl)).cell? ⟨w.heap.size, 2, none⟩ = some (.int .i64 0) := block_cell rS 2 _ rfl
      have q2 : (w9.setCell ⟨P, 6, none⟩ (.int .i64 pl)).frozen? ⟨w.heap.size, 2, none⟩ = false := block_frozen rS 2
      have e3 : (w9.setCell ⟨P, 6, none⟩ (.int .i64 pl)).cell? ⟨w.heap.size, 3, none⟩ = some (.int .i64 0) := block_cell rS 3 _ rfl
      have q3 : (w9.setCell ⟨P, 6, none⟩ (.int .i64 pl)).frozen? ⟨w.heap.size, 3, none⟩ = false := block_frozen rS 3
      have e4 : (w9.setCell ⟨P, 6, none⟩ (.int .i64 pl)).cell? ⟨w.heap.size, 4, none⟩ = some (.slice none 0 0) := block_cell rS 4 _ rfl
      have q4 : (w9.setCell ⟨P, 6, none⟩ (.int .i64 pl)).frozen? ⟨w.heap.size, 4, none⟩ = false := block_frozen rS 4
      have e5 : (w9.setCell ⟨P, 6, none⟩ (.int .i64 pl)).cell? ⟨w.heap.size, 5, none⟩ = some (.slice none 0 0) := block_cell rS 5 _ rfl
      have q5 : (w9.setCell ⟨P, 6, none⟩ (.int .i64 pl)).frozen? ⟨w.heap.size, 5, none⟩ = false := block_frozen rS 5
      have e6 : (w9.setCell ⟨P, 6, none⟩ (.int .i64 pl)).cell? ⟨w.heap.size, 6, none⟩ = some (.int .i64 0) := block_cell rS 6 _ rfl
      have q6 : (w9.setCell ⟨P, 6, none⟩ (.int .i64 pl)).frozen? ⟨w.heap.size, 6, none⟩ = false := block_frozen rS 6
      have e7 : (w9.setCell ⟨P, 6, none⟩ (.int .i64 pl)).cell? ⟨w.heap.size, 7, none⟩ = some (.int .i64 0) := block_cell rS 7 _ rfl
      have q7 : (w9.setCell ⟨P, 6, none⟩ (.int .i64 pl)).frozen? ⟨w.heap.size, 7, none⟩ = false := block_frozen rS 7
      have HOK := hide (drawn_ok (L := L) HDR.out hLn (by have := HLN.out; omega) (by have := HLN.out; omega) hpl0 (by have := HLN.out; omega) hst0 hst1 HRT.out)
      have HD := hide dS
      clear HRT d9 b9 hc9 hg9 bS rS dS
      go_wp2
      refine bodyPost_ret (v := crr a b f s (.slice ov L.length cv) (.slice oa na ka) pl st) (by simp [results, Tryd.results39, go_sem, e0, e1, e2, e3, e4, e5, e6, e7]) rfl ?_
      refine HD.out.fin hk hs0 hg0 a b f s pl st HOK.out hLb hLn (by have := HLN.out; omega) ?zb ?zr ?zq
      case zb => exact (put_at (put_at (put_at (put_at (put_at (put_at (put_at (put_at (Below.refl w.heap.size (w9.setCell ⟨P, 6, none⟩ (.int .i64 pl))) 0 _) 1 _) 2 _) 3 _) 4 _) 5 _) 6 _) 7 _)
      case zr => (repeat (refine ownsRow_setCell_below ?_ hs0 _)); exact HD.out.row
      case zq => (repeat (refine ownsRow_setCell_below ?_ hs0 _)); exact HD.out.seg)

end Go.Proofs.YtoeoiljddcjphaaDoor

/- A carrier's bytes, the model's. -/
namespace Go.Proofs.YtoeoiljddcjphaaDoor
open Go.ChangeShapes Go.WideShapes Go.ChangeAt Go.RowKit Go.Joins
set_option linter.unusedVariables false
set_option linter.unusedSimpArgs false

/-- The head of a carrier's bytes; the bytes of the first k segs. -/
def headL (n : Nat) (pl st : Int) : List Int := [(n : Int), pl, st / 65536, st / 256 % 256, st % 256]
def segB (p : Int × Int) : Int := 16 * p.2 + p.1
def segTo (g : List (Int × Int)) (k : Nat) : List Int := (g.take k).map segB
theorem segTo_succ {g : List (Int × Int)} {k : Nat} {x y : Int} (hk : k < g.length) (h : g.getD k (0, 0) = (x, y)) : segTo g (k + 1) = segTo g k ++ [16 * y + x] := by
 unfold segTo
 rw [takeG_succ g k hk, h, List.map_append]
 rfl
theorem segTo_length (g : List (Int × Int)) (k : Nat) (h : k ≤ g.length) : (segTo g k).length = k := by simp [segTo]; omega

theorem own_lit (w : World) (cs : Array Value) (e : TypeId) (n : Nat) (hn : cs.size = n) (hm : n ≤ 1000) : (w.alloc (.cells cs e)).ownsRow w.heap.size e 1 (.slice (some ⟨w.heap.size, 0, none⟩) n n) n cs.toList :=
 ⟨by simp [hn], .inr ⟨w.heap.size, n, cs, rfl, Nat.le_refl _, heap_alloc_new w _, Nat.le_refl _, by unfold maxLen; omega, by rw [hn, Nat.mul_one], by rw [Nat.mul_one]; exact List.take_of_length_le (by simp [hn])⟩⟩
theorem packetL_len (a b f s : Int) (l : List Int) (hl : l.length ≤ 16) : (packetL a b f s l).length ≤ 100 := by
 simp [packetL, preL_length]; omega
/-- A seg's byte. -/
theorem seg_bits {x y : Int} (hx : 0 ≤ x ∧ x < 6) (hy : 0 ≤ y ∧ y ≤ 1) : bits .or .i64 (y * 16) x = 16 * y + x := by
 have h1 : x = 0 ∨ x = 1 ∨ x = 2 ∨ x = 3 ∨ x = 4 ∨ x = 5 := by omega
 have h2 : y = 0 ∨ y = 1 := by omega
 rcases h1 with rfl | rfl | rfl | rfl | rfl | rfl <;> rcases h2 with rfl | rfl <;> decide

theorem wrap_u8c (n : Int) (h0 : 0 ≤ n) (h1 : n < 256) : IntKind.u8.wrap n = n := by
 simp [IntKind.wrap, IntKind.bits, IntKind.signed]; omega
theorem rd_byte1 (w : World) (x : Int) : Rd (w.alloc (.cells #[.int .u8 x] 5)).drew (some ⟨w.heap.size, 0, none⟩) [x] := by
 refine .inr ⟨w.heap.size, 0, rfl, by show w.heap.size < (w.alloc _).heap.size; simp, fun i hi => ?_⟩
 have hi0 : i = 0 := by simpa using hi
 subst hi0
 show (w.alloc _).cell? _ = _
 simp
theorem routeR_seg (op : Bool) : ∀ (g : List (Int × Int)) (p : Int), routeR op p g = true → ∀ i, i < g.length → segOkB (g.getD i (0, 0)).1 (g.getD i (0, 0)).2 = true
 | [], _, _, i, hi => by simp at hi
 | q :: g, p, h, i, hi => by
  simp [routeR] at h
  cases i with
  | zero => simpa using h.1.1.1
  | succ i => simpa using routeR_seg op g _ h.2 i (by simpa using hi)
theorem carrier_seg {a b f s : Int} {n : Nat} {g : List (Int × Int)} {pl st : Int} (h : carrierOkB a b f s n g pl st = true) {k : Nat} (hk : k < g.length) {x y : Int} (hxy : g.getD k (0, 0) = (x, y)) : (0 ≤ x ∧ x < 6) ∧ (0 ≤ y ∧ y ≤ 1) := by
 have h1 : routeR (opens3 f) 0 g = true := by unfold carrierOkB at h; cases hh : headB a b f s n g.length pl st <;> simp_all
 have := routeR_seg _ g 0 h1 k hk
 rw [hxy] at this
 have := segOkB_iff.1 this
 omega

set_option maxRecDepth 100000 in
set_option maxHeartbeats 4000000 in
theorem l2bytes_any (a b f s : Int) (o og : Option Addr) (cap cg : Nat) (l : List Int) (g : List (Int × Int)) (pl st : Int) (w : World) (hR : Rd w o l) (hn : o = none → cap = 0) (hB8 : isB l) (hG : RdG w og g) (hok : carrierOkB a b f s l.length g pl st = true) :
  Calls Tryd.prog 38 #[crr a b f s (.slice o l.length cap) (.slice og g.length cg) pl st] w fun e w' => ∃ v, e = .returned v ∧ ownB w' w.heap.size v (headL g.length pl st ++ segTo g g.length ++ packetL a b f s l) ∧ Below w.heap.size w w' := by
 obtain ⟨hpk, h2, h3, h4, h5, h6, h7⟩ := carrierOkB_head hok
 have hs1 : 0 ≤ st / 65536 ∧ st / 65536 ≤ 1 := by omega
 have hs2 : 0 ≤ st / 256 ∧ st / 256 ≤ 400 := by omega
 go_enter Tryd.func38, Tryd.ntmps38
 obtain ⟨i0, hi, hz0, hz1, hz2⟩ := info_parts infoU8
 have F1 : Hid ((((w.alloc (.cells #[.int .i64 a, .int .i64 b, .int .i64 f, .int .i64 s, .slice o l.length cap, .slice og g.length cg, .int .i64 pl, .int .i64 st] 29)).alloc (.cells #[.int .u8 (g.length : Int), .int .u8 pl] 5)).alloc (.cells #[.int .u8 (st / 65536), .int .u8 (st / 256 % 256), .int .u8 (st % 256)] 5)).ownsRow (w.heap.size + 1) 5 1 (.slice (some ⟨w.heap.size + 1, 0, none⟩) 2 2) 2 [.int .u8 (g.length : Int), .int .u8 pl]) := by
  have h := own_lit (w.alloc (.cells #[.int .i64 a, .int .i64 b, .int .i64 f, .int .i64 s, .slice o l.length cap, .slice og g.length cg, .int .i64 pl, .int .i64 st] 29)) #[.int .u8 (g.length : Int), .int .u8 pl] 5 2 rfl (by decide)
  rw [World.size_alloc] at h
  exact World.ownsRow.alloc h _
 have HC : Hid (∀ j u, ([.int .u8 (st / 65536), .int .u8 (st / 256 % 256), .int .u8 (st % 256)] : List Value)[j]? = some u → (((w.alloc (.cells #[.int .i64 a, .int .i64 b, .int .i64 f, .int .i64 s, .slice o l.length cap, .slice og g.length cg, .int .i64 pl, .int .i64 st] 29)).alloc (.cells #[.int .u8 (g.length : Int), .int .u8 pl] 5)).alloc (.cells #[.int .u8 (st / 65536), .int .u8 (st / 256 % 256), .int .u8 (st % 256)] 5)).cell? ((⟨w.heap.size + 1 + 1, 0, none⟩ : Addr).add j) = some u) := by
  have h := cells_new ((w.alloc (.cells #[.int .i64 a, .int .i64 b, .int .i64 f, .int .i64 s, .slice o l.length cap, .slice og g.length cg, .int .i64 pl, .int .i64 st] 29)).alloc (.cells #[.int .u8 (g.length : Int), .int .u8 pl] 5)) #[.int .u8 (st / 65536), .int .u8 (st / 256 % 256), .int .u8 (st % 256)] 5
  simp only [World.size_alloc] at h
  exact h
 have hb0 : Hid (Below w.heap.size w (((w.alloc (.cells #[.int .i64 a, .int .i64 b, .int .i64 f, .int .i64 s, .slice o l.length cap, .slice og g.length cg, .int .i64 pl, .int .i64 st] 29)).alloc (.cells #[.int .u8 (g.length : Int), .int .u8 pl] 5)).alloc (.cells #[.int .u8 (st / 65536), .int .u8 (st / 256 % 256), .int .u8 (st % 256)] 5))) := (((Below.refl w.heap.size w).alloc (Nat.le_refl _) _).alloc (by simp) _).alloc (by simp; omega) _
 have hb1 : Hid (Below (w.heap.size + 1) (w.alloc (.cells #[.int .i64 a, .int .i64 b, .int .i64 f, .int .i64 s, .slice o l.length cap, .slice og g.length cg, .int .i64 pl, .int .i64 st] 29)) (((w.alloc (.cells #[.int .i64 a, .int .i64 b, .int .i64 f, .int .i64 s, .slice o l.length cap, .slice og g.length cg, .int .i64 pl, .int .i64 st] 29)).alloc (.cells #[.int .u8 (g.length : Int), .int .u8 pl] 5)).alloc (.cells #[.int .u8 (st / 65536), .int .u8 (st / 256 % 256), .int .u8 (st % 256)] 5))) := ((Below.refl (w.heap.size + 1) (w.alloc (.cells #[.int .i64 a, .int .i64 b, .int .i64 f, .int .i64 s, .slice o l.length cap, .slice og g.length cg, .int .i64 pl, .int .i64 st] 29))).alloc (by simp) _).alloc (by simp) _
 have bx0 : Hid ((w.alloc (.cells #[.int .i64 a, .int .i64 b, .int .i64 f, .int .i64 s, .slice o l.length cap, .slice og g.length cg, .int .i64 pl, .int .i64 st] 29)).heap[w.heap.size]? = some (.cells #[.int .i64 a, .int .i64 b, .int .i64 f, .int .i64 s, .slice o l.length cap, .slice og g.length cg, .int .i64 pl, .int .i64 st] 29 (0, 0))) := World.alloc_heap_new w (.cells #[.int .i64 a, .int .i64 b, .int .i64 f, .int .i64 s, .slice o l.length cap, .slice og g.length cg, .int .i64 pl, .int .i64 st] 29)
 go_wp2_with (at_builtin; refine wpList_append_own _ rfl _ _ 22 rfl (w.heap.size + 1) 5 i0 (.int .u8 0) 1 1 Tryd.underlying22 hi hz0 hz1 hz2 rfl (by decide) _ _ _ rfl F1.out ⟨w.heap.size + 1 + 1, 0, none⟩ 3 3 [.int .u8 (st / 65536), .int .u8 (st / 256 % 256), .int .u8 (st % 256)] rfl rfl HC.out ?c2 ?c3 ?c4 ?c5 ?_)
 case c2 => exact ints_oneCell .u8 [st / 65536, st / 256 % 256, st % 256]
 case c3 => unfold maxLen; omega
 case c4 => omega
 case c5 => simp
 intro v1 w1 hv1 hg1 _
 have hb2 : Below (w.heap.size + 1) (w.alloc (.cells #[.int .i64 a, .int .i64 b, .int .i64 f, .int .i64 s, .slice o l.length cap, .slice og g.length cg, .int .i64 pl, .int .i64 st] 29)) w1 := hb1.out.grown hg1 (by simp) (fun k h => (F1.out.lt k h).1)
 have HV1 : Hid (ownB w1 (w.heap.size + 1) v1 (headL g.length pl st ++ segTo g 0)) := hv1
 have hbx := (hb2.block w.heap.size (by omega)).trans bx0.out
 have hB1 : Below w.heap.size w w1 := ((Below.refl w.heap.size w).alloc (Nat.le_refl _) _).trans (hb2.mono (by omega))
 have hsz1 : w.heap.size + 1 ≤ w1.heap.size := by have := hb2.size; simp at this; omega
 have HBX := hide hbx
 have HB1 := hide hB1
 clear F1 HC hb0 hb1 bx0 hv1 hg1 hb2 hbx hB1
 go_wp2
 go_loopw [3, 4] (fun bv iv wr => ∃ k : Nat, k ≤ g.length ∧ iv = .int .i64 k ∧ ownB wr (w.heap.size + 1) bv (headL g.length pl st ++ segTo g k) ∧ Below (w.heap.size + 1) w1 wr)
  (fun _ iv _ => g.length - (intOf iv).toNat)
 case atStart => exact ⟨0, Nat.zero_le _, rfl, HV1.out, Below.refl _ _⟩
 case round =>
  obtain ⟨k, hk, rfl, hbv, hBr⟩ := hrel
  have bxr := (hBr.block w.heap.size (by omega)).trans HBX.out
  have c5 : wr.cell? ⟨w.heap.size, 5, none⟩ = some (.slice og g.length cg) := block_cell bxr 5 _ rfl
  have hlen : (headL g.length pl st ++ segTo g k).length ≤ 100 := by rw [List.length_append, segTo_length g k hk]; simp [headL]; omega
  have HO := hide hbv
  have HBr := hide hBr
  by_cases hlt : k < g.length
  ·rcases hG with hG | ⟨bb, off, rfl, hbb, hcell⟩
   ·subst hG; simp at hlt
   obtain ⟨x, y, hxy⟩ : ∃ x y, g.getD k (0, 0) = (x, y) := ⟨_, _, rfl⟩
   have hcx := hcell k hlt
   rw [hxy] at hcx
   have hBw := HB1.out.trans (hBr.mono (Nat.le_succ _))
   have p0 := (hBw.cell (p := ⟨bb, off + k * 2, none⟩) hbb).trans hcx.1
   have p1 := (hBw.cell (p := ⟨bb, off + k * 2 + 1, none⟩) hbb).trans hcx.2
   have hsg := carrier_seg hok hlt hxy
   have z1 : (k : Int) < (g.length : Int) := by omega
   have HN := hide (segTo_succ hlt hxy)
   have hbt := seg_bits hsg.1 hsg.2
   clear hxy hcell hcx hBw hBr hbv bxr
   have hbb2 : 0 ≤ 16 * y + x ∧ 16 * y + x ≤ 255 := by omega
   have hwr : IntKind.i64.wrap (y * 16) = y * 16 := wrap_i64 _ (by omega) (by omega)
   have hb3 : 16 * y + x < 256 := by omega
   have hb4 : 0 ≤ 16 * y + x := by omega
   have hu8 : IntKind.u8.wrap (16 * y + x) = 16 * y + x := wrap_u8c _ hb4 hb3
   generalize 16 * y + x = z at *
   have F1 : ownB (wr.alloc (.cells #[.int .u8 z] 5)).drew (w.heap.size + 1) u3 (headL g.length pl st ++ segTo g k) := World.ownsRow.alloc HO.out _
   have B1 : Below (w.heap.size + 1) w1 (wr.alloc (.cells #[.int .u8 z] 5)).drew := (HBr.out.alloc (Nat.le_trans hsz1 HBr.out.size) _).drew
   have R1 : Rd (wr.alloc (.cells #[.int .u8 z] 5)).drew (some ⟨wr.heap.size, 0, none⟩) [z] := rd_byte1 wr _
   have hL2 : Hid ((headL g.length pl st ++ segTo g k).length + [z].length ≤ 1099511627776) := by show _ ≤ _; rw [List.length_singleton]; omega
   have hS2 : Hid (w.heap.size + 1 ≤ (wr.alloc (.cells #[.int .u8 z] 5)).drew.heap.size) := Nat.le_trans hsz1 B1.size
   have hF := hide F1
   have hB := hide B1
   have hR1 := hide R1
   clear F1 B1 R1
   go_wp2
   go_region_law (first | (refine step_append_bytes rfl (.tmp 33) (.tmp 49) rfl (w.heap.size + 1) u3 (headL g.length pl st ++ segTo g k) rfl hF.out (some ⟨wr.heap.size, 0, none⟩) 1 [z] 1 rfl rfl ?hn hR1.out hL2.out hS2.out ?_; (case hn => (intro h; cases h)); intro v8 w8 hv8 hb8; have HR := hide (And.intro hv8 (hB.out.trans hb8)); clear hv8 hb8))
   all_goals (
    go_wp2
    go_roundw
    case rel => exact ⟨k + 1, by omega, by go_num, by rw [HN.out, ← List.append_assoc]; exact HR.out.1, HR.out.2⟩
    case measure => simp [intOf]; omega)
  ·have e : k = g.length := by omega
   subst e
   obtain ⟨hl16, qa, qb, qf, qs⟩ := packetOk_bd hpk
   have x0 : wr.cell? ⟨w.heap.size, 0, none⟩ = some (.int .i64 a) := block_cell bxr 0 _ rfl
   have x1 : wr.cell? ⟨w.heap.size, 1, none⟩ = some (.int .i64 b) := block_cell bxr 1 _ rfl
   have x2 : wr.cell? ⟨w.heap.size, 2, none⟩ = some (.int .i64 f) := block_cell bxr 2 _ rfl
   have x3 : wr.cell? ⟨w.heap.size, 3, none⟩ = some (.int .i64 s) := block_cell bxr 3 _ rfl
   have x4 : wr.cell? ⟨w.heap.size, 4, none⟩ = some (.slice o l.length cap) := block_cell bxr 4 _ rfl
   have HBw := hide (HB1.out.trans (hBr.mono (Nat.le_succ _)))
   clear hbv hBr bxr
   go_wp2_with fail
   refine (l1bytes_any a b f s o cap l wr (hR.kept HBw.out) hn hB8 hl16 qa qb qf qs).mono ?_
   rintro e w2 ⟨v2, rfl, hv2, hb2⟩
   have hpl := packetL_len a b f s l hl16
   have hcap := InRow.cap (InB.of hv2)
   obtain ⟨o2, c2, hv2e, hR2⟩ := hv2.open
   subst hv2e
   have hn2 : o2 = none → c2 = 0 := fun h => hcap _ c2 (by rw [h])
   have hpn : (packetL a b f s l).length ≤ 100 := hpl
   have F2 : Hid (ownB w2 (w.heap.size + 1) u3 (headL g.length pl st ++ segTo g g.length)) := own_kept HO.out hb2
   have HB2 := hide (HBw.out.trans (hb2.mono HBw.out.size))
   have hs2 : w.heap.size + 1 ≤ w2.heap.size := Nat.le_trans hsz1 (Nat.le_trans HBr.out.size hb2.size)
   have HL : Hid ((headL g.length pl st ++ segTo g g.length).length + (packetL a b f s l).length ≤ 1099511627776) := by show _ ≤ _; omega
   clear x0 x1 x2 x3 x4 hv2 hb2 hcap hlen
   go_wp2_with (at_builtin; refine wpList_append_bytes rfl _ _ rfl (w.heap.size + 1) _ (headL g.length pl st ++ segTo g g.length) rfl F2.out o2 c2 (packetL a b f s l) rfl hn2 hR2 HL.out hs2 ?_)
   intro v3 w3 hv3 _ hb3
   have HR := hide (And.intro (own_mono hv3 (Nat.le_succ _)) (HB2.out.trans (hb3.mono (Nat.le_succ _))))
   clear hv3 hb3
   go_wp2
   go_ret
   exact ⟨_, rfl, by rw [List.append_assoc]; exact HR.out.1, HR.out.2⟩

/-- A carrier's bytes. -/
def carrL (m : Cm) : List Int := if m.ok then headL m.g.length m.pl m.st ++ segTo m.g m.g.length ++ packetL m.a m.b m.f m.s m.l else []
set_option maxRecDepth 100000 in
set_option maxHeartbeats 1000000 in
theorem specCBytes_any (a b f s : Int) (o og : Option Addr) (cap cg : Nat) (l : List Int) (g : List (Int × Int)) (pl st : Int) (w : World) (hR : Rd w o l) (hn : o = none → cap = 0) (hB8 : isB l) (hl : l.length ≤ 1048576) (hG : RdG w og g) (hgl : g.length ≤ 1048576) :
  Calls Tryd.prog 37 #[crr a b f s (.slice o l.length cap) (.slice og g.length cg) pl st] w fun e w' => ∃ v, e = .returned (.tuple #[v, .bool (carrierOkB a b f s l.length g pl st)]) ∧ ownB w' w.heap.size v (carrL ⟨a, b, f, s, l, g, pl, st⟩) ∧ Below w.heap.size w w' := by
 have hb0 : Below w.heap.size w (w.alloc (.cells #[.int .i64 a, .int .i64 b, .int .i64 f, .int .i64 s, .slice o l.length cap, .slice og g.length cg, .int .i64 pl, .int .i64 st] 29)) := (Below.refl _ _).alloc (Nat.le_refl _) _
 have hs0 : w.heap.size < (w.alloc (.cells #[.int .i64 a, .int .i64 b, .int .i64 f, .int .i64 s, .slice o l.length cap, .slice og g.length cg, .int .i64 pl, .int .i64 st] 29)).heap.size := by simp
 have bx := World.alloc_heap_new w (.cells #[.int .i64 a, .int .i64 b, .int .i64 f, .int .i64 s, .slice o l.length cap, .slice og g.length cg, .int .i64 pl, .int .i64 st] 29)
 have hc := specCarrierOk_any a b f s o og l.length cap cg g pl st (w.alloc (.cells #[.int .i64 a, .int .i64 b, .int .i64 f, .int .i64 s, .slice o l.length cap, .slice og g.length cg, .int .i64 pl, .int .i64 st] 29)) (by unfold maxLen; omega) (by unfold maxLen; omega) (hG.kept hb0)
 have HE := hide (show carrL ⟨a, b, f, s, l, g, pl, st⟩ = if carrierOkB a b f s l.length g pl st then headL g.length pl st ++ segTo g g.length ++ packetL a b f s l else [] from rfl)
 have Hb := hide hb0
 have Hx := hide bx
 clear hb0 bx
 cases hok : carrierOkB a b f s l.length g pl st with
 | false =>
  rw [hok] at hc HE
  go_enter Tryd.func37, Tryd.ntmps37
  go_wp2_with fail
  generalize (w.alloc (.cells #[.int .i64 a, .int .i64 b, .int .i64 f, .int .i64 s, .slice o l.length cap, .slice og g.length cg, .int .i64 pl, .int .i64 st] 29)) = w0 at *
  refine hc.mono ?_
  rintro e w1 ⟨rfl, hb1⟩
  have HB := hide (Hb.out.trans (hb1.mono Hb.out.size))
  clear hb1 hc Hb Hx
  go_wp2
  go_ret2
  exact ⟨_, rfl, by rw [HE.out]; exact World.ownsRow_nil _ _ _ _, HB.out⟩
 | true =>
  rw [hok] at hc HE
  go_enter Tryd.func37, Tryd.ntmps37
  go_wp2_with fail
  generalize (w.alloc (.cells #[.int .i64 a, .int .i64 b, .int .i64 f, .int .i64 s, .slice o l.length cap, .slice og g.length cg, .int .i64 pl, .int .i64 st] 29)) = w0 at *
  refine hc.mono ?_
  rintro e w1 ⟨rfl, hb1⟩
  have hx1 := (hb1.block _ hs0).trans Hx.out
  have HB := hide (Hb.out.trans (hb1.mono Hb.out.size))
  have x0 : w1.cell? ⟨w.heap.size, 0, none⟩ = some (.int .i64 a) := block_cell hx1 0 _ rfl
  have x1 : w1.cell? ⟨w.heap.size, 1, none⟩ = some (.int .i64 b) := block_cell hx1 1 _ rfl
  have x2 : w1.cell? ⟨w.heap.size, 2, none⟩ = some (.int .i64 f) := block_cell hx1 2 _ rfl
  have x3 : w1.cell? ⟨w.heap.size, 3, none⟩ = some (.int .i64 s) := block_cell hx1 3 _ rfl
  have x4 : w1.cell? ⟨w.heap.size, 4, none⟩ = some (.slice o l.length cap) := block_cell hx1 4 _ rfl
  have x5 : w1.cell? ⟨w.heap.size, 5, none⟩ = some (.slice og g.length cg) := block_cell hx1 5 _ rfl
  have x6 : w1.cell? ⟨w.heap.size, 6, none⟩ = some (.int .i64 pl) := block_cell hx1 6 _ rfl
  have x7 : w1.cell? ⟨w.heap.size, 7, none⟩ = some (.int .i64 st) := block_cell hx1 7 _ rfl
  clear hb1 hc Hb Hx hx1
  go_wp2_with fail
  refine (l2bytes_any a b f s o og cap cg l g pl st w1 (hR.kept HB.out) hn hB8 (hG.kept HB.out) hok).mono ?_
  rintro e w2 ⟨v2, rfl, hv2, hb2⟩
  have HR := hide (And.intro (own_mono hv2 HB.out.size) (HB.out.trans (hb2.mono HB.out.size)))
  clear hv2 hb2 x0 x1 x2 x3 x4 x5 x6 x7
  go_wp2
  go_ret2
  exact ⟨_, rfl, by rw [HE.out]; exact HR.out.1, HR.out.2⟩

end Go.Proofs.YtoeoiljddcjphaaDoor

/- A drawn carrier, bent once in a while. -/
namespace Go.Proofs.YtoeoiljddcjphaaDoor
open Go.ChangeShapes Go.WideShapes Go.ChangeAt Go.RowKit Go.Joins
set_option linter.unusedVariables false
set_option linter.unusedSimpArgs false


def bentC (w : World) (k : Nat) (e : Ending) (w' : World) : Prop := ∃ (v : Value) (m : Cm), e = .returned v ∧ ownCm w' w.heap.size v m ∧ isB m.l ∧ m.l.length ≤ 2000 ∧ m.g.length ≤ 8 ∧ isCur k w' ∧ w.grownBy w' (some k)
theorem D2.finB {k : Nat} {w w0 W : World} {v vg : Value} {L : List Int} {g : List (Int × Int)} (h : D2 k w0 W v L vg g) (hk : k < w.heap.size) (hs : w.heap.size < w0.heap.size) (hg0 : w.grownBy w0 (some k)) (a b f s pl st : Int) (hLb : isB L) (hLn : L.length ≤ 2000) (hgn : g.length ≤ 8) {W' : World} (hb : Below w.heap.size W W') (hr : ownB W' w0.heap.size v L) (hq : ownL layG 62 W' w0.heap.size vg g) :
  bentC w k (.returned (crr a b f s v vg pl st)) W' := by
 obtain ⟨h1, h2, h3⟩ := h.ends hk hs hg0 hb hr hq a b f s pl st
 exact ⟨_, _, rfl, h1, hLb, hLn, hgn, h2, h3⟩
theorem D2.newrow {k : Nat} {w0 W : World} {v v' vg : Value} {L L' : List Int} {g : List (Int × Int)} (h : D2 k w0 W v L vg g) (hr : ownB W w0.heap.size v' L') : D2 k w0 W v' L' vg g := ⟨hr, h.seg, h.cur, h.gr⟩
theorem D2.noseg {k : Nat} {w0 W : World} {v vg : Value} {L : List Int} {g : List (Int × Int)} (h : D2 k w0 W v L vg g) : D2 k w0 W v L (.slice none 0 0) [] := ⟨h.row, World.ownsRow_nil _ _ _ _, h.cur, h.gr⟩
theorem ints_at {W : World} {B : Nat} (vs : List Int) (h : W.heap[B]? = some (.cells (vs.map (Value.int .i64)).toArray 3 (0, 0))) : ∀ q, q < vs.length → W.cell? ⟨B, q, none⟩ = some (.int .i64 (vs.getD q 0)) := by
 intro q hq
 simp [World.cell?, h, hq]
theorem wrap_less (z : Int) (h0 : 0 ≤ z) (h1 : z < 4) : IntKind.i64.wrap (z - 1) = z - 1 := by
 simp [IntKind.wrap, IntKind.bits, IntKind.signed]; omega
theorem wrap_less' (z : Int) (h0 : 0 ≤ z) (h1 : z < 4) : wrap64 (z - 1) = z - 1 := by
 unfold wrap64; omega

set_option maxRecDepth 100000 in
set_option maxHeartbeats 8000000 in
theorem l2bent_any (k : Nat) (w : World) (hc : isCur k w) (hk : k < w.heap.size) :
  Calls Tryd.prog 23 #[.pointer (some ⟨k, 0, none⟩)] w fun e w' => bentC w k e w' := by
 have hR0 : (w.alloc (.cells #[.int .i64 0, .int .i64 0, .int .i64 0, .int .i64 0, .slice none 0 0, .slice none 0 0, .int .i64 0, .int .i64 0] 29)).heap[w.heap.size]? = some (.cells #[.int .i64 0, .int .i64 0, .int .i64 0, .int .i64 0, .slice none 0 0, .slice none 0 0, .int .i64 0, .int .i64 0] 29 (0, 0)) := World.alloc_heap_new w _
 have hc0 := hc.alloc hk (.cells #[.int .i64 0, .int .i64 0, .int .i64 0, .int .i64 0, .slice none 0 0, .slice none 0 0, .int .i64 0, .int .i64 0] 29)
 have hg0 := grown_alloc w (.cells #[.int .i64 0, .int .i64 0, .int .i64 0, .int .i64 0, .slice none 0 0, .slice none 0 0, .int .i64 0, .int .i64 0] 29) k
 go_enter Tryd.func23, Tryd.ntmps23
 go_wp2_with fail
 generalize hw0 : w.alloc (.cells #[.int .i64 0, .int .i64 0, .int .i64 0, .int .i64 0, .slice none 0 0, .slice none 0 0, .int .i64 0, .int .i64 0] 29) = w0 at *
 have hs0 : w.heap.size < w0.heap.size := by rw [← hw0]; simp
 have hk0 : k < w0.heap.size := by omega
 have hkR : w.heap.size ≠ k := by omega
 clear hw0
 refine (l2draw_any k _ hc0 hk0).mono ?_
 rintro e w1 ⟨v, ⟨a, b, f, s, L, g, pl, st⟩, rfl, ⟨vl, vg, rfl, hrw, hsg⟩, _, hLb, hLn, hgn, hc1, hg1⟩
 dsimp only at hrw hsg hLb hLn hgn ⊢
 obtain ⟨ov, cv, ev, _⟩ := hrw.open
 subst ev
 obtain ⟨og, cg, eg, _⟩ := hsg.open
 subst eg
 have hL2 : L.length ≤ 2000 := by omega
 have hg8 : g.length ≤ 8 := by omega
 have d1 : D2 k w0 w1 (.slice ov L.length cv) L (.slice og g.length cg) g := ⟨hrw, ownG_lay.1 hsg, hc1, hg1⟩
 have b2 : (w1.alloc (.cells #[.int .i64 a, .int .i64 b, .int .i64 f, .int .i64 s, .slice ov L.length cv, .slice og g.length cg, .int .i64 pl, .int .i64 st] 29)).heap[w1.heap.size]? = some (.cells #[.int .i64 a, .int .i64 b, .int .i64 f, .int .i64 s, .slice ov L.length cv, .slice og g.length cg, .int .i64 pl, .int .i64 st] 29 (0, 0)) := World.alloc_heap_new w1 _
 have d2 := d1.alloc hk0 (.cells #[.int .i64 a, .int .i64 b, .int .i64 f, .int .i64 s, .slice ov L.length cv, .slice og g.length cg, .int .i64 pl, .int .i64 st] 29)
 have hs1 : w0.heap.size ≤ w1.heap.size := hg1.size
 clear hc hc0 hc1 hg1 hrw hsg d1
 go_wp2_with fail
 generalize hw2 : w1.alloc (.cells #[.int .i64 a, .int .i64 b, .int .i64 f, .int .i64 s, .slice ov L.length cv, .slice og g.length cg, .int .i64 pl, .int .i64 st] 29) = w2 at *
 clear hw2
 obtain ⟨P, hPe⟩ : ∃ P, w1.heap.size = P := ⟨_, rfl⟩
 have hP0 : w0.heap.size ≤ P := by omega
 have hPk : P ≠ k := by omega
 rw [hPe] at b2 ⊢
 clear hPe hs1
 refine (l1Once_any k 7 _ d2.cur (by omega) (by omega)).mono ?_
 rintro e w3 ⟨x3, rfl, hc3, hg3⟩
 have d3 := d2.call hg3 hc3 hk0
 have b3 := box_gr b2 hg3 hPk
 clear d2 b2 hc3 hg3
 cases x3 with
 | false =>
  have rS := box_gr hR0 d3.gr hkR
  have y0 : w3.cell? ⟨P, 0, none⟩ = some (.int .i64 a) := block_cell b3 0 _ rfl
  have y1 : w3.cell? ⟨P, 1, none⟩ = some (.int .i64 b) := block_cell b3 1 _ rfl
  have y2 : w3.cell? ⟨P, 2, none⟩ = some (.int .i64 f) := block_cell b3 2 _ rfl
  have y3 : w3.cell? ⟨P, 3, none⟩ = some (.int .i64 s) := block_cell b3 3 _ rfl
  have y4 : w3.cell? ⟨P, 4, none⟩ = some (.slice ov L.length cv) := block_cell b3 4 _ rfl
  have y5 : w3.cell? ⟨P, 5, none⟩ = some (.slice og g.length cg) := block_cell b3 5 _ rfl
  have y6 : w3.cell? ⟨P, 6, none⟩ = some (.int .i64 pl) := block_cell b3 6 _ rfl
  have y7 : w3.cell? ⟨P, 7, none⟩ = some (.int .i64 st) := block_cell b3 7 _ rfl
  have e0 : w3.cell? ⟨w.heap.size, 0, none⟩ = some (.int .i64 0) := block_cell rS 0 _ rfl
  have q0 : w3.frozen? ⟨w.heap.size, 0, none⟩ = false := block_frozen rS 0
  have e1 : w3.cell? ⟨w.heap.size, 1, none⟩ = some (.int .i64 0) := block_cell rS 1 _ rfl
  have q1 : w3.frozen? ⟨w.heap.size, 1, none⟩ = false := block_frozen rS 1
  have e2 : w3.cell? ⟨w.heap.size, 2, none⟩ = some (.int .i64 0) := block_cell rS 2 _ rfl
  have q2 : w3.frozen? ⟨w.heap.size, 2, none⟩ = false := block_frozen rS 2
  have e3 : w3.cell? ⟨w.heap.size, 3, none⟩ = some (.int .i64 0) := block_cell rS 3 _ rfl
  have q3 : w3.frozen? ⟨w.heap.size, 3, none⟩ = false := block_frozen rS 3
  have e4 : w3.cell? ⟨w.heap.size, 4, none⟩ = some (.slice none 0 0) := block_cell rS 4 _ rfl
  have q4 : w3.frozen? ⟨w.heap.size, 4, none⟩ = false := block_frozen rS 4
  have e5 : w3.cell? ⟨w.heap.size, 5, none⟩ = some (.slice none 0 0) := block_cell rS 5 _ rfl
  have q5 : w3.frozen? ⟨w.heap.size, 5, none⟩ = false := block_frozen rS 5
  have e6 : w3.cell? ⟨w.heap.size, 6, none⟩ = some (.int .i64 0) := block_cell rS 6 _ rfl
  have q6 : w3.frozen? ⟨w.heap.size, 6, none⟩ = false := block_frozen rS 6
  have e7 : w3.cell? ⟨w.heap.size, 7, none⟩ = some (.int .i64 0) := block_cell rS 7 _ rfl
  have q7 : w3.frozen? ⟨w.heap.size, 7, none⟩ = false := block_frozen rS 7
  have HD := hide d3
  clear rS d3 b3
  go_wp2
  refine bodyPost_ret (v := crr a b f s (.slice ov L.length cv) (.slice og g.length cg) pl st) (by simp [results, Tryd.results23, go_sem, e0, e1, e2, e3, e4, e5, e6, e7]) rfl ?_
  refine HD.out.finB hk hs0 hg0 a b f s pl st hLb hL2 hg8 ?zb ?zr ?zq
  case zb => exact (put_at (put_at (put_at (put_at (put_at (put_at (put_at (put_at (Below.refl w.heap.size w3) 0 _) 1 _) 2 _) 3 _) 4 _) 5 _) 6 _) 7 _)
  case zr => (repeat (refine ownsRow_setCell_below ?_ hs0 _)); exact HD.out.row
  case zq => (repeat (refine ownsRow_setCell_below ?_ hs0 _)); exact HD.out.seg
 | true =>
  go_wp2_with fail
  refine (l1Below_any k 5 _ d3.cur (by omega) (by omega)).mono ?_
  rintro e w4 ⟨j, rfl, hj0, hj1, hc4, hg4⟩
  have d4 := d3.call hg4 hc4 hk0
  have b4 := box_gr b3 hg4 hPk
  clear d3 b3 hc4 hg4
  have hs4 : w0.heap.size ≤ w4.heap.size := d4.gr.size
  rcases (show j = 0 ∨ j = 1 ∨ j = 2 ∨ j = 3 ∨ j = 4 by omega) with h | h | h | h | h
  ·subst h
   go_wp2_with fail
   refine (l1bent_any k w4 d4.cur (by omega)).mono ?_
   rintro e w5 ⟨a', b', f', s', v', L', rfl, hv', hLb', hLn', hc5, hg5⟩
   obtain ⟨ov', cv', ev', _⟩ := hv'.open
   subst ev'
   have d5 := (d4.call hg5 hc5 hk0).newrow (own_mono hv' hs4)
   have b5 := box_gr b4 hg5 hPk
   clear d4 b4 hg5 hc5 hv'
   have c0z : w5.cell? ⟨P, 0, none⟩ = some (.int .i64 a) := block_cell b5 0 _ rfl
   have f0z : w5.frozen? ⟨P, 0, none⟩ = false := block_frozen b5 0
   have c1z : w5.cell? ⟨P, 1, none⟩ = some (.int .i64 b) := block_cell b5 1 _ rfl
   have f1z : w5.frozen? ⟨P, 1, none⟩ = false := block_frozen b5 1
   have c2z : w5.cell? ⟨P, 2, none⟩ = some (.int .i64 f) := block_cell b5 2 _ rfl
   have f2z : w5.frozen? ⟨P, 2, none⟩ = false := block_frozen b5 2
   have c3z : w5.cell? ⟨P, 3, none⟩ = some (.int .i64 s) := block_cell b5 3 _ rfl
   have f3z : w5.frozen? ⟨P, 3, none⟩ = false := block_frozen b5 3
   have c4z : w5.cell? ⟨P, 4, none⟩ = some (.slice ov L.length cv) := block_cell b5 4 _ rfl
   have f4z : w5.frozen? ⟨P, 4, none⟩ = false := block_frozen b5 4
   obtain ⟨d50, b50⟩ := d5.set b5 hk0 hP0 0 (.int .i64 a')
   obtain ⟨d51, b51⟩ := d50.set b50 hk0 hP0 1 (.int .i64 b')
   obtain ⟨d52, b52⟩ := d51.set b51 hk0 hP0 2 (.int .i64 f')
   obtain ⟨d53, b53⟩ := d52.set b52 hk0 hP0 3 (.int .i64 s')
   obtain ⟨d54, b54⟩ := d53.set b53 hk0 hP0 4 (.slice ov' L'.length cv')
   clear d5 b5 d50 b50 d51 b51 d52 b52 d53 b53
   have rS := box_gr hR0 d54.gr hkR
   have y0 : (((((w5.setCell ⟨P, 0, none⟩ (.int .i64 a')).setCell ⟨P, 1, none⟩ (.int .i64 b')).setCell ⟨P, 2, none⟩ (.int .i64 f')).setCell ⟨P, 3, none⟩ (.int .i64 s')).setCell ⟨P, 4, none⟩ (.slice ov' L'.length cv')).cell? ⟨P, 0, none⟩ = some (.int .i64 a') := block_cell b54 0 _ rfl
   have y1 : (((((w5.setCell ⟨P, 0, none⟩ (.int .i64 a')).setCell ⟨P, 1, none⟩ (.int .i64 b')).setCell ⟨P, 2, none⟩ (.int .i64 f')).setCell ⟨P, 3, none⟩ (.int .i64 s')).setCell ⟨P, 4, none⟩ (.slice ov' L'.length cv')).cell? ⟨P, 1, none⟩ = some (.int .i64 b') := block_cell b54 1 _ rfl
   have y2 : (((((w5.setCell ⟨P, 0, none⟩ (.int .i64 a')).setCell ⟨P, 1, none⟩ (.int .i64 b')).setCell ⟨P, 2, none⟩ (.int .i64 f')).setCell ⟨P, 3, none⟩ (.int .i64 s')).setCell ⟨P, 4, none⟩ (.slice ov' L'.length cv')).cell? ⟨P, 2, none⟩ = some (.int .i64 f') := block_cell b54 2 _ rfl
   have y3 : (((((w5.setCell ⟨P, 0, none⟩ (.int .i64 a')).setCell ⟨P, 1, none⟩ (.int .i64 b')).setCell ⟨P, 2, none⟩ (.int .i64 f')).setCell ⟨P, 3, none⟩ (.int .i64 s')).setCell ⟨P, 4, none⟩ (.slice ov' L'.length cv')).cell? ⟨P, 3, none⟩ = some (.int .i64 s') := block_cell b54 3 _ rfl
   have y4 : (((((w5.setCell ⟨P, 0, none⟩ (.int .i64 a')).setCell ⟨P, 1, none⟩ (.int .i64 b')).setCell ⟨P, 2, none⟩ (.int .i64 f')).setCell ⟨P, 3, none⟩ (.int .i64 s')).setCell ⟨P, 4, none⟩ (.slice ov' L'.length cv')).cell? ⟨P, 4, none⟩ = some (.slice ov' L'.length cv') := block_cell b54 4 _ rfl
   have y5 : (((((w5.setCell ⟨P, 0, none⟩ (.int .i64 a')).setCell ⟨P, 1, none⟩ (.int .i64 b')).setCell ⟨P, 2, none⟩ (.int .i64 f')).setCell ⟨P, 3, none⟩ (.int .i64 s')).setCell ⟨P, 4, none⟩ (.slice ov' L'.length cv')).cell? ⟨P, 5, none⟩ = some (.slice og g.length cg) := block_cell b54 5 _ rfl
   have y6 : (((((w5.setCell ⟨P, 0, none⟩ (.int .i64 a')).setCell ⟨P, 1, none⟩ (.int .i64 b')).setCell ⟨P, 2, none⟩ (.int .i64 f')).setCell ⟨P, 3, none⟩ (.int .i64 s')).setCell ⟨P, 4, none⟩ (.slice ov' L'.length cv')).cell? ⟨P, 6, none⟩ = some (.int .i64 pl) := block_cell b54 6 _ rfl
   have y7 : (((((w5.setCell ⟨P, 0, none⟩ (.int .i64 a')).setCell ⟨P, 1, none⟩ (.int .i64 b')).setCell ⟨P, 2, none⟩ (.int .i64 f')).setCell ⟨P, 3, none⟩ (.int .i64 s')).setCell ⟨P, 4, none⟩ (.slice ov' L'.length cv')).cell? ⟨P, 7, none⟩ = some (.int .i64 st) := block_cell b54 7 _ rfl
   have e0 : (((((w5.setCell ⟨P, 0, none⟩ (.int .i64 a')).setCell ⟨P, 1, none⟩ (.int .i64 b')).setCell ⟨P, 2, none⟩ (.int .i64 f')).setCell ⟨P, 3, none⟩ (.int .i64 s')).setCell ⟨P, 4, none⟩ (.slice ov' L'.length cv')).cell? ⟨w.heap.size, 0, none⟩ = some (.int .i64 0) := block_cell rS 0 _ rfl
   have q0 : (((((w5.setCell ⟨P, 0, none⟩ (.int .i64 a')).setCell ⟨P, 1, none⟩ (.int .i64 b')).setCell ⟨P, 2, none⟩ (.int .i64 f')).setCell ⟨P, 3, none⟩ (.int .i64 s')).setCell ⟨P, 4, none⟩ (.slice ov' L'.length cv')).frozen? ⟨w.heap.size, 0, none⟩ = false := block_frozen rS 0
   have e1 : (((((w5.setCell ⟨P, 0, none⟩ (.int .i64 a')).setCell ⟨P, 1, none⟩ (.int .i64 b')).setCell ⟨P, 2, none⟩ (.int .i64 f')).setCell ⟨P, 3, none⟩ (.int .i64 s')).setCell ⟨P, 4, none⟩ (.slice ov' L'.length cv')).cell? ⟨w.heap.size, 1, none⟩ = some (.int .i64 0) := block_cell rS 1 _ rfl
   have q1 : (((((w5.setCell ⟨P, 0, none⟩ (.int .i64 a')).setCell ⟨P, 1, none⟩ (.int .i64 b')).setCell ⟨P, 2, none⟩ (.int .i64 f')).setCell ⟨P, 3, none⟩ (.int .i64 s')).setCell ⟨P, 4, none⟩ (.slice ov' L'.length cv')).frozen? ⟨w.heap.size, 1, none⟩ = false := block_frozen rS 1
   have e2 : (((((w5.setCell ⟨P, 0, none⟩ (.int .i64 a')).setCell ⟨P, 1, none⟩ (.int .i64 b')).setCell ⟨P, 2, none⟩ (.int .i64 f')).setCell ⟨P, 3, none⟩ (.int .i64 s')).setCell ⟨P, 4, none⟩ (.slice ov' L'.length cv')).cell? ⟨w.heap.size, 2, none⟩ = some (.int .i64 0) := block_cell rS 2 _ rfl
   have q2 : (((((w5.setCell ⟨P, 0, none⟩ (.int .i64 a')).setCell ⟨P, 1, none⟩ (.int .i64 b')).setCell ⟨P, 2, none⟩ (.int .i64 f')).setCell ⟨P, 3, none⟩ (.int .i64 s')).setCell ⟨P, 4, none⟩ (.slice ov' L'.length cv')).frozen? ⟨w.heap.size, 2, none⟩ = false := block_frozen rS 2
   have e3 : (((((w5.setCell ⟨P, 0, none⟩ (.int .i64 a')).setCell ⟨P, 1, none⟩ (.int .i64 b')).setCell ⟨P, 2, none⟩ (.int .i64 f')).setCell ⟨P, 3, none⟩ (.int .i64 s')).setCell ⟨P, 4, none⟩ (.slice ov' L'.length cv')).cell? ⟨w.heap.size, 3, none⟩ = some (.int .i64 0) := block_cell rS 3 _ rfl
   have q3 : (((((w5.setCell ⟨P, 0, none⟩ (.int .i64 a')).setCell ⟨P, 1, none⟩ (.int .i64 b')).setCell ⟨P, 2, none⟩ (.int .i64 f')).setCell ⟨P, 3, none⟩ (.int .i64 s')).setCell ⟨P, 4, none⟩ (.slice ov' L'.length cv')).frozen? ⟨w.heap.size, 3, none⟩ = false := block_frozen rS 3
   have e4 : (((((w5.setCell ⟨P, 0, none⟩ (.int .i64 a')).setCell ⟨P, 1, none⟩ (.int .i64 b')).setCell ⟨P, 2, none⟩ (.int .i64 f')).setCell ⟨P, 3, none⟩ (.int .i64 s')).setCell ⟨P, 4, none⟩ (.slice ov' L'.length cv')).cell? ⟨w.heap.size, 4, none⟩ = some (.slice none 0 0) := block_cell rS 4 _ rfl
   have q4 : (((((w5.setCell ⟨P, 0, none⟩ (.int .i64 a')).setCell ⟨P, 1, none⟩ (.int .i64 b')).setCell ⟨P, 2, none⟩ (.int .i64 f')).setCell ⟨P, 3, none⟩ (.int .i64 s')).setCell ⟨P, 4, none⟩ (.slice ov' L'.length cv')).frozen? ⟨w.heap.size, 4, none⟩ = false := block_frozen rS 4
   have e5 : (((((w5.setCell ⟨P, 0, none⟩ (.int .i64 a')).setCell ⟨P, 1, none⟩ (.int .i64 b')).setCell ⟨P, 2, none⟩ (.int .i64 f')).setCell ⟨P, 3, none⟩ (.int .i64 s')).setCell ⟨P, 4, none⟩ (.slice ov' L'.length cv')).cell? ⟨w.heap.size, 5, none⟩ = some (.slice none 0 0) := block_cell rS 5 _ rfl
   have q5 : (((((w5.setCell ⟨P, 0, none⟩ (.int .i64 a')).setCell ⟨P, 1, none⟩ (.int .i64 b')).setCell ⟨P, 2, none⟩ (.int .i64 f')).setCell ⟨P, 3, none⟩ (.int .i64 s')).setCell ⟨P, 4, none⟩ (.slice ov' L'.length cv')).frozen? ⟨w.heap.size, 5, none⟩ = false := block_frozen rS 5
   have e6 : (((((w5.setCell ⟨P, 0, none⟩ (.int .i64 a')).setCell ⟨P, 1, none⟩ (.int .i64 b')).setCell ⟨P, 2, none⟩ (.int .i64 f')).setCell ⟨P, 3, none⟩ (.int .i64 s')).setCell ⟨P, 4, none⟩ (.slice ov' L'.length cv')).cell? ⟨w.heap.size, 6, none⟩ = some (.int .i64 0) := block_cell rS 6 _ rfl
   have q6 : (((((w5.setCell ⟨P, 0, none⟩ (.int .i64 a')).setCell ⟨P, 1, none⟩ (.int .i64 b')).setCell ⟨P, 2, none⟩ (.int .i64 f')).setCell ⟨P, 3, none⟩ (.int .i64 s')).setCell ⟨P, 4, none⟩ (.slice ov' L'.length cv')).frozen? ⟨w.heap.size, 6, none⟩ = false := block_frozen rS 6
   have e7 : (((((w5.setCell ⟨P, 0, none⟩ (.int .i64 a')).setCell ⟨P, 1, none⟩ (.int .i64 b')).setCell ⟨P, 2, none⟩ (.int .i64 f')).setCell ⟨P, 3, none⟩ (.int .i64 s')).setCell ⟨P, 4, none⟩ (.slice ov' L'.length cv')).cell? ⟨w.heap.size, 7, none⟩ = some (.int .i64 0) := block_cell rS 7 _ rfl
   have q7 : (((((w5.setCell ⟨P, 0, none⟩ (.int .i64 a')).setCell ⟨P, 1, none⟩ (.int .i64 b')).setCell ⟨P, 2, none⟩ (.int .i64 f')).setCell ⟨P, 3, none⟩ (.int .i64 s')).setCell ⟨P, 4, none⟩ (.slice ov' L'.length cv')).frozen? ⟨w.heap.size, 7, none⟩ = false := block_frozen rS 7
   have HD := hide d54
   clear rS d54 b54
   go_wp2
   refine bodyPost_ret (v := crr a' b' f' s' (.slice ov' L'.length cv') (.slice og g.length cg) pl st) (by simp [results, Tryd.results23, go_sem, e0, e1, e2, e3, e4, e5, e6, e7]) rfl ?_
   refine HD.out.finB hk hs0 hg0 a' b' f' s' pl st hLb' hLn' hg8 ?zb ?zr ?zq
   case zb => exact (put_at (put_at (put_at (put_at (put_at (put_at (put_at (put_at (Below.refl w.heap.size (((((w5.setCell ⟨P, 0, none⟩ (.int .i64 a')).setCell ⟨P, 1, none⟩ (.int .i64 b')).setCell ⟨P, 2, none⟩ (.int .i64 f')).setCell ⟨P, 3, none⟩ (.int .i64 s')).setCell ⟨P, 4, none⟩ (.slice ov' L'.length cv'))) 0 _) 1 _) 2 _) 3 _) 4 _) 5 _) 6 _) 7 _)
   case zr => (repeat (refine ownsRow_setCell_below ?_ hs0 _)); exact HD.out.row
   case zq => (repeat (refine ownsRow_setCell_below ?_ hs0 _)); exact HD.out.seg
  ·subst h
   have c5z : w4.cell? ⟨P, 5, none⟩ = some (.slice og g.length cg) := block_cell b4 5 _ rfl
   have cI : (w4.alloc (.cells #[.int .i64 (-1), .int .i64 0, .int .i64 (g.length : Int)] 3)).heap[w4.heap.size]? = some (.cells #[.int .i64 (-1), .int .i64 0, .int .i64 (g.length : Int)] 3 (0, 0)) := World.alloc_heap_new w4 _
   have d5 := d4.alloc hk0 (.cells #[.int .i64 (-1), .int .i64 0, .int .i64 (g.length : Int)] 3)
   have b5 := box_al b4 (.cells #[.int .i64 (-1), .int .i64 0, .int .i64 (g.length : Int)] 3)
   go_wp2_with fail
   refine (l1PickInt_any k w4.heap.size [(-1), 0, (g.length : Int)] _ d5.cur (by simp) (by omega) (by simp) (by simp) (ints_at [(-1), 0, (g.length : Int)] cI)).mono ?_
   rintro e w6 ⟨q6, hq6, rfl, hc6, hg6⟩
   have d6 := d5.call hg6 hc6 hk0
   have b6 := box_gr b5 hg6 hPk
   generalize ([(-1), 0, (g.length : Int)] : List Int).getD q6 0 = z at *
   clear d5 b5 d4 b4 hc6 hg6 cI
   have c6z : w6.cell? ⟨P, 6, none⟩ = some (.int .i64 pl) := block_cell b6 6 _ rfl
   have f6z : w6.frozen? ⟨P, 6, none⟩ = false := block_frozen b6 6
   obtain ⟨d7, b7⟩ := d6.set b6 hk0 hP0 6 (.int .i64 z)
   clear d6 b6
   have rS := box_gr hR0 d7.gr hkR
   have y0 : (w6.setCell ⟨P, 6, none⟩ (.int .i64 z)).cell? ⟨P, 0, none⟩ = some (.int .i64 a) := block_cell b7 0 _ rfl
   have y1 : (w6.setCell ⟨P, 6, none⟩ (.int .i64 z)).cell? ⟨P, 1, none⟩ = some (.int .i64 b) := block_cell b7 1 _ rfl
   have y2 : (w6.setCell ⟨P, 6, none⟩ (.int .i64 z)).cell? ⟨P, 2, none⟩ = some (.int .i64 f) := block_cell b7 2 _ rfl
   have y3 : (w6.setCell ⟨P, 6, none⟩ (.int .i64 z)).cell? ⟨P, 3, none⟩ = some (.int .i64 s) := block_cell b7 3 _ rfl
   have y4 : (w6.setCell ⟨P, 6, none⟩ (.int .i64 z)).cell? ⟨P, 4, none⟩ = some (.slice ov L.length cv) := block_cell b7 4 _ rfl
   have y5 : (w6.setCell ⟨P, 6, none⟩ (.int .i64 z)).cell? ⟨P, 5, none⟩ = some (.slice og g.length cg) := block_cell b7 5 _ rfl
   have y6 : (w6.setCell ⟨P, 6, none⟩ (.int .i64 z)).cell? ⟨P, 6, none⟩ = some (.int .i64 z) := block_cell b7 6 _ rfl
   have y7 : (w6.setCell ⟨P, 6, none⟩ (.int .i64 z)).cell? ⟨P, 7, none⟩ = some (.int .i64 st) := block_cell b7 7 _ rfl
   have e0 : (w6.setCell ⟨P, 6, none⟩ (.int .i64 z)).cell? ⟨w.heap.size, 0, none⟩ = some (.int .i64 0) := block_cell rS 0 _ rfl
   have q0 : (w6.setCell ⟨P, 6, none⟩ (.int .i64 z)).frozen? ⟨w.heap.size, 0, none⟩ = false := block_frozen rS 0
   have e1 : (w6.setCell ⟨P, 6, none⟩ (.int .i64 z)).cell? ⟨w.heap.size, 1, none⟩ = some (.int .i64 0) := block_cell rS 1 _ rfl
   have q1 : (w6.setCell ⟨P, 6, none⟩ (.int .i64 z)).frozen? ⟨w.heap.size, 1, none⟩ = false := block_frozen rS 1
   have e2 : (w6.setCell ⟨P, 6, none⟩ (.int .i64 z)).cell? ⟨w.heap.size, 2, none⟩ = some (.int .i64 0) := block_cell rS 2 _ rfl
   have q2 : (w6.setCell ⟨P, 6, none⟩ (.int .i64 z)).frozen? ⟨w.heap.size, 2, none⟩ = false := block_frozen rS 2
   have e3 : (w6.setCell ⟨P, 6, none⟩ (.int .i64 z)).cell? ⟨w.heap.size, 3, none⟩ = some (.int .i64 0) := block_cell rS 3 _ rfl
   have q3 : (w6.setCell ⟨P, 6, none⟩ (.int .i64 z)).frozen? ⟨w.heap.size, 3, none⟩ = false := block_frozen rS 3
   have e4 : (w6.setCell ⟨P, 6, none⟩ (.int .i64 z)).cell? ⟨w.heap.size, 4, none⟩ = some (.slice none 0 0) := block_cell rS 4 _ rfl
   have q4 : (w6.setCell ⟨P, 6, none⟩ (.int .i64 z)).frozen? ⟨w.heap.size, 4, none⟩ = false := block_frozen rS 4
   have e5 : (w6.setCell ⟨P, 6, none⟩ (.int .i64 z)).cell? ⟨w.heap.size, 5, none⟩ = some (.slice none 0 0) := block_cell rS 5 _ rfl
   have q5 : (w6.setCell ⟨P, 6, none⟩ (.int .i64 z)).frozen? ⟨w.heap.size, 5, none⟩ = false := block_frozen rS 5
   have e6 : (w6.setCell ⟨P, 6, none⟩ (.int .i64 z)).cell? ⟨w.heap.size, 6, none⟩ = some (.int .i64 0) := block_cell rS 6 _ rfl
   have q6 : (w6.setCell ⟨P, 6, none⟩ (.int .i64 z)).frozen? ⟨w.heap.size, 6, none⟩ = false := block_frozen rS 6
   have e7 : (w6.setCell ⟨P, 6, none⟩ (.int .i64 z)).cell? ⟨w.heap.size, 7, none⟩ = some (.int .i64 0) := block_cell rS 7 _ rfl
   have q7 : (w6.setCell ⟨P, 6, none⟩ (.int .i64 z)).frozen? ⟨w.heap.size, 7, none⟩ = false := block_frozen rS 7
   have HD := hide d7
   clear rS d7 b7
   go_wp2
   refine bodyPost_ret (v := crr a b f s (.slice ov L.length cv) (.slice og g.length cg) z st) (by simp [results, Tryd.results23, go_sem, e0, e1, e2, e3, e4, e5, e6, e7]) rfl ?_
   refine HD.out.finB hk hs0 hg0 a b f s z st hLb hL2 hg8 ?zb ?zr ?zq
   case zb => exact (put_at (put_at (put_at (put_at (put_at (put_at (put_at (put_at (Below.refl w.heap.size (w6.setCell ⟨P, 6, none⟩ (.int .i64 z))) 0 _) 1 _) 2 _) 3 _) 4 _) 5 _) 6 _) 7 _)
   case zr => (repeat (refine ownsRow_setCell_below ?_ hs0 _)); exact HD.out.row
   case zq => (repeat (refine ownsRow_setCell_below ?_ hs0 _)); exact HD.out.seg
  ·subst h
   have cI : (w4.alloc (.cells #[.int .i64 (-1), .int .i64 0, .int .i64 5, .int .i64 6] 3)).heap[w4.heap.size]? = some (.cells #[.int .i64 (-1), .int .i64 0, .int .i64 5, .int .i64 6] 3 (0, 0)) := World.alloc_heap_new w4 _
   have dI := d4.alloc hk0 (.cells #[.int .i64 (-1), .int .i64 0, .int .i64 5, .int .i64 6] 3)
   have bI := box_al b4 (.cells #[.int .i64 (-1), .int .i64 0, .int .i64 5, .int .i64 6] 3)
   have c4z : w4.cell? ⟨P, 5, none⟩ = some (.slice og g.length cg) := block_cell b4 5 _ rfl
   have c4a : ∀ O, (w4.alloc O).cell? ⟨P, 5, none⟩ = some (.slice og g.length cg) := fun O => block_cell (box_al b4 O) 5 _ rfl
   go_wp2
   go_region_law (first | (refine step_append_lay appG rfl (.tmp 28) (.tmp 36) rfl w0.heap.size (.slice og g.length cg) g rfl (dF.alloc hk0 _).seg (some ⟨wF.heap.size, 0, none⟩) 1 _ [(px, z - 1)] 1 rfl rfl (fun h => by cases h) (rd_seg1 wF px (z - 1)) (by simp; omega) (dF.alloc hk0 _).gr.size ?_; intro va wa hva hga _; obtain ⟨oa, ka, ea, _⟩ := (ownG_lay.2 hva).open; obtain ⟨na, hna⟩ : ∃ n, (g ++ [((px : Int), z - 1)]).length = n := ⟨_, rfl⟩; have HNA := hide hna; rw [hna] at ea; rw [ea] at hva ⊢; clear hna; obtain ⟨da, ba⟩ := (dF.alloc hk0 _).app (box_al bF _) hk0 hva hga; have ca : wa.cell? ⟨P, 5, none⟩ = some (.slice og g.length cg) := block_cell ba 5 _ rfl; have fa : wa.frozen? ⟨P, 5, none⟩ = false := block_frozen ba 5) | (go_simp; go_at_call 41; refine (l1Below_any k 4 _ (dP).cur (by omega) (by omega)).mono ?_; rintro e wF ⟨z, rfl, hz0, hz1, hcB, hgB⟩; have hzw := wrap_less z hz0 hz1; have hzw2 := wrap_less' z hz0 hz1; have dF := (dP).call hgB hcB hk0; have bF := box_gr (W := wP) (bP) hgB hPk; have cwF : wF.cell? ⟨P, 5, none⟩ = some (.slice og g.length cg) := block_cell bF 5 _ rfl; have cwFa : ∀ O, (wF.alloc O).cell? ⟨P, 5, none⟩ = some (.slice og g.length cg) := (fun O => block_cell (box_al bF O) 5 _ rfl); dsimp only) | (go_simp; go_at_call 55; refine (l1PickInt_any k (w4.heap.size) [-1, 0, 5, 6] _ (dC).cur ?_ (by omega) (by simp) (by simp) (ints_at [-1, 0, 5, 6] (iC))).mono ?_; (focus (first | (simp; done) | (simp; omega) | omega)); rintro e wF ⟨q6, hq6, rfl, hcP, hgP⟩; have dF := (dC).call hgP hcP hk0; have bF := box_gr (W := wC) (bC) hgP hPk; generalize ([-1, 0, 5, 6] : List Int).getD q6 0 = px at *; have cwF : wF.cell? ⟨P, 5, none⟩ = some (.slice og g.length cg) := block_cell bF 5 _ rfl; have cwFa : ∀ O, (wF.alloc O).cell? ⟨P, 5, none⟩ = some (.slice og g.length cg) := (fun O => block_cell (box_al bF O) 5 _ rfl); dsimp only) | (go_simp; go_at_call 55; refine (l1PickInt_any k (wB.heap.size) [-1, 0, 5, 6] _ (dB.alloc hk0 (.cells #[.int .i64 (-1), .int .i64 0, .int .i64 5, .int .i64 6] 3)).cur ?_ (by omega) (by simp) (by simp) (ints_at [-1, 0, 5, 6] (World.alloc_heap_new wB _))).mono ?_; (focus (first | (simp; done) | (simp; omega) | omega)); rintro e wF ⟨q6, hq6, rfl, hcP, hgP⟩; have dF := (dB.alloc hk0 (.cells #[.int .i64 (-1), .int .i64 0, .int .i64 5, .int .i64 6] 3)).call hgP hcP hk0; have bF := box_gr (W := wB.alloc (.cells #[.int .i64 (-1), .int .i64 0, .int .i64 5, .int .i64 6] 3)) (box_al bB (.cells #[.int .i64 (-1), .int .i64 0, .int .i64 5, .int .i64 6] 3)) hgP hPk; generalize ([-1, 0, 5, 6] : List Int).getD q6 0 = px at *; have cwF : wF.cell? ⟨P, 5, none⟩ = some (.slice og g.length cg) := block_cell bF 5 _ rfl; have cwFa : ∀ O, (wF.alloc O).cell? ⟨P, 5, none⟩ = some (.slice og g.length cg) := (fun O => block_cell (box_al bF O) 5 _ rfl); dsimp only) | (go_simp; go_at_call 55; refine (l1PickInt_any k (w4.heap.size) [-1, 0, 5, 6] _ (dI.drew).cur ?_ (by omega) (by simp) (by simp) (ints_at [-1, 0, 5, 6] (cI))).mono ?_; (focus (first | (simp; done) | (simp; omega) | omega)); rintro e wP ⟨q6, hq6, rfl, hcP, hgP⟩; have dP := (dI.drew).call hgP hcP hk0; have bP := box_gr (W := (w4.alloc (.cells #[.int .i64 (-1), .int .i64 0, .int .i64 5, .int .i64 6] 3)).drew) (bI) hgP hPk; generalize ([-1, 0, 5, 6] : List Int).getD q6 0 = px at *; have cwP : wP.cell? ⟨P, 5, none⟩ = some (.slice og g.length cg) := block_cell bP 5 _ rfl; have cwPa : ∀ O, (wP.alloc O).cell? ⟨P, 5, none⟩ = some (.slice og g.length cg) := (fun O => block_cell (box_al bP O) 5 _ rfl); dsimp only) | (go_simp; go_at_call 41; refine (l1Below_any k 4 _ (dI.drew).cur (by omega) (by omega)).mono ?_; rintro e wC ⟨z, rfl, hz0, hz1, hcB, hgB⟩; have hzw := wrap_less z hz0 hz1; have hzw2 := wrap_less' z hz0 hz1; have dC := (dI.drew).call hgB hcB hk0; have bC := box_gr (W := (w4.alloc (.cells #[.int .i64 (-1), .int .i64 0, .int .i64 5, .int .i64 6] 3)).drew) (bI) hgB hPk; have cwC : wC.cell? ⟨P, 5, none⟩ = some (.slice og g.length cg) := block_cell bC 5 _ rfl; have cwCa : ∀ O, (wC.alloc O).cell? ⟨P, 5, none⟩ = some (.slice og g.length cg) := (fun O => block_cell (box_al bC O) 5 _ rfl); have iC := box_gr (W := (w4.alloc (.cells #[.int .i64 (-1), .int .i64 0, .int .i64 5, .int .i64 6] 3)).drew) cI hgB (by omega); have lC : w4.heap.size < wC.heap.size := box_lt iC; dsimp only) | (go_simp; go_at_call 41; refine (l1Below_any k 4 _ (d4.drew).cur (by omega) (by omega)).mono ?_; rintro e wB ⟨z, rfl, hz0, hz1, hcB, hgB⟩; have hzw := wrap_less z hz0 hz1; have hzw2 := wrap_less' z hz0 hz1; have dB := (d4.drew).call hgB hcB hk0; have bB := box_gr (W := w4.drew) (b4) hgB hPk; have cwB : wB.cell? ⟨P, 5, none⟩ = some (.slice og g.length cg) := block_cell bB 5 _ rfl; have cwBa : ∀ O, (wB.alloc O).cell? ⟨P, 5, none⟩ = some (.slice og g.length cg) := (fun O => block_cell (box_al bB O) 5 _ rfl); dsimp only))
   all_goals (
    have HL2 : Hid ((g ++ [((px : Int), z - 1)]).length ≤ 8) := by unfold Hid; rw [List.length_append]; simp only [List.length_cons, List.length_nil]; omega
    obtain ⟨db, bb⟩ := da.set ba hk0 hP0 5 (.slice oa na ka)
    clear hva hga da ba dF bF cI dI bI c4a c4z
    have rS := box_gr hR0 db.gr hkR
    have y0 : (wa.setCell ⟨P, 5, none⟩ (.slice oa na ka)).cell? ⟨P, 0, none⟩ = some (.int .i64 a) := block_cell bb 0 _ rfl
    have y1 : (wa.setCell ⟨P, 5, none⟩ (.slice oa na ka)).cell? ⟨P, 1, none⟩ = some (.int .i64 b) := block_cell bb 1 _ rfl
    have y2 : (wa.setCell ⟨P, 5, none⟩ (.slice oa na ka)).cell? ⟨P, 2, none⟩ = some (.int .i64 f) := block_cell bb 2 _ rfl
    have y3 : (wa.setCell ⟨P, 5, none⟩ (.slice oa na ka)).cell? ⟨P, 3, none⟩ = some (.int .i64 s) := block_cell bb 3 _ rfl
    have y4 : (wa.setCell ⟨P, 5, none⟩ (.slice oa na ka)).cell? ⟨P, 4, none⟩ = some (.slice ov L.length cv) := block_cell bb 4 _ rfl
    have y5 : (wa.setCell ⟨P, 5, none⟩ (.slice oa na ka)).cell? ⟨P, 5, none⟩ = some (.slice oa na ka) := block_cell bb 5 _ rfl
    have y6 : (wa.setCell ⟨P, 5, none⟩ (.slice oa na ka)).cell? ⟨P, 6, none⟩ = some (.int .i64 pl) := block_cell bb 6 _ rfl
    have y7 : (wa.setCell ⟨P, 5, none⟩ (.slice oa na ka)).cell? ⟨P, 7, none⟩ = some (.int .i64 st) := block_cell bb 7 _ rfl
    have e0 : (wa.setCell ⟨P, 5, none⟩ (.slice oa na ka)).cell? ⟨w.heap.size, 0, none⟩ = some (.int .i64 0) := block_cell rS 0 _ rfl
    have q0 : (wa.setCell ⟨P, 5, none⟩ (.slice oa na ka)).frozen? ⟨w.heap.size, 0, none⟩ = false := block_frozen rS 0
    have e1 : (wa.setCell ⟨P, 5, none⟩ (.slice oa na ka)).cell? ⟨w.heap.size, 1, none⟩ = some (.int .i64 0) := block_cell rS 1 _ rfl
    have q1 : (wa.setCell ⟨P, 5, none⟩ (.slice oa na ka)).frozen? ⟨w.heap.size, 1, none⟩ = false := block_frozen rS 1
    have e2 : (wa.setCell ⟨P, 5, none⟩ (.slice oa na ka)).cell? ⟨w.heap.size, 2, none⟩ = some (.int .i64 0) := block_cell rS 2 _ rfl
    have q2 : (wa.setCell ⟨P, 5, none⟩ (.slice oa na ka)).frozen? ⟨w.heap.size, 2, none⟩ = false := block_frozen rS 2
    have e3 : (wa.setCell ⟨P, 5, none⟩ (.slice oa na ka)).cell? ⟨w.heap.size, 3, none⟩ = some (.int .i64 0) := block_cell rS 3 _ rfl
    have q3 : (wa.setCell ⟨P, 5, none⟩ (.slice oa na ka)).frozen? ⟨w.heap.size, 3, none⟩ = false := block_frozen rS 3
    have e4 : (wa.setCell ⟨P, 5, none⟩ (.slice oa na ka)).cell? ⟨w.heap.size, 4, none⟩ = some (.slice none 0 0) := block_cell rS 4 _ rfl
    have q4 : (wa.setCell ⟨P, 5, none⟩ (.slice oa na ka)).frozen? ⟨w.heap.size, 4, none⟩ = false := block_frozen rS 4
    have e5 : (wa.setCell ⟨P, 5, none⟩ (.slice oa na ka)).cell? ⟨w.heap.size, 5, none⟩ = some (.slice none 0 0) := block_cell rS 5 _ rfl
    have q5 : (wa.setCell ⟨P, 5, none⟩ (.slice oa na ka)).frozen? ⟨w.heap.size, 5, none⟩ = false := block_frozen rS 5
    have e6 : (wa.setCell ⟨P, 5, none⟩ (.slice oa na ka)).cell? ⟨w.heap.size, 6, none⟩ = some (.int .i64 0) := block_cell rS 6 _ rfl
    have q6 : (wa.setCell ⟨P, 5, none⟩ (.slice oa na ka)).frozen? ⟨w.heap.size, 6, none⟩ = false := block_frozen rS 6
    have e7 : (wa.setCell ⟨P, 5, none⟩ (.slice oa na ka)).cell? ⟨w.heap.size, 7, none⟩ = some (.int .i64 0) := block_cell rS 7 _ rfl
    have q7 : (wa.setCell ⟨P, 5, none⟩ (.slice oa na ka)).frozen? ⟨w.heap.size, 7, none⟩ = false := block_frozen rS 7
    have HD := hide db
    clear rS db bb
    go_wp2
    refine bodyPost_ret (v := crr a b f s (.slice ov L.length cv) (.slice oa na ka) pl st) (by simp [results, Tryd.results23, go_sem, e0, e1, e2, e3, e4, e5, e6, e7]) rfl ?_
    refine HD.out.finB hk hs0 hg0 a b f s pl st hLb hL2 HL2.out ?zb ?zr ?zq
    case zb => exact (put_at (put_at (put_at (put_at (put_at (put_at (put_at (put_at (Below.refl w.heap.size (wa.setCell ⟨P, 5, none⟩ (.slice oa na ka))) 0 _) 1 _) 2 _) 3 _) 4 _) 5 _) 6 _) 7 _)
    case zr => (repeat (refine ownsRow_setCell_below ?_ hs0 _)); exact HD.out.row
    case zq => (repeat (refine ownsRow_setCell_below ?_ hs0 _)); exact HD.out.seg)
  ·subst h
   have cI : (w4.alloc (.cells #[.int .i64 (-1), .int .i64 100000, .int .i64 100001] 3)).heap[w4.heap.size]? = some (.cells #[.int .i64 (-1), .int .i64 100000, .int .i64 100001] 3 (0, 0)) := World.alloc_heap_new w4 _
   have d5 := d4.alloc hk0 (.cells #[.int .i64 (-1), .int .i64 100000, .int .i64 100001] 3)
   have b5 := box_al b4 (.cells #[.int .i64 (-1), .int .i64 100000, .int .i64 100001] 3)
   go_wp2_with fail
   refine (l1PickInt_any k w4.heap.size [(-1), 100000, 100001] _ d5.cur (by simp) (by omega) (by simp) (by simp) (ints_at [(-1), 100000, 100001] cI)).mono ?_
   rintro e w6 ⟨q6, hq6, rfl, hc6, hg6⟩
   have d6 := d5.call hg6 hc6 hk0
   have b6 := box_gr b5 hg6 hPk
   generalize ([(-1), 100000, 100001] : List Int).getD q6 0 = z at *
   clear d5 b5 d4 b4 hc6 hg6 cI
   have c6z : w6.cell? ⟨P, 7, none⟩ = some (.int .i64 st) := block_cell b6 7 _ rfl
   have f6z : w6.frozen? ⟨P, 7, none⟩ = false := block_frozen b6 7
   obtain ⟨d7, b7⟩ := d6.set b6 hk0 hP0 7 (.int .i64 z)
   clear d6 b6
   have rS := box_gr hR0 d7.gr hkR
   have y0 : (w6.setCell ⟨P, 7, none⟩ (.int .i64 z)).cell? ⟨P, 0, none⟩ = some (.int .i64 a) := block_cell b7 0 _ rfl
   have y1 : (w6.setCell ⟨P, 7, none⟩ (.int .i64 z)).cell? ⟨P, 1, none⟩ = some (.int .i64 b) := block_cell b7 1 _ rfl
   have y2 : (w6.setCell ⟨P, 7, none⟩ (.int .i64 z)).cell? ⟨P, 2, none⟩ = some (.int .i64 f) := block_cell b7 2 _ rfl
   have y3 : (w6.setCell ⟨P, 7, none⟩ (.int .i64 z)).cell? ⟨P, 3, none⟩ = some (.int .i64 s) := block_cell b7 3 _ rfl
   have y4 : (w6.setCell ⟨P, 7, none⟩ (.int .i64 z)).cell? ⟨P, 4, none⟩ = some (.slice ov L.length cv) := block_cell b7 4 _ rfl
   have y5 : (w6.setCell ⟨P, 7, none⟩ (.int .i64 z)).cell? ⟨P, 5, none⟩ = some (.slice og g.length cg) := block_cell b7 5 _ rfl
   have y6 : (w6.setCell ⟨P, 7, none⟩ (.int .i64 z)).cell? ⟨P, 6, none⟩ = some (.int .i64 pl) := block_cell b7 6 _ rfl
   have y7 : (w6.setCell ⟨P, 7, none⟩ (.int .i64 z)).cell? ⟨P, 7, none⟩ = some (.int .i64 z) := block_cell b7 7 _ rfl
   have e0 : (w6.setCell ⟨P, 7, none⟩ (.int .i64 z)).cell? ⟨w.heap.size, 0, none⟩ = some (.int .i64 0) := block_cell rS 0 _ rfl
   have q0 : (w6.setCell ⟨P, 7, none⟩ (.int .i64 z)).frozen? ⟨w.heap.size, 0, none⟩ = false := block_frozen rS 0
   have e1 : (w6.setCell ⟨P, 7, none⟩ (.int .i64 z)).cell? ⟨w.heap.size, 1, none⟩ = some (.int .i64 0) := block_cell rS 1 _ rfl
   have q1 : (w6.setCell ⟨P, 7, none⟩ (.int .i64 z)).frozen? ⟨w.heap.size, 1, none⟩ = false := block_frozen rS 1
   have e2 : (w6.setCell ⟨P, 7, none⟩ (.int .i64 z)).cell? ⟨w.heap.size, 2, none⟩ = some (.int .i64 0) := block_cell rS 2 _ rfl
   have q2 : (w6.setCell ⟨P, 7, none⟩ (.int .i64 z)).frozen? ⟨w.heap.size, 2, none⟩ = false := block_frozen rS 2
   have e3 : (w6.setCell ⟨P, 7, none⟩ (.int .i64 z)).cell? ⟨w.heap.size, 3, none⟩ = some (.int .i64 0) := block_cell rS 3 _ rfl
   have q3 : (w6.setCell ⟨P, 7, none⟩ (.int .i64 z)).frozen? ⟨w.heap.size, 3, none⟩ = false := block_frozen rS 3
   have e4 : (w6.setCell ⟨P, 7, none⟩ (.int .i64 z)).cell? ⟨w.heap.size, 4, none⟩ = some (.slice none 0 0) := block_cell rS 4 _ rfl
   have q4 : (w6.setCell ⟨P, 7, none⟩ (.int .i64 z)).frozen? ⟨w.heap.size, 4, none⟩ = false := block_frozen rS 4
   have e5 : (w6.setCell ⟨P, 7, none⟩ (.int .i64 z)).cell? ⟨w.heap.size, 5, none⟩ = some (.slice none 0 0) := block_cell rS 5 _ rfl
   have q5 : (w6.setCell ⟨P, 7, none⟩ (.int .i64 z)).frozen? ⟨w.heap.size, 5, none⟩ = false := block_frozen rS 5
   have e6 : (w6.setCell ⟨P, 7, none⟩ (.int .i64 z)).cell? ⟨w.heap.size, 6, none⟩ = some (.int .i64 0) := block_cell rS 6 _ rfl
   have q6 : (w6.setCell ⟨P, 7, none⟩ (.int .i64 z)).frozen? ⟨w.heap.size, 6, none⟩ = false := block_frozen rS 6
   have e7 : (w6.setCell ⟨P, 7, none⟩ (.int .i64 z)).cell? ⟨w.heap.size, 7, none⟩ = some (.int .i64 0) := block_cell rS 7 _ rfl
   have q7 : (w6.setCell ⟨P, 7, none⟩ (.int .i64 z)).frozen? ⟨w.heap.size, 7, none⟩ = false := block_frozen rS 7
   have HD := hide d7
   clear rS d7 b7
   go_wp2
   refine bodyPost_ret (v := crr a b f s (.slice ov L.length cv) (.slice og g.length cg) pl z) (by simp [results, Tryd.results23, go_sem, e0, e1, e2, e3, e4, e5, e6, e7]) rfl ?_
   refine HD.out.finB hk hs0 hg0 a b f s pl z hLb hL2 hg8 ?zb ?zr ?zq
   case zb => exact (put_at (put_at (put_at (put_at (put_at (put_at (put_at (put_at (Below.refl w.heap.size (w6.setCell ⟨P, 7, none⟩ (.int .i64 z))) 0 _) 1 _) 2 _) 3 _) 4 _) 5 _) 6 _) 7 _)
   case zr => (repeat (refine ownsRow_setCell_below ?_ hs0 _)); exact HD.out.row
   case zq => (repeat (refine ownsRow_setCell_below ?_ hs0 _)); exact HD.out.seg
  ·subst h
   have c5z : w4.cell? ⟨P, 5, none⟩ = some (.slice og g.length cg) := block_cell b4 5 _ rfl
   have f5z : w4.frozen? ⟨P, 5, none⟩ = false := block_frozen b4 5
   obtain ⟨d7, b7⟩ := d4.noseg.set b4 hk0 hP0 5 (.slice none 0 0)
   have hg0' : ([] : List (Int × Int)).length ≤ 8 := by decide
   clear d4 b4
   have rS := box_gr hR0 d7.gr hkR
   have y0 : (w4.setCell ⟨P, 5, none⟩ (.slice none 0 0)).cell? ⟨P, 0, none⟩ = some (.int .i64 a) := block_cell b7 0 _ rfl
   have y1 : (w4.setCell ⟨P, 5, none⟩ (.slice none 0 0)).cell? ⟨P, 1, none⟩ = some (.int .i64 b) := block_cell b7 1 _ rfl
   have y2 : (w4.setCell ⟨P, 5, none⟩ (.slice none 0 0)).cell? ⟨P, 2, none⟩ = some (.int .i64 f) := block_cell b7 2 _ rfl
   have y3 : (w4.setCell ⟨P, 5, none⟩ (.slice none 0 0)).cell? ⟨P, 3, none⟩ = some (.int .i64 s) := block_cell b7 3 _ rfl
   have y4 : (w4.setCell ⟨P, 5, none⟩ (.slice none 0 0)).cell? ⟨P, 4, none⟩ = some (.slice ov L.length cv) := block_cell b7 4 _ rfl
   have y5 : (w4.setCell ⟨P, 5, none⟩ (.slice none 0 0)).cell? ⟨P, 5, none⟩ = some (.slice none 0 0) := block_cell b7 5 _ rfl
   have y6 : (w4.setCell ⟨P, 5, none⟩ (.slice none 0 0)).cell? ⟨P, 6, none⟩ = some (.int .i64 pl) := block_cell b7 6 _ rfl
   have y7 : (w4.setCell ⟨P, 5, none⟩ (.slice none 0 0)).cell? ⟨P, 7, none⟩ = some (.int .i64 st) := block_cell b7 7 _ rfl
   have e0 : (w4.setCell ⟨P, 5, none⟩ (.slice none 0 0)).cell? ⟨w.heap.size, 0, none⟩ = some (.int .i64 0) := block_cell rS 0 _ rfl
   have q0 : (w4.setCell ⟨P, 5, none⟩ (.slice none 0 0)).frozen? ⟨w.heap.size, 0, none⟩ = false := block_frozen rS 0
   have e1 : (w4.setCell ⟨P, 5, none⟩ (.slice none 0 0)).cell? ⟨w.heap.size, 1, none⟩ = some (.int .i64 0) := block_cell rS 1 _ rfl
   have q1 : (w4.setCell ⟨P, 5, none⟩ (.slice none 0 0)).frozen? ⟨w.heap.size, 1, none⟩ = false := block_frozen rS 1
   have e2 : (w4.setCell ⟨P, 5, none⟩ (.slice none 0 0)).cell? ⟨w.heap.size, 2, none⟩ = some (.int .i64 0) := block_cell rS 2 _ rfl
   have q2 : (w4.setCell ⟨P, 5, none⟩ (.slice none 0 0)).frozen? ⟨w.heap.size, 2, none⟩ = false := block_frozen rS 2
   have e3 : (w4.setCell ⟨P, 5, none⟩ (.slice none 0 0)).cell? ⟨w.heap.size, 3, none⟩ = some (.int .i64 0) := block_cell rS 3 _ rfl
   have q3 : (w4.setCell ⟨P, 5, none⟩ (.slice none 0 0)).frozen? ⟨w.heap.size, 3, none⟩ = false := block_frozen rS 3
   have e4 : (w4.setCell ⟨P, 5, none⟩ (.slice none 0 0)).cell? ⟨w.heap.size, 4, none⟩ = some (.slice none 0 0) := block_cell rS 4 _ rfl
   have q4 : (w4.setCell ⟨P, 5, none⟩ (.slice none 0 0)).frozen? ⟨w.heap.size, 4, none⟩ = false := block_frozen rS 4
   have e5 : (w4.setCell ⟨P, 5, none⟩ (.slice none 0 0)).cell? ⟨w.heap.size, 5, none⟩ = some (.slice none 0 0) := block_cell rS 5 _ rfl
   have q5 : (w4.setCell ⟨P, 5, none⟩ (.slice none 0 0)).frozen? ⟨w.heap.size, 5, none⟩ = false := block_frozen rS 5
   have e6 : (w4.setCell ⟨P, 5, none⟩ (.slice none 0 0)).cell? ⟨w.heap.size, 6, none⟩ = some (.int .i64 0) := block_cell rS 6 _ rfl
   have q6 : (w4.setCell ⟨P, 5, none⟩ (.slice none 0 0)).frozen? ⟨w.heap.size, 6, none⟩ = false := block_frozen rS 6
   have e7 : (w4.setCell ⟨P, 5, none⟩ (.slice none 0 0)).cell? ⟨w.heap.size, 7, none⟩ = some (.int .i64 0) := block_cell rS 7 _ rfl
   have q7 : (w4.setCell ⟨P, 5, none⟩ (.slice none 0 0)).frozen? ⟨w.heap.size, 7, none⟩ = false := block_frozen rS 7
   have HD := hide d7
   clear rS d7 b7
   go_wp2
   refine bodyPost_ret (v := crr a b f s (.slice ov L.length cv) (.slice none 0 0) pl st) (by simp [results, Tryd.results23, go_sem, e0, e1, e2, e3, e4, e5, e6, e7]) rfl ?_
   refine HD.out.finB hk hs0 hg0 a b f s pl st hLb hL2 hg0' ?zb ?zr ?zq
   case zb => exact (put_at (put_at (put_at (put_at (put_at (put_at (put_at (put_at (Below.refl w.heap.size (w4.setCell ⟨P, 5, none⟩ (.slice none 0 0))) 0 _) 1 _) 2 _) 3 _) 4 _) 5 _) 6 _) 7 _)
   case zr => (repeat (refine ownsRow_setCell_below ?_ hs0 _)); exact HD.out.row
   case zq => (repeat (refine ownsRow_setCell_below ?_ hs0 _)); exact HD.out.seg


set_option maxRecDepth 100000 in
set_option maxHeartbeats 2000000 in
theorem drawCarrierBytes_any (o : Option Addr) (cap : Nat) (l : List Int) (w : World) (hR : Rd w o l) (hB8 : isB l) (hm : l.length ≤ maxLen) :
  Calls Tryd.prog 5 #[.slice o l.length cap] w fun e w' => ∃ (v : Value) (m : Cm), e = .returned v ∧ ownCm w' w.heap.size v m ∧ isB m.l ∧ m.l.length ≤ 2000 ∧ m.g.length ≤ 8 ∧ Below w.heap.size w w' := by
 have hR0 : (w.alloc (.cells #[.int .i64 0, .int .i64 0, .int .i64 0, .int .i64 0, .slice none 0 0, .slice none 0 0, .int .i64 0, .int .i64 0] 29)).heap[w.heap.size]? = some (.cells #[.int .i64 0, .int .i64 0, .int .i64 0, .int .i64 0, .slice none 0 0, .slice none 0 0, .int .i64 0, .int .i64 0] 29 (0, 0)) := World.alloc_heap_new w _
 have hb0 : Below w.heap.size w (w.alloc (.cells #[.int .i64 0, .int .i64 0, .int .i64 0, .int .i64 0, .slice none 0 0, .slice none 0 0, .int .i64 0, .int .i64 0] 29)) := (Below.refl _ _).alloc (Nat.le_refl _) _
 have hRd := hR.kept hb0
 go_enter Tryd.func5, Tryd.ntmps5
 go_wp2_with fail
 generalize hw0 : w.alloc (.cells #[.int .i64 0, .int .i64 0, .int .i64 0, .int .i64 0, .slice none 0 0, .slice none 0 0, .int .i64 0, .int .i64 0] 29) = w0 at *
 have hs0 : w.heap.size < w0.heap.size := by rw [← hw0]; simp
 clear hw0
 refine (l1New_any o cap l w0 hRd hB8 hm).mono ?_
 rintro e w1 ⟨rfl, hc1, hb1, hs1⟩
 go_wp2_with fail
 refine (l2bent_any w0.heap.size w1 hc1 hs1).mono ?_
 rintro e w2 ⟨v, ⟨a, b, f, s, L, g, pl, st⟩, rfl, ⟨vl, vg, rfl, hrw, hsg⟩, hLb, hLn, hgn, hc2, hg2⟩
 dsimp only at hrw hsg hLb hLn hgn ⊢
 obtain ⟨ov, cv, ev, _⟩ := hrw.open
 subst ev
 obtain ⟨og, cg, eg, _⟩ := hsg.open
 subst eg
 have hb2 : Below w0.heap.size w1 w2 := below_of_grown hg2 hs1
 have rS := ((hb1.trans hb2).block _ hs0).trans hR0
 have hb02 : Below w.heap.size w w2 := hb0.trans ((hb1.trans hb2).mono (Nat.le_of_lt hs0))
 have hRw1 : w.heap.size < w1.heap.size := by omega
 have e0 : w2.cell? ⟨w.heap.size, 0, none⟩ = some (.int .i64 0) := block_cell rS 0 _ rfl
 have q0 : w2.frozen? ⟨w.heap.size, 0, none⟩ = false := block_frozen rS 0
 have e1 : w2.cell? ⟨w.heap.size, 1, none⟩ = some (.int .i64 0) := block_cell rS 1 _ rfl
 have q1 : w2.frozen? ⟨w.heap.size, 1, none⟩ = false := block_frozen rS 1
 have e2 : w2.cell? ⟨w.heap.size, 2, none⟩ = some (.int .i64 0) := block_cell rS 2 _ rfl
 have q2 : w2.frozen? ⟨w.heap.size, 2, none⟩ = false := block_frozen rS 2
 have e3 : w2.cell? ⟨w.heap.size, 3, none⟩ = some (.int .i64 0) := block_cell rS 3 _ rfl
 have q3 : w2.frozen? ⟨w.heap.size, 3, none⟩ = false := block_frozen rS 3
 have e4 : w2.cell? ⟨w.heap.size, 4, none⟩ = some (.slice none 0 0) := block_cell rS 4 _ rfl
 have q4 : w2.frozen? ⟨w.heap.size, 4, none⟩ = false := block_frozen rS 4
 have e5 : w2.cell? ⟨w.heap.size, 5, none⟩ = some (.slice none 0 0) := block_cell rS 5 _ rfl
 have q5 : w2.frozen? ⟨w.heap.size, 5, none⟩ = false := block_frozen rS 5
 have e6 : w2.cell? ⟨w.heap.size, 6, none⟩ = some (.int .i64 0) := block_cell rS 6 _ rfl
 have q6 : w2.frozen? ⟨w.heap.size, 6, none⟩ = false := block_frozen rS 6
 have e7 : w2.cell? ⟨w.heap.size, 7, none⟩ = some (.int .i64 0) := block_cell rS 7 _ rfl
 have q7 : w2.frozen? ⟨w.heap.size, 7, none⟩ = false := block_frozen rS 7
 have HRW := hide (And.intro hrw hsg)
 have HB := hide hb02
 clear hb1 hb2 hg2 hc1 hc2 hR hRd hb0 hrw hsg rS hR0 hb02
 go_wp2
 refine bodyPost_ret (v := crr a b f s (.slice ov L.length cv) (.slice og g.length cg) pl st) (by simp [results, Tryd.results5, go_sem, e0, e1, e2, e3, e4, e5, e6, e7]) rfl ?_
 refine ⟨_, ⟨a, b, f, s, L, g, pl, st⟩, rfl, ⟨_, _, rfl, own_mono (base := w1.heap.size) ?_ (Nat.le_of_lt hRw1), own_mono (base := w1.heap.size) ?_ (Nat.le_of_lt hRw1)⟩, hLb, hLn, hgn, ?_⟩
 ·(repeat (refine ownsRow_setCell_below ?_ hRw1 _)); exact HRW.out.1
 ·(repeat (refine ownsRow_setCell_below ?_ hRw1 _)); exact HRW.out.2
 ·exact HB.out.trans (put_at (put_at (put_at (put_at (put_at (put_at (put_at (put_at (Below.refl w.heap.size w2) 0 _) 1 _) 2 _) 3 _) 4 _) 5 _) 6 _) 7 _)

end Go.Proofs.YtoeoiljddcjphaaDoor

