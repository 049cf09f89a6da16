/- A drawn carrier: it may be; its rows are its own. -/
import Derived.Test.YtoeoiljddcjphaaSDraw5
import Derived.Test.YtoeoiljddcjphaaShC
import Derived.Deep.RegionLaw
namespace Go.Proofs.Ytoeoiljddcjphaa
open Go.ChangeShapes Go.WideShapes Go.ChangeAt Go.RowKit Go.Joins
set_option linter.unusedVariables false
set_option linter.unusedSimpArgs false


theorem routeR_zeros (op : Bool) (tl : List (Int × Int)) : ∀ (g : List (Int × Int)), (∀ p ∈ g, (0 ≤ p.1 ∧ p.1 < 4) ∧ p.2 = 0) → routeR op 0 (g ++ tl) = routeR op 0 tl
  | [], _ => rfl
  | p :: g, h => by
    have hp := h p (by simp)
    have ih := routeR_zeros op tl g (fun q hq => h q (List.mem_cons_of_mem _ hq))
    rw [List.cons_append, routeR, hp.2, ih]
    have : segOkB p.1 0 = true := segOkB_iff.2 ⟨hp.1.1, by omega, by omega, by omega⟩
    rw [this]
    simp
theorem routeR_two {op : Bool} (hop : op = true) {x y : Int} (hx : 0 ≤ x ∧ x < 4) (hy : 0 ≤ y ∧ y < 4) : routeR op 0 [(x, 1), (y, 1)] = true := by
  have h1 : segOkB x 1 = true := segOkB_iff.2 ⟨hx.1, by omega, by omega, by omega⟩
  have h2 : segOkB y 1 = true := segOkB_iff.2 ⟨hy.1, by omega, by omega, by omega⟩
  simp [routeR, h1, h2, hop]
theorem drawnP_ok {a b f s : Int} {n : Nat} (h : drawnP a b f s) (hn : n ≤ 4) : packetOkB a b f s n = true := by
  obtain ⟨h1, h2, h3, h4, h5⟩ := h
  refine packetOkB_iff.2 ⟨flowOkB_iff.2 (by omega), ?_, ?_, h4, by omega, by omega, ?_⟩
  all_goals (simp at h3; rcases h3 with h | h | h | h | h <;> subst h <;> decide +kernel)

/-- What is kept while a carrier is drawn: its rows, the cursor, and that nothing else has turned. -/
structure D2 (k : Nat) (w0 W : World) (v : Value) (L : List Int) (vg : Value) (g : List (Int × Int)) : Prop where
  row : ownB W w0.heap.size v L
  seg : ownL layG 35 W w0.heap.size vg g
  cur : isCur k W
  gr : w0.grownBy W (some k)
theorem own_ne {w : World} {base k n size : Nat} {e : TypeId} {v : Value} {xs : List Value} (h : w.ownsRow base e size v n xs) (hk : k < base) : v.ownBlock = none ∨ v.ownBlock ≠ some k := by
  cases hob : v.ownBlock with
  | none => exact .inl rfl
  | some j => right; have := (h.lt j hob).1; intro e; simp at e; omega
theorem box_lt {W : World} {P : Nat} {X : Obj} (h : W.heap[P]? = some X) : P < W.heap.size := (Array.getElem?_eq_some_iff.1 h).1
theorem box_gr {k P : Nat} {W W' : World} {X : Obj} (h : W.heap[P]? = some X) (hg : W.grownBy W' (some k)) (hne : P ≠ k) : W'.heap[P]? = some X := (hg.block P (box_lt h) (by simp [hne])).trans h
theorem box_al {P : Nat} {W : World} {X : Obj} (h : W.heap[P]? = some X) (O : Obj) : (W.alloc O).heap[P]? = some X := (Below.heap_alloc W O P (box_lt h)).trans h
theorem box_no {W : World} {B : Nat} {c : Array Value} {t e : TypeId} {z : Nat × Nat} (h : W.heap[B]? = some (.cells c t z)) (hte : t ≠ e) {base size k : Nat} {v : Value} {xs : List Value} (hr : W.ownsRow base e size v k xs) : some B ≠ v.ownBlock := by
  rcases hr.2 with ⟨rfl, _⟩ | ⟨g, cap, cur, rfl, _, hgb, _⟩
  · simp [Value.ownBlock]
  · intro e'
    obtain rfl : B = g := by simpa [Value.ownBlock] using e'
    rw [hgb] at h
    injection h with h
    injection h with _ h _
    exact hte h.symm
theorem D2.call {k : Nat} {w0 W W' : World} {v vg : Value} {L : List Int} {g : List (Int × Int)} (h : D2 k w0 W v L vg g) (hg : W.grownBy W' (some k)) (hc : isCur k W') (hk : k < w0.heap.size) : D2 k w0 W' v L vg g :=
  ⟨World.ownsRow.kept h.row hg (own_ne h.row hk), World.ownsRow.kept h.seg hg (own_ne h.seg hk), hc, grownBy_then h.gr hg⟩
theorem D2.alloc {k : Nat} {w0 W : World} {v vg : Value} {L : List Int} {g : List (Int × Int)} (h : D2 k w0 W v L vg g) (hk : k < w0.heap.size) (O : Obj) : D2 k w0 (W.alloc O) v L vg g :=
  h.call (grown_alloc W O k) (h.cur.alloc (Nat.lt_of_lt_of_le hk h.gr.size) O) hk
theorem D2.drew {k : Nat} {w0 W : World} {v vg : Value} {L : List Int} {g : List (Int × Int)} (h : D2 k w0 W v L vg g) : D2 k w0 W.drew v L vg g :=
  ⟨h.row, h.seg, h.cur.drew, ⟨h.gr.os, h.gr.tape, h.gr.output, h.gr.size, h.gr.block⟩⟩
/-- A store into a box of another type. -/
theorem D2.set {k P : Nat} {w0 W : World} {v vg : Value} {L : List Int} {g : List (Int × Int)} {cs : Array Value} (h : D2 k w0 W v L vg g) (hb : W.heap[P]? = some (.cells cs 29 (0, 0))) (hk : k < w0.heap.size) (hP : w0.heap.size ≤ P) (j : Nat) (u : Value) :
    D2 k w0 (W.setCell ⟨P, j, none⟩ u) v L vg g ∧ (W.setCell ⟨P, j, none⟩ u).heap[P]? = some (.cells (cs.setIfInBounds j u) 29 (0, 0)) := by
  have hbl : Below P W (W.setCell ⟨P, j, none⟩ u) := put_at (Below.refl P W) j u
  refine ⟨⟨own_set h.row P j u (fun b e h' => box_no hb (by decide) h.row (by rw [e, h'])), own_set h.seg P j u (fun b e h' => box_no hb (by decide) h.seg (by rw [e, h'])), h.cur.below (hbl.mono (by omega)), grown_below h.gr hbl hP⟩, box_set W P j cs _ u hb⟩
/-- The segs' row has grown. -/
theorem D2.app {k P : Nat} {w0 W W2 : World} {v vg vg' : Value} {L : List Int} {g g' : List (Int × Int)} {cs : Array Value} (h : D2 k w0 W v L vg g) (hb : W.heap[P]? = some (.cells cs 29 (0, 0))) (hk : k < w0.heap.size) (ho : ownL layG 35 W2 w0.heap.size vg' g') (hg : W.grownBy W2 vg.ownBlock) :
    D2 k w0 W2 v L vg' g' ∧ W2.heap[P]? = some (.cells cs 29 (0, 0)) := by
  have hbl : Below w0.heap.size W W2 := (Below.refl _ _).grown hg h.gr.size (fun q e => (h.seg.lt q e).1)
  exact ⟨⟨World.ownsRow.kept h.row hg (own_apart0 h.row h.seg (by decide)), ho, h.cur.below (hbl.mono hk), grown_below h.gr hbl (Nat.le_refl _)⟩, (hg.block P (box_lt hb) (box_no hb (by decide) h.seg)).trans hb⟩
theorem rd_seg1 (w : World) (x y : Int) : RdL layG (w.alloc (.cells #[.int .i64 x, .int .i64 y] 35)).heap.size (w.alloc (.cells #[.int .i64 x, .int .i64 y] 35)) (some ⟨w.heap.size, 0, none⟩) [(x, y)] := by
  refine .inr ⟨w.heap.size, 0, rfl, by simp, fun i hi j hj => ?_⟩
  have hi0 : i = 0 := by simpa using hi
  have hj2 : j = 0 ∨ j = 1 := by have : j < 2 := hj; omega
  subst hi0
  rcases hj2 with rfl | rfl <;> simp [layG]
theorem rd_seg2 (w : World) (x y x' y' : Int) : RdL layG (w.alloc (.cells #[.int .i64 x, .int .i64 y, .int .i64 x', .int .i64 y'] 35)).heap.size (w.alloc (.cells #[.int .i64 x, .int .i64 y, .int .i64 x', .int .i64 y'] 35)) (some ⟨w.heap.size, 0, none⟩) [(x, y), (x', y')] := by
  refine .inr ⟨w.heap.size, 0, rfl, by simp, fun i hi j hj => ?_⟩
  have hi0 : i = 0 ∨ i = 1 := by simp at hi; omega
  have hj2 : j = 0 ∨ j = 1 := by have : j < 2 := hj; omega
  rcases hi0 with rfl | rfl <;> rcases hj2 with rfl | rfl <;> simp [layG]
theorem ownL.at_drew {w : World} {base : Nat} {v : Value} {l : List (Int × Int)} (h : ownL layG 35 w base v l) : ownL layG 35 w.drew base v l := h

theorem grown_of_b {w w' : World} {r : Option Nat} (hb : Below w.heap.size w w') : w.grownBy w' r := ⟨hb.os, hb.tape, hb.output, hb.size, fun j hj _ => hb.block j hj⟩
theorem drawn_ok {a b f s : Int} {L : List Int} {g : List (Int × Int)} {pl st : Int} (hd : drawnP a b f s) (hL : L.length ≤ 4) (hg1 : 1 ≤ g.length) (hg6 : g.length ≤ 7) (hp0 : 0 ≤ pl) (hp1 : pl < (g.length : Int)) (hs0 : 0 ≤ st) (hs1 : st < 30) (hr : routeR (opens3 f) 0 g = true) : (Cm.mk a b f s L g pl st).ok = true := by
  have h : headB a b f s L.length g.length pl st = true := headB_iff.2 ⟨drawnP_ok hd hL, by omega, by omega, hp0, hp1, hs0, by omega, trivial⟩
  show carrierOkB a b f s L.length g pl st = true
  rw [← carrierOkB_yes h]
  exact hr

def drawnC (w : World) (k : Nat) (e : Ending) (w' : World) : Prop := ∃ (v : Value) (m : Cm), e = .returned v ∧ ownCm w' w.heap.size v m ∧ m.ok = true ∧ isB m.l ∧ m.l.length ≤ 4 ∧ m.g.length ≤ 7 ∧ isCur k w' ∧ w.grownBy w' (some k)
/-- The end: what was drawn goes into the answer's box. -/
theorem D2.ends {k : Nat} {w w0 W : World} {v vg : Value} {L : List Int} {g : List (Int × Int)} (h : D2 k w0 W v L vg g) (hk : k < w.heap.size) (hs : w.heap.size < w0.heap.size) (hg0 : w.grownBy w0 (some k)) {W' : World} (hb : Below w.heap.size W W') (hr : ownB W' w0.heap.size v L) (hq : ownL layG 35 W' w0.heap.size vg g) (a b f s pl st : Int) :
    ownCm W' w.heap.size (crr a b f s v vg pl st) ⟨a, b, f, s, L, g, pl, st⟩ ∧ isCur k W' ∧ w.grownBy W' (some k) :=
  ⟨⟨v, vg, rfl, own_mono hr (Nat.le_of_lt hs), own_mono (ownG_lay.2 hq) (Nat.le_of_lt hs)⟩, h.cur.below (hb.mono hk), grown_below (grownBy_then hg0 h.gr) hb (Nat.le_refl _)⟩
theorem D2.fin {k : Nat} {w w0 W : World} {v vg : Value} {L : List Int} {g : List (Int × Int)} (h : D2 k w0 W v L vg g) (hk : k < w.heap.size) (hs : w.heap.size < w0.heap.size) (hg0 : w.grownBy w0 (some k)) (a b f s pl st : Int) (hok : (Cm.mk a b f s L g pl st).ok = true) (hLb : isB L) (hLn : L.length ≤ 4) (hgn : g.length ≤ 7) {W' : World} (hb : Below w.heap.size W W') (hr : ownB W' w0.heap.size v L) (hq : ownL layG 35 W' w0.heap.size vg g) :
    drawnC w k (.returned (crr a b f s v vg pl st)) W' := by
  obtain ⟨h1, h2, h3⟩ := h.ends hk hs hg0 hb hr hq a b f s pl st
  exact ⟨_, _, rfl, h1, hok, hLb, hLn, hgn, h2, h3⟩

set_option maxRecDepth 100000 in
set_option maxHeartbeats 4000000 in
theorem l2draw_any (k : Nat) (w : World) (hc : isCur k w) (hk : k < w.heap.size) :
    Calls Try.prog 57 #[.pointer (some ⟨k, 0, none⟩)] w fun e w' => drawnC w k e w' := by
  have hR0 : (w.alloc (.cells #[.int .i64 0, .int .i64 0, .int .i64 0, .int .i64 0, .slice none 0 0, .slice none 0 0, .int .i64 0, .int .i64 0] 29)).heap[w.heap.size]? = some (.cells #[.int .i64 0, .int .i64 0, .int .i64 0, .int .i64 0, .slice none 0 0, .slice none 0 0, .int .i64 0, .int .i64 0] 29 (0, 0)) := World.alloc_heap_new w _
  have hc0 := hc.alloc hk (.cells #[.int .i64 0, .int .i64 0, .int .i64 0, .int .i64 0, .slice none 0 0, .slice none 0 0, .int .i64 0, .int .i64 0] 29)
  have hg0 := grown_alloc w (.cells #[.int .i64 0, .int .i64 0, .int .i64 0, .int .i64 0, .slice none 0 0, .slice none 0 0, .int .i64 0, .int .i64 0] 29) k
  go_enter Try.func57, Try.ntmps57
  go_wp2_with fail
  generalize hw0 : w.alloc (.cells #[.int .i64 0, .int .i64 0, .int .i64 0, .int .i64 0, .slice none 0 0, .slice none 0 0, .int .i64 0, .int .i64 0] 29) = w0 at *
  have hs0 : w.heap.size < w0.heap.size := by rw [← hw0]; simp
  have hk0 : k < w0.heap.size := by omega
  have hkR : w.heap.size ≠ k := by omega
  clear hw0
  refine (l1drawR_any k _ hc0 hk0).mono ?_
  rintro e w1 ⟨a, b, f, s, v, L, rfl, hdr, hv, hLb, hLn, hc1, hg1⟩
  have HDR := hide hdr
  clear hdr
  have hs1 : w0.heap.size ≤ w1.heap.size := hg1.size
  go_wp2_with fail
  refine (l1Below_any k 30 _ hc1 (by omega) (by omega)).mono ?_
  rintro e w2 ⟨st, rfl, hst0, hst1, hc2, hg2⟩
  have hs2 : w1.heap.size ≤ w2.heap.size := hg2.size
  have d2 : D2 k w0 w2 v L (.slice none 0 0) [] := ⟨own_other hv hg2 hk0, World.ownsRow_nil _ _ _ _, hc2, grownBy_then hg1 hg2⟩
  obtain ⟨ov, cv, hve, _⟩ := hv.open
  subst hve
  have b3 : (w2.alloc (.cells #[.int .i64 a, .int .i64 b, .int .i64 f, .int .i64 s, .slice ov L.length cv, .slice none 0 0, .int .i64 0, .int .i64 st] 29)).heap[w2.heap.size]? = some (.cells #[.int .i64 a, .int .i64 b, .int .i64 f, .int .i64 s, .slice ov L.length cv, .slice none 0 0, .int .i64 0, .int .i64 st] 29 (0, 0)) := World.alloc_heap_new w2 _
  have d3 := d2.alloc hk0 (.cells #[.int .i64 a, .int .i64 b, .int .i64 f, .int .i64 s, .slice ov L.length cv, .slice none 0 0, .int .i64 0, .int .i64 st] 29)
  clear hv hc hc0 hc1 hc2 hg1 hg2 d2
  go_wp2_with fail
  generalize hw3 : w2.alloc (.cells #[.int .i64 a, .int .i64 b, .int .i64 f, .int .i64 s, .slice ov L.length cv, .slice none 0 0, .int .i64 0, .int .i64 st] 29) = w3 at *
  have hs3 : w2.heap.size < w3.heap.size := by rw [← hw3]; simp
  clear hw3
  obtain ⟨P, hPe⟩ : ∃ P, w2.heap.size = P := ⟨_, rfl⟩
  have hP0 : w0.heap.size ≤ P := by omega
  have hPk : P ≠ k := by omega
  rw [hPe] at b3 hs3 ⊢
  clear hPe hs2 hs1
  refine (l1Below_any k 4 _ d3.cur (by omega) (by omega)).mono ?_
  rintro e w4 ⟨n0, rfl, hn0, hn1, hc4, hg4⟩
  obtain ⟨n, rfl⟩ := Int.eq_ofNat_of_zero_le hn0
  have D4 := hide (d3.call hg4 hc4 hk0)
  have B4 := hide (box_gr b3 hg4 hPk)
  have hn4 : n < 4 := by omega
  clear d3 b3 hg4 hc4 hs3 hn0 hn1
  go_wp2
  go_loopw [5] (fun i wr => ∃ (j : Nat) (vg : Value) (g : List (Int × Int)), j ≤ n + 1 ∧ i = .int .i64 j ∧ g.length = j ∧ (∀ p ∈ g, (0 ≤ p.1 ∧ p.1 < 4) ∧ p.2 = 0) ∧ D2 k w0 wr (.slice ov L.length cv) L vg g ∧ wr.heap[P]? = some (.cells #[.int .i64 a, .int .i64 b, .int .i64 f, .int .i64 s, .slice ov L.length cv, vg, .int .i64 0, .int .i64 st] 29 (0, 0)))
    (fun i _ => n + 1 - (intOf i).toNat)
  case atStart => exact ⟨0, _, [], by omega, rfl, rfl, fun p hp => (by cases hp), D4.out, B4.out⟩
  case round =>
    obtain ⟨j, vg, g, hj, rfl, hgj, hg, d, bx⟩ := hrel
    have HJ := hide hgj
    have HG := hide hg
    have hgl : g.length ≤ 5 := by omega
    clear hgj hg D4 B4
    obtain ⟨og, cg, hge, _⟩ := (ownG_lay.2 d.seg).open
    subst hge
    have hsr : w0.heap.size ≤ wr.heap.size := d.gr.size
    by_cases hlt : j < n + 1
    · have z1 : (j : Int) < 1 + (n : Int) := by omega
      have c5 : wr.cell? ⟨P, 5, none⟩ = some (.slice og g.length cg) := block_cell bx 5 _ rfl
      go_wp2
      go_region_law (first | (go_simp; go_at_call 59; refine (l1Below_any k 4 _ d.drew.cur (by omega) (by omega)).mono ?_; rintro e w7 ⟨x, rfl, hx0, hx1, hc7, hg7⟩; have d7 := d.drew.call hg7 hc7 hk0; have b7 := box_gr (W := wr.drew) bx hg7 hPk; have c7 : w7.cell? ⟨P, 5, none⟩ = some (.slice og g.length cg) := block_cell b7 5 _ rfl; have c7a : ∀ O, (w7.alloc O).cell? ⟨P, 5, none⟩ = some (.slice og g.length cg) := (fun O => block_cell (box_al b7 O) 5 _ rfl); dsimp only) | (refine step_append_lay appG rfl (.tmp 20) (.tmp 24) rfl w0.heap.size (.slice og g.length cg) g rfl (d7.alloc hk0 _).seg (some ⟨w7.heap.size, 0, none⟩) 1 _ [(x, 0)] 1 rfl rfl (fun h => by cases h) (rd_seg1 w7 x 0) (by simp; omega) (d7.alloc hk0 _).gr.size ?_; intro v8 w8 hv8 hg8 _; obtain ⟨o8, k8, e8, _⟩ := (ownG_lay.2 hv8).open; obtain ⟨n8, hn8⟩ : ∃ n, (g ++ [((x : Int), (0 : Int))]).length = n := ⟨_, rfl⟩; rw [hn8] at e8; rw [e8] at hv8 ⊢; clear hn8; obtain ⟨d8, b8⟩ := (d7.alloc hk0 _).app (box_al b7 _) hk0 hv8 hg8; have c8 : w8.cell? ⟨P, 5, none⟩ = some (.slice og g.length cg) := block_cell b8 5 _ rfl; have f8 : w8.frozen? ⟨P, 5, none⟩ = false := block_frozen b8 5))
      all_goals (
        have R := hide (d8.set b8 hk0 hP0 5 (.slice o8 n8 k8))
        have HG2 : Hid (∀ p ∈ g ++ [(x, 0)], (0 ≤ p.1 ∧ p.1 < 4) ∧ p.2 = 0) := by
          intro p hp
          rcases List.mem_append.1 hp with h | h
          · exact HG.out p h
          · have : p = (x, 0) := by simpa using h
            subst this
            exact ⟨⟨hx0, hx1⟩, rfl⟩
        have HL2 : Hid ((g ++ [(x, 0)]).length = j + 1) := by unfold Hid; rw [List.length_append, HJ.out]; rfl
        clear hv8 hg8 d8 b8 d7 b7 c7 c7a c5 hc7 hg7 d bx
        generalize g ++ [(x, 0)] = g2 at *
        go_wp2
        go_roundw
        case rel => exact ⟨j + 1, _, g2, by omega, by go_num, HL2.out, HG2.out, R.out.1, R.out.2⟩
        case measure => simp [intOf]; omega)
    · have z1 : ¬ ((j : Int) < 1 + (n : Int)) := by omega
      have hg1 : 1 ≤ g.length := by have := HJ.out; omega
      have x0 : wr.cell? ⟨P, 0, none⟩ = some (.int .i64 a) := block_cell bx 0 _ rfl
      have x1 : wr.cell? ⟨P, 1, none⟩ = some (.int .i64 b) := block_cell bx 1 _ rfl
      have x2 : wr.cell? ⟨P, 2, none⟩ = some (.int .i64 f) := block_cell bx 2 _ rfl
      have x3 : wr.cell? ⟨P, 3, none⟩ = some (.int .i64 s) := block_cell bx 3 _ rfl
      have x4 : wr.cell? ⟨P, 4, none⟩ = some (.slice ov L.length cv) := block_cell bx 4 _ rfl
      clear HJ
      go_wp2_with fail
      refine (l1opens_any a b f s ov L.length cv wr).mono ?_
      rintro e w5 ⟨rfl, hb5⟩
      have d5 : D2 k w0 w5 (.slice ov L.length cv) L (.slice og g.length cg) g := d.call (grown_of_b hb5) (d.cur.below (hb5.mono (by omega))) hk0
      have b5 := (hb5.block P (box_lt bx)).trans bx
      clear d bx x0 x1 x2 x3 x4 hb5
      cases hop : opens3 f with
      | false =>
        have hgl9 : 1 ≤ g.length ∧ g.length ≤ 7 := ⟨hg1, by omega⟩
        have HLN : Hid (g.length = g.length) := rfl
        obtain ⟨HRT⟩ : Nonempty (Hid (routeR (opens3 f) 0 g = true)) := ⟨by unfold Hid; rw [← List.append_nil g, routeR_zeros _ _ _ HG.out]; rfl⟩
        have c9 : w5.cell? ⟨P, 5, none⟩ = some (.slice og g.length cg) := block_cell b5 5 _ rfl
        go_wp2_with fail
        refine (l1Below_any k (g.length : Int) _ d5.cur (by omega) (by omega)).mono ?_
        rintro e w9 ⟨pl, rfl, hpl0, hpl1, hc9, hg9⟩
        have d9 := d5.call hg9 hc9 hk0
        have b9 := box_gr b5 hg9 hPk
        have f9 : w9.frozen? ⟨P, 6, none⟩ = false := block_frozen b9 6
        have c6 : w9.cell? ⟨P, 6, none⟩ = some (.int .i64 0) := block_cell b9 6 _ rfl
        obtain ⟨dS, bS⟩ := d9.set b9 hk0 hP0 6 (.int .i64 pl)
        have rS := box_gr hR0 dS.gr hkR
        have y0 : (w9.setCell ⟨P, 6, none⟩ (.int .i64 pl)).cell? ⟨P, 0, none⟩ = some (.int .i64 a) := block_cell bS 0 _ rfl
        have y1 : (w9.setCell ⟨P, 6, none⟩ (.int .i64 pl)).cell? ⟨P, 1, none⟩ = some (.int .i64 b) := block_cell bS 1 _ rfl
        have y2 : (w9.setCell ⟨P, 6, none⟩ (.int .i64 pl)).cell? ⟨P, 2, none⟩ = some (.int .i64 f) := block_cell bS 2 _ rfl
        have y3 : (w9.setCell ⟨P, 6, none⟩ (.int .i64 pl)).cell? ⟨P, 3, none⟩ = some (.int .i64 s) := block_cell bS 3 _ rfl
        have y4 : (w9.setCell ⟨P, 6, none⟩ (.int .i64 pl)).cell? ⟨P, 4, none⟩ = some (.slice ov L.length cv) := block_cell bS 4 _ rfl
        have y5 : (w9.setCell ⟨P, 6, none⟩ (.int .i64 pl)).cell? ⟨P, 5, none⟩ = some (.slice og g.length cg) := block_cell bS 5 _ rfl
        have y6 : (w9.setCell ⟨P, 6, none⟩ (.int .i64 pl)).cell? ⟨P, 6, none⟩ = some (.int .i64 pl) := block_cell bS 6 _ rfl
        have y7 : (w9.setCell ⟨P, 6, none⟩ (.int .i64 pl)).cell? ⟨P, 7, none⟩ = some (.int .i64 st) := block_cell bS 7 _ rfl
        have e0 : (w9.setCell ⟨P, 6, none⟩ (.int .i64 pl)).cell? ⟨w.heap.size, 0, none⟩ = some (.int .i64 0) := block_cell rS 0 _ rfl
        have q0 : (w9.setCell ⟨P, 6, none⟩ (.int .i64 pl)).frozen? ⟨w.heap.size, 0, none⟩ = false := block_frozen rS 0
        have e1 : (w9.setCell ⟨P, 6, none⟩ (.int .i64 pl)).cell? ⟨w.heap.size, 1, none⟩ = some (.int .i64 0) := block_cell rS 1 _ rfl
        have q1 : (w9.setCell ⟨P, 6, none⟩ (.int .i64 pl)).frozen? ⟨w.heap.size, 1, none⟩ = false := block_frozen rS 1
        have e2 : (w9.setCell ⟨P, 6, none⟩ (.int .i64 pl)).cell? ⟨w.heap.size, 2, none⟩ = some (.int .i64 0) := block_cell rS 2 _ rfl
        have q2 : (w9.setCell ⟨P, 6, none⟩ (.int .i64 pl)).frozen? ⟨w.heap.size, 2, none⟩ = false := block_frozen rS 2
        have e3 : (w9.setCell ⟨P, 6, none⟩ (.int .i64 pl)).cell? ⟨w.heap.size, 3, none⟩ = some (.int .i64 0) := block_cell rS 3 _ rfl
        have q3 : (w9.setCell ⟨P, 6, none⟩ (.int .i64 pl)).frozen? ⟨w.heap.size, 3, none⟩ = false := block_frozen rS 3
        have e4 : (w9.setCell ⟨P, 6, none⟩ (.int .i64 pl)).cell? ⟨w.heap.size, 4, none⟩ = some (.slice none 0 0) := block_cell rS 4 _ rfl
        have q4 : (w9.setCell ⟨P, 6, none⟩ (.int .i64 pl)).frozen? ⟨w.heap.size, 4, none⟩ = false := block_frozen rS 4
        have e5 : (w9.setCell ⟨P, 6, none⟩ (.int .i64 pl)).cell? ⟨w.heap.size, 5, none⟩ = some (.slice none 0 0) := block_cell rS 5 _ rfl
        have q5 : (w9.setCell ⟨P, 6, none⟩ (.int .i64 pl)).frozen? ⟨w.heap.size, 5, none⟩ = false := block_frozen rS 5
        have e6 : (w9.setCell ⟨P, 6, none⟩ (.int .i64 pl)).cell? ⟨w.heap.size, 6, none⟩ = some (.int .i64 0) := block_cell rS 6 _ rfl
        have q6 : (w9.setCell ⟨P, 6, none⟩ (.int .i64 pl)).frozen? ⟨w.heap.size, 6, none⟩ = false := block_frozen rS 6
        have e7 : (w9.setCell ⟨P, 6, none⟩ (.int .i64 pl)).cell? ⟨w.heap.size, 7, none⟩ = some (.int .i64 0) := block_cell rS 7 _ rfl
        have q7 : (w9.setCell ⟨P, 6, none⟩ (.int .i64 pl)).frozen? ⟨w.heap.size, 7, none⟩ = false := block_frozen rS 7
        have HOK := hide (drawn_ok (L := L) HDR.out hLn (by have := HLN.out; omega) (by have := HLN.out; omega) hpl0 (by have := HLN.out; omega) hst0 hst1 HRT.out)
        have HD := hide dS
        clear HRT d9 b9 hc9 hg9 bS rS dS
        go_wp2
        refine bodyPost_ret (v := crr a b f s (.slice ov L.length cv) (.slice og g.length cg) pl st) (by simp [results, Try.results57, go_sem, e0, e1, e2, e3, e4, e5, e6, e7]) rfl ?_
        refine HD.out.fin hk hs0 hg0 a b f s pl st HOK.out hLb hLn (by have := HLN.out; omega) ?zb ?zr ?zq
        case zb => exact (put_at (put_at (put_at (put_at (put_at (put_at (put_at (put_at (Below.refl w.heap.size (w9.setCell ⟨P, 6, none⟩ (.int .i64 pl))) 0 _) 1 _) 2 _) 3 _) 4 _) 5 _) 6 _) 7 _)
        case zr => (repeat (refine ownsRow_setCell_below ?_ hs0 _)); exact HD.out.row
        case zq => (repeat (refine ownsRow_setCell_below ?_ hs0 _)); exact HD.out.seg
      | true =>
        go_wp2_with fail
        refine (l1Once_any k 2 _ d5.cur (by omega) (by omega)).mono ?_
        rintro e w6 ⟨x6, rfl, hc6, hg6⟩
        have d6 := d5.call hg6 hc6 hk0
        have b6 := box_gr b5 hg6 hPk
        clear hc6 hg6 d5 b5
        cases x6 with
        | false =>
          have hgl9 : 1 ≤ g.length ∧ g.length ≤ 7 := ⟨hg1, by omega⟩
          have HLN : Hid (g.length = g.length) := rfl
          obtain ⟨HRT⟩ : Nonempty (Hid (routeR (opens3 f) 0 g = true)) := ⟨by unfold Hid; rw [← List.append_nil g, routeR_zeros _ _ _ HG.out]; rfl⟩
          have c9 : w6.cell? ⟨P, 5, none⟩ = some (.slice og g.length cg) := block_cell b6 5 _ rfl
          go_wp2_with fail
          refine (l1Below_any k (g.length : Int) _ d6.cur (by omega) (by omega)).mono ?_
          rintro e w9 ⟨pl, rfl, hpl0, hpl1, hc9, hg9⟩
          have d9 := d6.call hg9 hc9 hk0
          have b9 := box_gr b6 hg9 hPk
          have f9 : w9.frozen? ⟨P, 6, none⟩ = false := block_frozen b9 6
          have c6 : w9.cell? ⟨P, 6, none⟩ = some (.int .i64 0) := block_cell b9 6 _ rfl
          obtain ⟨dS, bS⟩ := d9.set b9 hk0 hP0 6 (.int .i64 pl)
          have rS := box_gr hR0 dS.gr hkR
          have y0 : (w9.setCell ⟨P, 6, none⟩ (.int .i64 pl)).cell? ⟨P, 0, none⟩ = some (.int .i64 a) := block_cell bS 0 _ rfl
          have y1 : (w9.setCell ⟨P, 6, none⟩ (.int .i64 pl)).cell? ⟨P, 1, none⟩ = some (.int .i64 b) := block_cell bS 1 _ rfl
          have y2 : (w9.setCell ⟨P, 6, none⟩ (.int .i64 pl)).cell? ⟨P, 2, none⟩ = some (.int .i64 f) := block_cell bS 2 _ rfl
          have y3 : (w9.setCell ⟨P, 6, none⟩ (.int .i64 pl)).cell? ⟨P, 3, none⟩ = some (.int .i64 s) := block_cell bS 3 _ rfl
          have y4 : (w9.setCell ⟨P, 6, none⟩ (.int .i64 pl)).cell? ⟨P, 4, none⟩ = some (.slice ov L.length cv) := block_cell bS 4 _ rfl
          have y5 : (w9.setCell ⟨P, 6, none⟩ (.int .i64 pl)).cell? ⟨P, 5, none⟩ = some (.slice og g.length cg) := block_cell bS 5 _ rfl
          have y6 : (w9.setCell ⟨P, 6, none⟩ (.int .i64 pl)).cell? ⟨P, 6, none⟩ = some (.int .i64 pl) := block_cell bS 6 _ rfl
          have y7 : (w9.setCell ⟨P, 6, none⟩ (.int .i64 pl)).cell? ⟨P, 7, none⟩ = some (.int .i64 st) := block_cell bS 7 _ rfl
          have e0 : (w9.setCell ⟨P, 6, none⟩ (.int .i64 pl)).cell? ⟨w.heap.size, 0, none⟩ = some (.int .i64 0) := block_cell rS 0 _ rfl
          have q0 : (w9.setCell ⟨P, 6, none⟩ (.int .i64 pl)).frozen? ⟨w.heap.size, 0, none⟩ = false := block_frozen rS 0
          have e1 : (w9.setCell ⟨P, 6, none⟩ (.int .i64 pl)).cell? ⟨w.heap.size, 1, none⟩ = some (.int .i64 0) := block_cell rS 1 _ rfl
          have q1 : (w9.setCell ⟨P, 6, none⟩ (.int .i64 pl)).frozen? ⟨w.heap.size, 1, none⟩ = false := block_frozen rS 1
          have e2 : (w9.setCell ⟨P, 6, none⟩ (.int .i64 pl)).cell? ⟨w.heap.size, 2, none⟩ = some (.int .i64 0) := block_cell rS 2 _ rfl
          have q2 : (w9.setCell ⟨P, 6, none⟩ (.int .i64 pl)).frozen? ⟨w.heap.size, 2, none⟩ = false := block_frozen rS 2
          have e3 : (w9.setCell ⟨P, 6, none⟩ (.int .i64 pl)).cell? ⟨w.heap.size, 3, none⟩ = some (.int .i64 0) := block_cell rS 3 _ rfl
          have q3 : (w9.setCell ⟨P, 6, none⟩ (.int .i64 pl)).frozen? ⟨w.heap.size, 3, none⟩ = false := block_frozen rS 3
          have e4 : (w9.setCell ⟨P, 6, none⟩ (.int .i64 pl)).cell? ⟨w.heap.size, 4, none⟩ = some (.slice none 0 0) := block_cell rS 4 _ rfl
          have q4 : (w9.setCell ⟨P, 6, none⟩ (.int .i64 pl)).frozen? ⟨w.heap.size, 4, none⟩ = false := block_frozen rS 4
          have e5 : (w9.setCell ⟨P, 6, none⟩ (.int .i64 pl)).cell? ⟨w.heap.size, 5, none⟩ = some (.slice none 0 0) := block_cell rS 5 _ rfl
          have q5 : (w9.setCell ⟨P, 6, none⟩ (.int .i64 pl)).frozen? ⟨w.heap.size, 5, none⟩ = false := block_frozen rS 5
          have e6 : (w9.setCell ⟨P, 6, none⟩ (.int .i64 pl)).cell? ⟨w.heap.size, 6, none⟩ = some (.int .i64 0) := block_cell rS 6 _ rfl
          have q6 : (w9.setCell ⟨P, 6, none⟩ (.int .i64 pl)).frozen? ⟨w.heap.size, 6, none⟩ = false := block_frozen rS 6
          have e7 : (w9.setCell ⟨P, 6, none⟩ (.int .i64 pl)).cell? ⟨w.heap.size, 7, none⟩ = some (.int .i64 0) := block_cell rS 7 _ rfl
          have q7 : (w9.setCell ⟨P, 6, none⟩ (.int .i64 pl)).frozen? ⟨w.heap.size, 7, none⟩ = false := block_frozen rS 7
          have HOK := hide (drawn_ok (L := L) HDR.out hLn (by have := HLN.out; omega) (by have := HLN.out; omega) hpl0 (by have := HLN.out; omega) hst0 hst1 HRT.out)
          have HD := hide dS
          clear HRT d9 b9 hc9 hg9 bS rS dS
          go_wp2
          refine bodyPost_ret (v := crr a b f s (.slice ov L.length cv) (.slice og g.length cg) pl st) (by simp [results, Try.results57, go_sem, e0, e1, e2, e3, e4, e5, e6, e7]) rfl ?_
          refine HD.out.fin hk hs0 hg0 a b f s pl st HOK.out hLb hLn (by have := HLN.out; omega) ?zb ?zr ?zq
          case zb => exact (put_at (put_at (put_at (put_at (put_at (put_at (put_at (put_at (Below.refl w.heap.size (w9.setCell ⟨P, 6, none⟩ (.int .i64 pl))) 0 _) 1 _) 2 _) 3 _) 4 _) 5 _) 6 _) 7 _)
          case zr => (repeat (refine ownsRow_setCell_below ?_ hs0 _)); exact HD.out.row
          case zq => (repeat (refine ownsRow_setCell_below ?_ hs0 _)); exact HD.out.seg
        | true =>
          have c6 : w6.cell? ⟨P, 5, none⟩ = some (.slice og g.length cg) := block_cell b6 5 _ rfl
          go_wp2
          go_region_law (first | (go_simp; go_at_call 59; refine (l1Below_any k 4 _ d7.cur (by omega) (by omega)).mono ?_; rintro e w8 ⟨y, rfl, hy0, hy1, hc8, hg8⟩; have d8 := d7.call hg8 hc8 hk0; have b8 := box_gr b7 hg8 hPk; have c8 : w8.cell? ⟨P, 5, none⟩ = some (.slice og g.length cg) := block_cell b8 5 _ rfl; have c8a : ∀ O, (w8.alloc O).cell? ⟨P, 5, none⟩ = some (.slice og g.length cg) := (fun O => block_cell (box_al b8 O) 5 _ rfl); dsimp only) | (refine step_append_lay appG rfl (.tmp 35) (.tmp 42) rfl w0.heap.size (.slice og g.length cg) g rfl (d8.alloc hk0 _).seg (some ⟨w8.heap.size, 0, none⟩) 2 _ [(x, 1), (y, 1)] 2 rfl rfl (fun h => by cases h) (rd_seg2 w8 x 1 y 1) (by simp; omega) (d8.alloc hk0 _).gr.size ?_; intro va wa hva hga _; have HTL : Hid (routeR true 0 [(x, 1), (y, 1)] = true ∧ [((x : Int), (1 : Int)), (y, 1)].length = 2) := (show _ ∧ _ from ⟨routeR_two rfl ⟨hx0, hx1⟩ ⟨hy0, hy1⟩, rfl⟩); obtain ⟨tl, htl⟩ : ∃ tl, [((x : Int), (1 : Int)), (y, 1)] = tl := ⟨_, rfl⟩; rw [htl] at hva HTL; clear htl; obtain ⟨oa, ka, ea, _⟩ := (ownG_lay.2 hva).open; obtain ⟨na, hna⟩ : ∃ n, (g ++ tl).length = n := ⟨_, rfl⟩; have HNA := hide hna; rw [hna] at ea; rw [ea] at hva ⊢; clear hna; obtain ⟨da, ba⟩ := (d8.alloc hk0 _).app (box_al b8 _) hk0 hva hga; have ca : wa.cell? ⟨P, 5, none⟩ = some (.slice og g.length cg) := block_cell ba 5 _ rfl; have fa : wa.frozen? ⟨P, 5, none⟩ = false := block_frozen ba 5) | (refine step_append_lay appG rfl (.tmp 35) (.tmp 42) rfl w0.heap.size (.slice og g.length cg) g rfl (d8.alloc hk0 _).seg (some ⟨w8.heap.size, 0, none⟩) 2 _ [(y, 1), (x, 1)] 2 rfl rfl (fun h => by cases h) (rd_seg2 w8 y 1 x 1) (by simp; omega) (d8.alloc hk0 _).gr.size ?_; intro va wa hva hga _; have HTL : Hid (routeR true 0 [(y, 1), (x, 1)] = true ∧ [((y : Int), (1 : Int)), (x, 1)].length = 2) := (show _ ∧ _ from ⟨routeR_two rfl ⟨hy0, hy1⟩ ⟨hx0, hx1⟩, rfl⟩); obtain ⟨tl, htl⟩ : ∃ tl, [((y : Int), (1 : Int)), (x, 1)] = tl := ⟨_, rfl⟩; rw [htl] at hva HTL; clear htl; obtain ⟨oa, ka, ea, _⟩ := (ownG_lay.2 hva).open; obtain ⟨na, hna⟩ : ∃ n, (g ++ tl).length = n := ⟨_, rfl⟩; have HNA := hide hna; rw [hna] at ea; rw [ea] at hva ⊢; clear hna; obtain ⟨da, ba⟩ := (d8.alloc hk0 _).app (box_al b8 _) hk0 hva hga; have ca : wa.cell? ⟨P, 5, none⟩ = some (.slice og g.length cg) := block_cell ba 5 _ rfl; have fa : wa.frozen? ⟨P, 5, none⟩ = false := block_frozen ba 5) | (go_simp; go_at_call 59; refine (l1Below_any k 4 _ d6.drew.cur (by omega) (by omega)).mono ?_; rintro e w7 ⟨x, rfl, hx0, hx1, hc7, hg7⟩; have d7 := d6.drew.call hg7 hc7 hk0; have b7 := box_gr (W := w6.drew) b6 hg7 hPk; have c7 : w7.cell? ⟨P, 5, none⟩ = some (.slice og g.length cg) := block_cell b7 5 _ rfl; dsimp only))
          all_goals (
            have HG2 : Hid (routeR (opens3 f) 0 (g ++ tl) = true) := by unfold Hid; rw [routeR_zeros _ _ _ HG.out, hop]; exact HTL.out.1
            have HL2 : Hid (1 ≤ na ∧ na ≤ 7) := by have := HTL.out.2; have h9 := HNA.out; rw [List.length_append] at h9; unfold Hid; omega
            obtain ⟨db, bb⟩ := da.set ba hk0 hP0 5 (.slice oa na ka)
            have DB := hide db
            have BB := hide bb
            clear hva hga da ba d8 b8 c8 c8a d7 b7 c7 d6 b6 hc7 hg7 hc8 hg8 db bb hop HG HTL
            generalize g ++ tl = g2 at *
            go_wp2_with fail
            have db := DB.out
            have bb := BB.out
            clear DB BB
            generalize hwb : wa.setCell ⟨P, 5, none⟩ (.slice oa na ka) = wb at *
            clear hwb ca fa c6
            have hgl9 : 1 ≤ na ∧ na ≤ 7 := HL2.out
            have HLN : Hid (g2.length = na) := HNA.out
            obtain ⟨HRT⟩ : Nonempty (Hid (routeR (opens3 f) 0 g2 = true)) := ⟨HG2.out⟩
            refine (l1Below_any k (na : Int) _ db.cur (by omega) (by omega)).mono ?_
            rintro e w9 ⟨pl, rfl, hpl0, hpl1, hc9, hg9⟩
            have d9 := db.call hg9 hc9 hk0
            have b9 := box_gr bb hg9 hPk
            have f9 : w9.frozen? ⟨P, 6, none⟩ = false := block_frozen b9 6
            have c6 : w9.cell? ⟨P, 6, none⟩ = some (.int .i64 0) := block_cell b9 6 _ rfl
            obtain ⟨dS, bS⟩ := d9.set b9 hk0 hP0 6 (.int .i64 pl)
            have rS := box_gr hR0 dS.gr hkR
            have y0 : (w9.setCell ⟨P, 6, none⟩ (.int .i64 pl)).cell? ⟨P, 0, none⟩ = some (.int .i64 a) := block_cell bS 0 _ rfl
            have y1 : (w9.setCell ⟨P, 6, none⟩ (.int .i64 pl)).cell? ⟨P, 1, none⟩ = some (.int .i64 b) := block_cell bS 1 _ rfl
            have y2 : (w9.setCell ⟨P, 6, none⟩ (.int .i64 pl)).cell? ⟨P, 2, none⟩ = some (.int .i64 f) := block_cell bS 2 _ rfl
            have y3 : (w9.setCell ⟨P, 6, none⟩ (.int .i64 pl)).cell? ⟨P, 3, none⟩ = some (.int .i64 s) := block_cell bS 3 _ rfl
            have y4 : (w9.setCell ⟨P, 6, none⟩ (.int .i64 pl)).cell? ⟨P, 4, none⟩ = some (.slice ov L.length cv) := block_cell bS 4 _ rfl
            have y5 : (w9.setCell ⟨P, 6, none⟩ (.int .i64 pl)).cell? ⟨P, 5, none⟩ = some (.slice oa na ka) := block_cell bS 5 _ rfl
            have y6 : (w9.setCell ⟨P, 6, none⟩ (.int .i64 pl)).cell? ⟨P, 6, none⟩ = some (.int .i64 pl) := block_cell bS 6 _ rfl
            have y7 : (w9.setCell ⟨P, 6, none⟩ (.int .i64 pl)).cell? ⟨P, 7, none⟩ = some (.int .i64 st) := block_cell bS 7 _ rfl
            have e0 : (w9.setCell ⟨P, 6, none⟩ (.int .i64 pl)).cell? ⟨w.heap.size, 0, none⟩ = some (.int .i64 0) := block_cell rS 0 _ rfl
            have q0 : (w9.setCell ⟨P, 6, none⟩ (.int .i64 pl)).frozen? ⟨w.heap.size, 0, none⟩ = false := block_frozen rS 0
            have e1 : (w9.setCell ⟨P, 6, none⟩ (.int .i64 pl)).cell? ⟨w.heap.size, 1, none⟩ = some (.int .i64 0) := block_cell rS 1 _ rfl
            have q1 : (w9.setCell ⟨P, 6, none⟩ (.int .i64 pl)).frozen? ⟨w.heap.size, 1, none⟩ = false := block_frozen rS 1
            have e2 : (w9.setCell ⟨P, 6, none⟩ (.int .i64 pl)).cell? ⟨w.heap.size, 2, none⟩ = some (.int .i64 0) := block_cell rS 2 _ rfl
            have q2 : (w9.setCell ⟨P, 6, none⟩ (.int .i64 pl)).frozen? ⟨w.heap.size, 2, none⟩ = false := block_frozen rS 2
            have e3 : (w9.setCell ⟨P, 6, none⟩ (.int .i64 pl)).cell? ⟨w.heap.size, 3, none⟩ = some (.int .i64 0) := block_cell rS 3 _ rfl
            have q3 : (w9.setCell ⟨P, 6, none⟩ (.int .i64 pl)).frozen? ⟨w.heap.size, 3, none⟩ = false := block_frozen rS 3
            have e4 : (w9.setCell ⟨P, 6, none⟩ (.int .i64 pl)).cell? ⟨w.heap.size, 4, none⟩ = some (.slice none 0 0) := block_cell rS 4 _ rfl
            have q4 : (w9.setCell ⟨P, 6, none⟩ (.int .i64 pl)).frozen? ⟨w.heap.size, 4, none⟩ = false := block_frozen rS 4
            have e5 : (w9.setCell ⟨P, 6, none⟩ (.int .i64 pl)).cell? ⟨w.heap.size, 5, none⟩ = some (.slice none 0 0) := block_cell rS 5 _ rfl
            have q5 : (w9.setCell ⟨P, 6, none⟩ (.int .i64 pl)).frozen? ⟨w.heap.size, 5, none⟩ = false := block_frozen rS 5
            have e6 : (w9.setCell ⟨P, 6, none⟩ (.int .i64 pl)).cell? ⟨w.heap.size, 6, none⟩ = some (.int .i64 0) := block_cell rS 6 _ rfl
            have q6 : (w9.setCell ⟨P, 6, none⟩ (.int .i64 pl)).frozen? ⟨w.heap.size, 6, none⟩ = false := block_frozen rS 6
            have e7 : (w9.setCell ⟨P, 6, none⟩ (.int .i64 pl)).cell? ⟨w.heap.size, 7, none⟩ = some (.int .i64 0) := block_cell rS 7 _ rfl
            have q7 : (w9.setCell ⟨P, 6, none⟩ (.int .i64 pl)).frozen? ⟨w.heap.size, 7, none⟩ = false := block_frozen rS 7
            have HOK := hide (drawn_ok (L := L) HDR.out hLn (by have := HLN.out; omega) (by have := HLN.out; omega) hpl0 (by have := HLN.out; omega) hst0 hst1 HRT.out)
            have HD := hide dS
            clear HRT d9 b9 hc9 hg9 bS rS dS
            go_wp2
            refine bodyPost_ret (v := crr a b f s (.slice ov L.length cv) (.slice oa na ka) pl st) (by simp [results, Try.results57, go_sem, e0, e1, e2, e3, e4, e5, e6, e7]) rfl ?_
            refine HD.out.fin hk hs0 hg0 a b f s pl st HOK.out hLb hLn (by have := HLN.out; omega) ?zb ?zr ?zq
            case zb => exact (put_at (put_at (put_at (put_at (put_at (put_at (put_at (put_at (Below.refl w.heap.size (w9.setCell ⟨P, 6, none⟩ (.int .i64 pl))) 0 _) 1 _) 2 _) 3 _) 4 _) 5 _) 6 _) 7 _)
            case zr => (repeat (refine ownsRow_setCell_below ?_ hs0 _)); exact HD.out.row
            case zq => (repeat (refine ownsRow_setCell_below ?_ hs0 _)); exact HD.out.seg)

end Go.Proofs.Ytoeoiljddcjphaa
