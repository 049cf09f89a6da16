/- A drawn carrier, bent once in a while. -/
import Derived.Test.YtoeoiljddcjphaaSDrC
namespace Go.Proofs.Ytoeoiljddcjphaa
open Go.ChangeShapes Go.WideShapes Go.ChangeAt Go.RowKit Go.Joins
set_option linter.unusedVariables false
set_option linter.unusedSimpArgs false


def bentC (w : World) (k : Nat) (e : Ending) (w' : World) : Prop := ∃ (v : Value) (m : Cm), e = .returned v ∧ ownCm w' w.heap.size v m ∧ isB m.l ∧ m.l.length ≤ 2000 ∧ m.g.length ≤ 8 ∧ isCur k w' ∧ w.grownBy w' (some k)
theorem D2.finB {k : Nat} {w w0 W : World} {v vg : Value} {L : List Int} {g : List (Int × Int)} (h : D2 k w0 W v L vg g) (hk : k < w.heap.size) (hs : w.heap.size < w0.heap.size) (hg0 : w.grownBy w0 (some k)) (a b f s pl st : Int) (hLb : isB L) (hLn : L.length ≤ 2000) (hgn : g.length ≤ 8) {W' : World} (hb : Below w.heap.size W W') (hr : ownB W' w0.heap.size v L) (hq : ownL layG 35 W' w0.heap.size vg g) :
    bentC w k (.returned (crr a b f s v vg pl st)) W' := by
  obtain ⟨h1, h2, h3⟩ := h.ends hk hs hg0 hb hr hq a b f s pl st
  exact ⟨_, _, rfl, h1, hLb, hLn, hgn, h2, h3⟩
theorem D2.newrow {k : Nat} {w0 W : World} {v v' vg : Value} {L L' : List Int} {g : List (Int × Int)} (h : D2 k w0 W v L vg g) (hr : ownB W w0.heap.size v' L') : D2 k w0 W v' L' vg g := ⟨hr, h.seg, h.cur, h.gr⟩
theorem D2.noseg {k : Nat} {w0 W : World} {v vg : Value} {L : List Int} {g : List (Int × Int)} (h : D2 k w0 W v L vg g) : D2 k w0 W v L (.slice none 0 0) [] := ⟨h.row, World.ownsRow_nil _ _ _ _, h.cur, h.gr⟩
theorem ints_at {W : World} {B : Nat} (vs : List Int) (h : W.heap[B]? = some (.cells (vs.map (Value.int .i64)).toArray 3 (0, 0))) : ∀ q, q < vs.length → W.cell? ⟨B, q, none⟩ = some (.int .i64 (vs.getD q 0)) := by
  intro q hq
  simp [World.cell?, h, hq]
theorem wrap_less (z : Int) (h0 : 0 ≤ z) (h1 : z < 4) : IntKind.i64.wrap (z - 1) = z - 1 := by
  simp [IntKind.wrap, IntKind.bits, IntKind.signed]; omega
theorem wrap_less' (z : Int) (h0 : 0 ≤ z) (h1 : z < 4) : wrap64 (z - 1) = z - 1 := by
  unfold wrap64; omega

set_option maxRecDepth 100000 in
set_option maxHeartbeats 8000000 in
theorem l2bent_any (k : Nat) (w : World) (hc : isCur k w) (hk : k < w.heap.size) :
    Calls Try.prog 28 #[.pointer (some ⟨k, 0, none⟩)] w fun e w' => bentC w k e w' := by
  have hR0 : (w.alloc (.cells #[.int .i64 0, .int .i64 0, .int .i64 0, .int .i64 0, .slice none 0 0, .slice none 0 0, .int .i64 0, .int .i64 0] 29)).heap[w.heap.size]? = some (.cells #[.int .i64 0, .int .i64 0, .int .i64 0, .int .i64 0, .slice none 0 0, .slice none 0 0, .int .i64 0, .int .i64 0] 29 (0, 0)) := World.alloc_heap_new w _
  have hc0 := hc.alloc hk (.cells #[.int .i64 0, .int .i64 0, .int .i64 0, .int .i64 0, .slice none 0 0, .slice none 0 0, .int .i64 0, .int .i64 0] 29)
  have hg0 := grown_alloc w (.cells #[.int .i64 0, .int .i64 0, .int .i64 0, .int .i64 0, .slice none 0 0, .slice none 0 0, .int .i64 0, .int .i64 0] 29) k
  go_enter Try.func28, Try.ntmps28
  go_wp2_with fail
  generalize hw0 : w.alloc (.cells #[.int .i64 0, .int .i64 0, .int .i64 0, .int .i64 0, .slice none 0 0, .slice none 0 0, .int .i64 0, .int .i64 0] 29) = w0 at *
  have hs0 : w.heap.size < w0.heap.size := by rw [← hw0]; simp
  have hk0 : k < w0.heap.size := by omega
  have hkR : w.heap.size ≠ k := by omega
  clear hw0
  refine (l2draw_any k _ hc0 hk0).mono ?_
  rintro e w1 ⟨v, ⟨a, b, f, s, L, g, pl, st⟩, rfl, ⟨vl, vg, rfl, hrw, hsg⟩, _, hLb, hLn, hgn, hc1, hg1⟩
  dsimp only at hrw hsg hLb hLn hgn ⊢
  obtain ⟨ov, cv, ev, _⟩ := hrw.open
  subst ev
  obtain ⟨og, cg, eg, _⟩ := hsg.open
  subst eg
  have hL2 : L.length ≤ 2000 := by omega
  have hg8 : g.length ≤ 8 := by omega
  have d1 : D2 k w0 w1 (.slice ov L.length cv) L (.slice og g.length cg) g := ⟨hrw, ownG_lay.1 hsg, hc1, hg1⟩
  have b2 : (w1.alloc (.cells #[.int .i64 a, .int .i64 b, .int .i64 f, .int .i64 s, .slice ov L.length cv, .slice og g.length cg, .int .i64 pl, .int .i64 st] 29)).heap[w1.heap.size]? = some (.cells #[.int .i64 a, .int .i64 b, .int .i64 f, .int .i64 s, .slice ov L.length cv, .slice og g.length cg, .int .i64 pl, .int .i64 st] 29 (0, 0)) := World.alloc_heap_new w1 _
  have d2 := d1.alloc hk0 (.cells #[.int .i64 a, .int .i64 b, .int .i64 f, .int .i64 s, .slice ov L.length cv, .slice og g.length cg, .int .i64 pl, .int .i64 st] 29)
  have hs1 : w0.heap.size ≤ w1.heap.size := hg1.size
  clear hc hc0 hc1 hg1 hrw hsg d1
  go_wp2_with fail
  generalize hw2 : w1.alloc (.cells #[.int .i64 a, .int .i64 b, .int .i64 f, .int .i64 s, .slice ov L.length cv, .slice og g.length cg, .int .i64 pl, .int .i64 st] 29) = w2 at *
  clear hw2
  obtain ⟨P, hPe⟩ : ∃ P, w1.heap.size = P := ⟨_, rfl⟩
  have hP0 : w0.heap.size ≤ P := by omega
  have hPk : P ≠ k := by omega
  rw [hPe] at b2 ⊢
  clear hPe hs1
  refine (l1Once_any k 7 _ d2.cur (by omega) (by omega)).mono ?_
  rintro e w3 ⟨x3, rfl, hc3, hg3⟩
  have d3 := d2.call hg3 hc3 hk0
  have b3 := box_gr b2 hg3 hPk
  clear d2 b2 hc3 hg3
  cases x3 with
  | false =>
    have rS := box_gr hR0 d3.gr hkR
    have y0 : w3.cell? ⟨P, 0, none⟩ = some (.int .i64 a) := block_cell b3 0 _ rfl
    have y1 : w3.cell? ⟨P, 1, none⟩ = some (.int .i64 b) := block_cell b3 1 _ rfl
    have y2 : w3.cell? ⟨P, 2, none⟩ = some (.int .i64 f) := block_cell b3 2 _ rfl
    have y3 : w3.cell? ⟨P, 3, none⟩ = some (.int .i64 s) := block_cell b3 3 _ rfl
    have y4 : w3.cell? ⟨P, 4, none⟩ = some (.slice ov L.length cv) := block_cell b3 4 _ rfl
    have y5 : w3.cell? ⟨P, 5, none⟩ = some (.slice og g.length cg) := block_cell b3 5 _ rfl
    have y6 : w3.cell? ⟨P, 6, none⟩ = some (.int .i64 pl) := block_cell b3 6 _ rfl
    have y7 : w3.cell? ⟨P, 7, none⟩ = some (.int .i64 st) := block_cell b3 7 _ rfl
    have e0 : w3.cell? ⟨w.heap.size, 0, none⟩ = some (.int .i64 0) := block_cell rS 0 _ rfl
    have q0 : w3.frozen? ⟨w.heap.size, 0, none⟩ = false := block_frozen rS 0
    have e1 : w3.cell? ⟨w.heap.size, 1, none⟩ = some (.int .i64 0) := block_cell rS 1 _ rfl
    have q1 : w3.frozen? ⟨w.heap.size, 1, none⟩ = false := block_frozen rS 1
    have e2 : w3.cell? ⟨w.heap.size, 2, none⟩ = some (.int .i64 0) := block_cell rS 2 _ rfl
    have q2 : w3.frozen? ⟨w.heap.size, 2, none⟩ = false := block_frozen rS 2
    have e3 : w3.cell? ⟨w.heap.size, 3, none⟩ = some (.int .i64 0) := block_cell rS 3 _ rfl
    have q3 : w3.frozen? ⟨w.heap.size, 3, none⟩ = false := block_frozen rS 3
    have e4 : w3.cell? ⟨w.heap.size, 4, none⟩ = some (.slice none 0 0) := block_cell rS 4 _ rfl
    have q4 : w3.frozen? ⟨w.heap.size, 4, none⟩ = false := block_frozen rS 4
    have e5 : w3.cell? ⟨w.heap.size, 5, none⟩ = some (.slice none 0 0) := block_cell rS 5 _ rfl
    have q5 : w3.frozen? ⟨w.heap.size, 5, none⟩ = false := block_frozen rS 5
    have e6 : w3.cell? ⟨w.heap.size, 6, none⟩ = some (.int .i64 0) := block_cell rS 6 _ rfl
    have q6 : w3.frozen? ⟨w.heap.size, 6, none⟩ = false := block_frozen rS 6
    have e7 : w3.cell? ⟨w.heap.size, 7, none⟩ = some (.int .i64 0) := block_cell rS 7 _ rfl
    have q7 : w3.frozen? ⟨w.heap.size, 7, none⟩ = false := block_frozen rS 7
    have HD := hide d3
    clear rS d3 b3
    go_wp2
    refine bodyPost_ret (v := crr a b f s (.slice ov L.length cv) (.slice og g.length cg) pl st) (by simp [results, Try.results28, go_sem, e0, e1, e2, e3, e4, e5, e6, e7]) rfl ?_
    refine HD.out.finB hk hs0 hg0 a b f s pl st hLb hL2 hg8 ?zb ?zr ?zq
    case zb => exact (put_at (put_at (put_at (put_at (put_at (put_at (put_at (put_at (Below.refl w.heap.size w3) 0 _) 1 _) 2 _) 3 _) 4 _) 5 _) 6 _) 7 _)
    case zr => (repeat (refine ownsRow_setCell_below ?_ hs0 _)); exact HD.out.row
    case zq => (repeat (refine ownsRow_setCell_below ?_ hs0 _)); exact HD.out.seg
  | true =>
    go_wp2_with fail
    refine (l1Below_any k 5 _ d3.cur (by omega) (by omega)).mono ?_
    rintro e w4 ⟨j, rfl, hj0, hj1, hc4, hg4⟩
    have d4 := d3.call hg4 hc4 hk0
    have b4 := box_gr b3 hg4 hPk
    clear d3 b3 hc4 hg4
    have hs4 : w0.heap.size ≤ w4.heap.size := d4.gr.size
    rcases (show j = 0 ∨ j = 1 ∨ j = 2 ∨ j = 3 ∨ j = 4 by omega) with h | h | h | h | h
    · subst h
      go_wp2_with fail
      refine (l1bent_any k w4 d4.cur (by omega)).mono ?_
      rintro e w5 ⟨a', b', f', s', v', L', rfl, hv', hLb', hLn', hc5, hg5⟩
      obtain ⟨ov', cv', ev', _⟩ := hv'.open
      subst ev'
      have d5 := (d4.call hg5 hc5 hk0).newrow (own_mono hv' hs4)
      have b5 := box_gr b4 hg5 hPk
      clear d4 b4 hg5 hc5 hv'
      have c0z : w5.cell? ⟨P, 0, none⟩ = some (.int .i64 a) := block_cell b5 0 _ rfl
      have f0z : w5.frozen? ⟨P, 0, none⟩ = false := block_frozen b5 0
      have c1z : w5.cell? ⟨P, 1, none⟩ = some (.int .i64 b) := block_cell b5 1 _ rfl
      have f1z : w5.frozen? ⟨P, 1, none⟩ = false := block_frozen b5 1
      have c2z : w5.cell? ⟨P, 2, none⟩ = some (.int .i64 f) := block_cell b5 2 _ rfl
      have f2z : w5.frozen? ⟨P, 2, none⟩ = false := block_frozen b5 2
      have c3z : w5.cell? ⟨P, 3, none⟩ = some (.int .i64 s) := block_cell b5 3 _ rfl
      have f3z : w5.frozen? ⟨P, 3, none⟩ = false := block_frozen b5 3
      have c4z : w5.cell? ⟨P, 4, none⟩ = some (.slice ov L.length cv) := block_cell b5 4 _ rfl
      have f4z : w5.frozen? ⟨P, 4, none⟩ = false := block_frozen b5 4
      obtain ⟨d50, b50⟩ := d5.set b5 hk0 hP0 0 (.int .i64 a')
      obtain ⟨d51, b51⟩ := d50.set b50 hk0 hP0 1 (.int .i64 b')
      obtain ⟨d52, b52⟩ := d51.set b51 hk0 hP0 2 (.int .i64 f')
      obtain ⟨d53, b53⟩ := d52.set b52 hk0 hP0 3 (.int .i64 s')
      obtain ⟨d54, b54⟩ := d53.set b53 hk0 hP0 4 (.slice ov' L'.length cv')
      clear d5 b5 d50 b50 d51 b51 d52 b52 d53 b53
      have rS := box_gr hR0 d54.gr hkR
      have y0 : (((((w5.setCell ⟨P, 0, none⟩ (.int .i64 a')).setCell ⟨P, 1, none⟩ (.int .i64 b')).setCell ⟨P, 2, none⟩ (.int .i64 f')).setCell ⟨P, 3, none⟩ (.int .i64 s')).setCell ⟨P, 4, none⟩ (.slice ov' L'.length cv')).cell? ⟨P, 0, none⟩ = some (.int .i64 a') := block_cell b54 0 _ rfl
      have y1 : (((((w5.setCell ⟨P, 0, none⟩ (.int .i64 a')).setCell ⟨P, 1, none⟩ (.int .i64 b')).setCell ⟨P, 2, none⟩ (.int .i64 f')).setCell ⟨P, 3, none⟩ (.int .i64 s')).setCell ⟨P, 4, none⟩ (.slice ov' L'.length cv')).cell? ⟨P, 1, none⟩ = some (.int .i64 b') := block_cell b54 1 _ rfl
      have y2 : (((((w5.setCell ⟨P, 0, none⟩ (.int .i64 a')).setCell ⟨P, 1, none⟩ (.int .i64 b')).setCell ⟨P, 2, none⟩ (.int .i64 f')).setCell ⟨P, 3, none⟩ (.int .i64 s')).setCell ⟨P, 4, none⟩ (.slice ov' L'.length cv')).cell? ⟨P, 2, none⟩ = some (.int .i64 f') := block_cell b54 2 _ rfl
      have y3 : (((((w5.setCell ⟨P, 0, none⟩ (.int .i64 a')).setCell ⟨P, 1, none⟩ (.int .i64 b')).setCell ⟨P, 2, none⟩ (.int .i64 f')).setCell ⟨P, 3, none⟩ (.int .i64 s')).setCell ⟨P, 4, none⟩ (.slice ov' L'.length cv')).cell? ⟨P, 3, none⟩ = some (.int .i64 s') := block_cell b54 3 _ rfl
      have y4 : (((((w5.setCell ⟨P, 0, none⟩ (.int .i64 a')).setCell ⟨P, 1, none⟩ (.int .i64 b')).setCell ⟨P, 2, none⟩ (.int .i64 f')).setCell ⟨P, 3, none⟩ (.int .i64 s')).setCell ⟨P, 4, none⟩ (.slice ov' L'.length cv')).cell? ⟨P, 4, none⟩ = some (.slice ov' L'.length cv') := block_cell b54 4 _ rfl
      have y5 : (((((w5.setCell ⟨P, 0, none⟩ (.int .i64 a')).setCell ⟨P, 1, none⟩ (.int .i64 b')).setCell ⟨P, 2, none⟩ (.int .i64 f')).setCell ⟨P, 3, none⟩ (.int .i64 s')).setCell ⟨P, 4, none⟩ (.slice ov' L'.length cv')).cell? ⟨P, 5, none⟩ = some (.slice og g.length cg) := block_cell b54 5 _ rfl
      have y6 : (((((w5.setCell ⟨P, 0, none⟩ (.int .i64 a')).setCell ⟨P, 1, none⟩ (.int .i64 b')).setCell ⟨P, 2, none⟩ (.int .i64 f')).setCell ⟨P, 3, none⟩ (.int .i64 s')).setCell ⟨P, 4, none⟩ (.slice ov' L'.length cv')).cell? ⟨P, 6, none⟩ = some (.int .i64 pl) := block_cell b54 6 _ rfl
      have y7 : (((((w5.setCell ⟨P, 0, none⟩ (.int .i64 a')).setCell ⟨P, 1, none⟩ (.int .i64 b')).setCell ⟨P, 2, none⟩ (.int .i64 f')).setCell ⟨P, 3, none⟩ (.int .i64 s')).setCell ⟨P, 4, none⟩ (.slice ov' L'.length cv')).cell? ⟨P, 7, none⟩ = some (.int .i64 st) := block_cell b54 7 _ rfl
      have e0 : (((((w5.setCell ⟨P, 0, none⟩ (.int .i64 a')).setCell ⟨P, 1, none⟩ (.int .i64 b')).setCell ⟨P, 2, none⟩ (.int .i64 f')).setCell ⟨P, 3, none⟩ (.int .i64 s')).setCell ⟨P, 4, none⟩ (.slice ov' L'.length cv')).cell? ⟨w.heap.size, 0, none⟩ = some (.int .i64 0) := block_cell rS 0 _ rfl
      have q0 : (((((w5.setCell ⟨P, 0, none⟩ (.int .i64 a')).setCell ⟨P, 1, none⟩ (.int .i64 b')).setCell ⟨P, 2, none⟩ (.int .i64 f')).setCell ⟨P, 3, none⟩ (.int .i64 s')).setCell ⟨P, 4, none⟩ (.slice ov' L'.length cv')).frozen? ⟨w.heap.size, 0, none⟩ = false := block_frozen rS 0
      have e1 : (((((w5.setCell ⟨P, 0, none⟩ (.int .i64 a')).setCell ⟨P, 1, none⟩ (.int .i64 b')).setCell ⟨P, 2, none⟩ (.int .i64 f')).setCell ⟨P, 3, none⟩ (.int .i64 s')).setCell ⟨P, 4, none⟩ (.slice ov' L'.length cv')).cell? ⟨w.heap.size, 1, none⟩ = some (.int .i64 0) := block_cell rS 1 _ rfl
      have q1 : (((((w5.setCell ⟨P, 0, none⟩ (.int .i64 a')).setCell ⟨P, 1, none⟩ (.int .i64 b')).setCell ⟨P, 2, none⟩ (.int .i64 f')).setCell ⟨P, 3, none⟩ (.int .i64 s')).setCell ⟨P, 4, none⟩ (.slice ov' L'.length cv')).frozen? ⟨w.heap.size, 1, none⟩ = false := block_frozen rS 1
      have e2 : (((((w5.setCell ⟨P, 0, none⟩ (.int .i64 a')).setCell ⟨P, 1, none⟩ (.int .i64 b')).setCell ⟨P, 2, none⟩ (.int .i64 f')).setCell ⟨P, 3, none⟩ (.int .i64 s')).setCell ⟨P, 4, none⟩ (.slice ov' L'.length cv')).cell? ⟨w.heap.size, 2, none⟩ = some (.int .i64 0) := block_cell rS 2 _ rfl
      have q2 : (((((w5.setCell ⟨P, 0, none⟩ (.int .i64 a')).setCell ⟨P, 1, none⟩ (.int .i64 b')).setCell ⟨P, 2, none⟩ (.int .i64 f')).setCell ⟨P, 3, none⟩ (.int .i64 s')).setCell ⟨P, 4, none⟩ (.slice ov' L'.length cv')).frozen? ⟨w.heap.size, 2, none⟩ = false := block_frozen rS 2
      have e3 : (((((w5.setCell ⟨P, 0, none⟩ (.int .i64 a')).setCell ⟨P, 1, none⟩ (.int .i64 b')).setCell ⟨P, 2, none⟩ (.int .i64 f')).setCell ⟨P, 3, none⟩ (.int .i64 s')).setCell ⟨P, 4, none⟩ (.slice ov' L'.length cv')).cell? ⟨w.heap.size, 3, none⟩ = some (.int .i64 0) := block_cell rS 3 _ rfl
      have q3 : (((((w5.setCell ⟨P, 0, none⟩ (.int .i64 a')).setCell ⟨P, 1, none⟩ (.int .i64 b')).setCell ⟨P, 2, none⟩ (.int .i64 f')).setCell ⟨P, 3, none⟩ (.int .i64 s')).setCell ⟨P, 4, none⟩ (.slice ov' L'.length cv')).frozen? ⟨w.heap.size, 3, none⟩ = false := block_frozen rS 3
      have e4 : (((((w5.setCell ⟨P, 0, none⟩ (.int .i64 a')).setCell ⟨P, 1, none⟩ (.int .i64 b')).setCell ⟨P, 2, none⟩ (.int .i64 f')).setCell ⟨P, 3, none⟩ (.int .i64 s')).setCell ⟨P, 4, none⟩ (.slice ov' L'.length cv')).cell? ⟨w.heap.size, 4, none⟩ = some (.slice none 0 0) := block_cell rS 4 _ rfl
      have q4 : (((((w5.setCell ⟨P, 0, none⟩ (.int .i64 a')).setCell ⟨P, 1, none⟩ (.int .i64 b')).setCell ⟨P, 2, none⟩ (.int .i64 f')).setCell ⟨P, 3, none⟩ (.int .i64 s')).setCell ⟨P, 4, none⟩ (.slice ov' L'.length cv')).frozen? ⟨w.heap.size, 4, none⟩ = false := block_frozen rS 4
      have e5 : (((((w5.setCell ⟨P, 0, none⟩ (.int .i64 a')).setCell ⟨P, 1, none⟩ (.int .i64 b')).setCell ⟨P, 2, none⟩ (.int .i64 f')).setCell ⟨P, 3, none⟩ (.int .i64 s')).setCell ⟨P, 4, none⟩ (.slice ov' L'.length cv')).cell? ⟨w.heap.size, 5, none⟩ = some (.slice none 0 0) := block_cell rS 5 _ rfl
      have q5 : (((((w5.setCell ⟨P, 0, none⟩ (.int .i64 a')).setCell ⟨P, 1, none⟩ (.int .i64 b')).setCell ⟨P, 2, none⟩ (.int .i64 f')).setCell ⟨P, 3, none⟩ (.int .i64 s')).setCell ⟨P, 4, none⟩ (.slice ov' L'.length cv')).frozen? ⟨w.heap.size, 5, none⟩ = false := block_frozen rS 5
      have e6 : (((((w5.setCell ⟨P, 0, none⟩ (.int .i64 a')).setCell ⟨P, 1, none⟩ (.int .i64 b')).setCell ⟨P, 2, none⟩ (.int .i64 f')).setCell ⟨P, 3, none⟩ (.int .i64 s')).setCell ⟨P, 4, none⟩ (.slice ov' L'.length cv')).cell? ⟨w.heap.size, 6, none⟩ = some (.int .i64 0) := block_cell rS 6 _ rfl
      have q6 : (((((w5.setCell ⟨P, 0, none⟩ (.int .i64 a')).setCell ⟨P, 1, none⟩ (.int .i64 b')).setCell ⟨P, 2, none⟩ (.int .i64 f')).setCell ⟨P, 3, none⟩ (.int .i64 s')).setCell ⟨P, 4, none⟩ (.slice ov' L'.length cv')).frozen? ⟨w.heap.size, 6, none⟩ = false := block_frozen rS 6
      have e7 : (((((w5.setCell ⟨P, 0, none⟩ (.int .i64 a')).setCell ⟨P, 1, none⟩ (.int .i64 b')).setCell ⟨P, 2, none⟩ (.int .i64 f')).setCell ⟨P, 3, none⟩ (.int .i64 s')).setCell ⟨P, 4, none⟩ (.slice ov' L'.length cv')).cell? ⟨w.heap.size, 7, none⟩ = some (.int .i64 0) := block_cell rS 7 _ rfl
      have q7 : (((((w5.setCell ⟨P, 0, none⟩ (.int .i64 a')).setCell ⟨P, 1, none⟩ (.int .i64 b')).setCell ⟨P, 2, none⟩ (.int .i64 f')).setCell ⟨P, 3, none⟩ (.int .i64 s')).setCell ⟨P, 4, none⟩ (.slice ov' L'.length cv')).frozen? ⟨w.heap.size, 7, none⟩ = false := block_frozen rS 7
      have HD := hide d54
      clear rS d54 b54
      go_wp2
      refine bodyPost_ret (v := crr a' b' f' s' (.slice ov' L'.length cv') (.slice og g.length cg) pl st) (by simp [results, Try.results28, go_sem, e0, e1, e2, e3, e4, e5, e6, e7]) rfl ?_
      refine HD.out.finB hk hs0 hg0 a' b' f' s' pl st hLb' hLn' hg8 ?zb ?zr ?zq
      case zb => exact (put_at (put_at (put_at (put_at (put_at (put_at (put_at (put_at (Below.refl w.heap.size (((((w5.setCell ⟨P, 0, none⟩ (.int .i64 a')).setCell ⟨P, 1, none⟩ (.int .i64 b')).setCell ⟨P, 2, none⟩ (.int .i64 f')).setCell ⟨P, 3, none⟩ (.int .i64 s')).setCell ⟨P, 4, none⟩ (.slice ov' L'.length cv'))) 0 _) 1 _) 2 _) 3 _) 4 _) 5 _) 6 _) 7 _)
      case zr => (repeat (refine ownsRow_setCell_below ?_ hs0 _)); exact HD.out.row
      case zq => (repeat (refine ownsRow_setCell_below ?_ hs0 _)); exact HD.out.seg
    · subst h
      have c5z : w4.cell? ⟨P, 5, none⟩ = some (.slice og g.length cg) := block_cell b4 5 _ rfl
      have cI : (w4.alloc (.cells #[.int .i64 (-1), .int .i64 0, .int .i64 (g.length : Int)] 3)).heap[w4.heap.size]? = some (.cells #[.int .i64 (-1), .int .i64 0, .int .i64 (g.length : Int)] 3 (0, 0)) := World.alloc_heap_new w4 _
      have d5 := d4.alloc hk0 (.cells #[.int .i64 (-1), .int .i64 0, .int .i64 (g.length : Int)] 3)
      have b5 := box_al b4 (.cells #[.int .i64 (-1), .int .i64 0, .int .i64 (g.length : Int)] 3)
      go_wp2_with fail
      refine (l1PickInt_any k w4.heap.size [(-1), 0, (g.length : Int)] _ d5.cur (by simp) (by omega) (by simp) (by simp) (ints_at [(-1), 0, (g.length : Int)] cI)).mono ?_
      rintro e w6 ⟨q6, hq6, rfl, hc6, hg6⟩
      have d6 := d5.call hg6 hc6 hk0
      have b6 := box_gr b5 hg6 hPk
      generalize ([(-1), 0, (g.length : Int)] : List Int).getD q6 0 = z at *
      clear d5 b5 d4 b4 hc6 hg6 cI
      have c6z : w6.cell? ⟨P, 6, none⟩ = some (.int .i64 pl) := block_cell b6 6 _ rfl
      have f6z : w6.frozen? ⟨P, 6, none⟩ = false := block_frozen b6 6
      obtain ⟨d7, b7⟩ := d6.set b6 hk0 hP0 6 (.int .i64 z)
      clear d6 b6
      have rS := box_gr hR0 d7.gr hkR
      have y0 : (w6.setCell ⟨P, 6, none⟩ (.int .i64 z)).cell? ⟨P, 0, none⟩ = some (.int .i64 a) := block_cell b7 0 _ rfl
      have y1 : (w6.setCell ⟨P, 6, none⟩ (.int .i64 z)).cell? ⟨P, 1, none⟩ = some (.int .i64 b) := block_cell b7 1 _ rfl
      have y2 : (w6.setCell ⟨P, 6, none⟩ (.int .i64 z)).cell? ⟨P, 2, none⟩ = some (.int .i64 f) := block_cell b7 2 _ rfl
      have y3 : (w6.setCell ⟨P, 6, none⟩ (.int .i64 z)).cell? ⟨P, 3, none⟩ = some (.int .i64 s) := block_cell b7 3 _ rfl
      have y4 : (w6.setCell ⟨P, 6, none⟩ (.int .i64 z)).cell? ⟨P, 4, none⟩ = some (.slice ov L.length cv) := block_cell b7 4 _ rfl
      have y5 : (w6.setCell ⟨P, 6, none⟩ (.int .i64 z)).cell? ⟨P, 5, none⟩ = some (.slice og g.length cg) := block_cell b7 5 _ rfl
      have y6 : (w6.setCell ⟨P, 6, none⟩ (.int .i64 z)).cell? ⟨P, 6, none⟩ = some (.int .i64 z) := block_cell b7 6 _ rfl
      have y7 : (w6.setCell ⟨P, 6, none⟩ (.int .i64 z)).cell? ⟨P, 7, none⟩ = some (.int .i64 st) := block_cell b7 7 _ rfl
      have e0 : (w6.setCell ⟨P, 6, none⟩ (.int .i64 z)).cell? ⟨w.heap.size, 0, none⟩ = some (.int .i64 0) := block_cell rS 0 _ rfl
      have q0 : (w6.setCell ⟨P, 6, none⟩ (.int .i64 z)).frozen? ⟨w.heap.size, 0, none⟩ = false := block_frozen rS 0
      have e1 : (w6.setCell ⟨P, 6, none⟩ (.int .i64 z)).cell? ⟨w.heap.size, 1, none⟩ = some (.int .i64 0) := block_cell rS 1 _ rfl
      have q1 : (w6.setCell ⟨P, 6, none⟩ (.int .i64 z)).frozen? ⟨w.heap.size, 1, none⟩ = false := block_frozen rS 1
      have e2 : (w6.setCell ⟨P, 6, none⟩ (.int .i64 z)).cell? ⟨w.heap.size, 2, none⟩ = some (.int .i64 0) := block_cell rS 2 _ rfl
      have q2 : (w6.setCell ⟨P, 6, none⟩ (.int .i64 z)).frozen? ⟨w.heap.size, 2, none⟩ = false := block_frozen rS 2
      have e3 : (w6.setCell ⟨P, 6, none⟩ (.int .i64 z)).cell? ⟨w.heap.size, 3, none⟩ = some (.int .i64 0) := block_cell rS 3 _ rfl
      have q3 : (w6.setCell ⟨P, 6, none⟩ (.int .i64 z)).frozen? ⟨w.heap.size, 3, none⟩ = false := block_frozen rS 3
      have e4 : (w6.setCell ⟨P, 6, none⟩ (.int .i64 z)).cell? ⟨w.heap.size, 4, none⟩ = some (.slice none 0 0) := block_cell rS 4 _ rfl
      have q4 : (w6.setCell ⟨P, 6, none⟩ (.int .i64 z)).frozen? ⟨w.heap.size, 4, none⟩ = false := block_frozen rS 4
      have e5 : (w6.setCell ⟨P, 6, none⟩ (.int .i64 z)).cell? ⟨w.heap.size, 5, none⟩ = some (.slice none 0 0) := block_cell rS 5 _ rfl
      have q5 : (w6.setCell ⟨P, 6, none⟩ (.int .i64 z)).frozen? ⟨w.heap.size, 5, none⟩ = false := block_frozen rS 5
      have e6 : (w6.setCell ⟨P, 6, none⟩ (.int .i64 z)).cell? ⟨w.heap.size, 6, none⟩ = some (.int .i64 0) := block_cell rS 6 _ rfl
      have q6 : (w6.setCell ⟨P, 6, none⟩ (.int .i64 z)).frozen? ⟨w.heap.size, 6, none⟩ = false := block_frozen rS 6
      have e7 : (w6.setCell ⟨P, 6, none⟩ (.int .i64 z)).cell? ⟨w.heap.size, 7, none⟩ = some (.int .i64 0) := block_cell rS 7 _ rfl
      have q7 : (w6.setCell ⟨P, 6, none⟩ (.int .i64 z)).frozen? ⟨w.heap.size, 7, none⟩ = false := block_frozen rS 7
      have HD := hide d7
      clear rS d7 b7
      go_wp2
      refine bodyPost_ret (v := crr a b f s (.slice ov L.length cv) (.slice og g.length cg) z st) (by simp [results, Try.results28, go_sem, e0, e1, e2, e3, e4, e5, e6, e7]) rfl ?_
      refine HD.out.finB hk hs0 hg0 a b f s z st hLb hL2 hg8 ?zb ?zr ?zq
      case zb => exact (put_at (put_at (put_at (put_at (put_at (put_at (put_at (put_at (Below.refl w.heap.size (w6.setCell ⟨P, 6, none⟩ (.int .i64 z))) 0 _) 1 _) 2 _) 3 _) 4 _) 5 _) 6 _) 7 _)
      case zr => (repeat (refine ownsRow_setCell_below ?_ hs0 _)); exact HD.out.row
      case zq => (repeat (refine ownsRow_setCell_below ?_ hs0 _)); exact HD.out.seg
    · subst h
      have cI : (w4.alloc (.cells #[.int .i64 (-1), .int .i64 0, .int .i64 5, .int .i64 6] 3)).heap[w4.heap.size]? = some (.cells #[.int .i64 (-1), .int .i64 0, .int .i64 5, .int .i64 6] 3 (0, 0)) := World.alloc_heap_new w4 _
      have dI := d4.alloc hk0 (.cells #[.int .i64 (-1), .int .i64 0, .int .i64 5, .int .i64 6] 3)
      have bI := box_al b4 (.cells #[.int .i64 (-1), .int .i64 0, .int .i64 5, .int .i64 6] 3)
      have c4z : w4.cell? ⟨P, 5, none⟩ = some (.slice og g.length cg) := block_cell b4 5 _ rfl
      have c4a : ∀ O, (w4.alloc O).cell? ⟨P, 5, none⟩ = some (.slice og g.length cg) := fun O => block_cell (box_al b4 O) 5 _ rfl
      go_wp2
      go_region_law (first | (refine step_append_lay appG rfl (.tmp 28) (.tmp 36) rfl w0.heap.size (.slice og g.length cg) g rfl (dF.alloc hk0 _).seg (some ⟨wF.heap.size, 0, none⟩) 1 _ [(px, z - 1)] 1 rfl rfl (fun h => by cases h) (rd_seg1 wF px (z - 1)) (by simp; omega) (dF.alloc hk0 _).gr.size ?_; intro va wa hva hga _; obtain ⟨oa, ka, ea, _⟩ := (ownG_lay.2 hva).open; obtain ⟨na, hna⟩ : ∃ n, (g ++ [((px : Int), z - 1)]).length = n := ⟨_, rfl⟩; have HNA := hide hna; rw [hna] at ea; rw [ea] at hva ⊢; clear hna; obtain ⟨da, ba⟩ := (dF.alloc hk0 _).app (box_al bF _) hk0 hva hga; have ca : wa.cell? ⟨P, 5, none⟩ = some (.slice og g.length cg) := block_cell ba 5 _ rfl; have fa : wa.frozen? ⟨P, 5, none⟩ = false := block_frozen ba 5) | (go_simp; go_at_call 59; refine (l1Below_any k 4 _ (dP).cur (by omega) (by omega)).mono ?_; rintro e wF ⟨z, rfl, hz0, hz1, hcB, hgB⟩; have hzw := wrap_less z hz0 hz1; have hzw2 := wrap_less' z hz0 hz1; have dF := (dP).call hgB hcB hk0; have bF := box_gr (W := wP) (bP) hgB hPk; have cwF : wF.cell? ⟨P, 5, none⟩ = some (.slice og g.length cg) := block_cell bF 5 _ rfl; have cwFa : ∀ O, (wF.alloc O).cell? ⟨P, 5, none⟩ = some (.slice og g.length cg) := (fun O => block_cell (box_al bF O) 5 _ rfl); dsimp only) | (go_simp; go_at_call 61; refine (l1PickInt_any k (w4.heap.size) [-1, 0, 5, 6] _ (dC).cur ?_ (by omega) (by simp) (by simp) (ints_at [-1, 0, 5, 6] (iC))).mono ?_; (focus (first | (simp; done) | (simp; omega) | omega)); rintro e wF ⟨q6, hq6, rfl, hcP, hgP⟩; have dF := (dC).call hgP hcP hk0; have bF := box_gr (W := wC) (bC) hgP hPk; generalize ([-1, 0, 5, 6] : List Int).getD q6 0 = px at *; have cwF : wF.cell? ⟨P, 5, none⟩ = some (.slice og g.length cg) := block_cell bF 5 _ rfl; have cwFa : ∀ O, (wF.alloc O).cell? ⟨P, 5, none⟩ = some (.slice og g.length cg) := (fun O => block_cell (box_al bF O) 5 _ rfl); dsimp only) | (go_simp; go_at_call 61; refine (l1PickInt_any k (wB.heap.size) [-1, 0, 5, 6] _ (dB.alloc hk0 (.cells #[.int .i64 (-1), .int .i64 0, .int .i64 5, .int .i64 6] 3)).cur ?_ (by omega) (by simp) (by simp) (ints_at [-1, 0, 5, 6] (World.alloc_heap_new wB _))).mono ?_; (focus (first | (simp; done) | (simp; omega) | omega)); rintro e wF ⟨q6, hq6, rfl, hcP, hgP⟩; have dF := (dB.alloc hk0 (.cells #[.int .i64 (-1), .int .i64 0, .int .i64 5, .int .i64 6] 3)).call hgP hcP hk0; have bF := box_gr (W := wB.alloc (.cells #[.int .i64 (-1), .int .i64 0, .int .i64 5, .int .i64 6] 3)) (box_al bB (.cells #[.int .i64 (-1), .int .i64 0, .int .i64 5, .int .i64 6] 3)) hgP hPk; generalize ([-1, 0, 5, 6] : List Int).getD q6 0 = px at *; have cwF : wF.cell? ⟨P, 5, none⟩ = some (.slice og g.length cg) := block_cell bF 5 _ rfl; have cwFa : ∀ O, (wF.alloc O).cell? ⟨P, 5, none⟩ = some (.slice og g.length cg) := (fun O => block_cell (box_al bF O) 5 _ rfl); dsimp only) | (go_simp; go_at_call 61; refine (l1PickInt_any k (w4.heap.size) [-1, 0, 5, 6] _ (dI.drew).cur ?_ (by omega) (by simp) (by simp) (ints_at [-1, 0, 5, 6] (cI))).mono ?_; (focus (first | (simp; done) | (simp; omega) | omega)); rintro e wP ⟨q6, hq6, rfl, hcP, hgP⟩; have dP := (dI.drew).call hgP hcP hk0; have bP := box_gr (W := (w4.alloc (.cells #[.int .i64 (-1), .int .i64 0, .int .i64 5, .int .i64 6] 3)).drew) (bI) hgP hPk; generalize ([-1, 0, 5, 6] : List Int).getD q6 0 = px at *; have cwP : wP.cell? ⟨P, 5, none⟩ = some (.slice og g.length cg) := block_cell bP 5 _ rfl; have cwPa : ∀ O, (wP.alloc O).cell? ⟨P, 5, none⟩ = some (.slice og g.length cg) := (fun O => block_cell (box_al bP O) 5 _ rfl); dsimp only) | (go_simp; go_at_call 59; refine (l1Below_any k 4 _ (dI.drew).cur (by omega) (by omega)).mono ?_; rintro e wC ⟨z, rfl, hz0, hz1, hcB, hgB⟩; have hzw := wrap_less z hz0 hz1; have hzw2 := wrap_less' z hz0 hz1; have dC := (dI.drew).call hgB hcB hk0; have bC := box_gr (W := (w4.alloc (.cells #[.int .i64 (-1), .int .i64 0, .int .i64 5, .int .i64 6] 3)).drew) (bI) hgB hPk; have cwC : wC.cell? ⟨P, 5, none⟩ = some (.slice og g.length cg) := block_cell bC 5 _ rfl; have cwCa : ∀ O, (wC.alloc O).cell? ⟨P, 5, none⟩ = some (.slice og g.length cg) := (fun O => block_cell (box_al bC O) 5 _ rfl); have iC := box_gr (W := (w4.alloc (.cells #[.int .i64 (-1), .int .i64 0, .int .i64 5, .int .i64 6] 3)).drew) cI hgB (by omega); have lC : w4.heap.size < wC.heap.size := box_lt iC; dsimp only) | (go_simp; go_at_call 59; refine (l1Below_any k 4 _ (d4.drew).cur (by omega) (by omega)).mono ?_; rintro e wB ⟨z, rfl, hz0, hz1, hcB, hgB⟩; have hzw := wrap_less z hz0 hz1; have hzw2 := wrap_less' z hz0 hz1; have dB := (d4.drew).call hgB hcB hk0; have bB := box_gr (W := w4.drew) (b4) hgB hPk; have cwB : wB.cell? ⟨P, 5, none⟩ = some (.slice og g.length cg) := block_cell bB 5 _ rfl; have cwBa : ∀ O, (wB.alloc O).cell? ⟨P, 5, none⟩ = some (.slice og g.length cg) := (fun O => block_cell (box_al bB O) 5 _ rfl); dsimp only))
      all_goals (
        have HL2 : Hid ((g ++ [((px : Int), z - 1)]).length ≤ 8) := by unfold Hid; rw [List.length_append]; simp only [List.length_cons, List.length_nil]; omega
        obtain ⟨db, bb⟩ := da.set ba hk0 hP0 5 (.slice oa na ka)
        clear hva hga da ba dF bF cI dI bI c4a c4z
        have rS := box_gr hR0 db.gr hkR
        have y0 : (wa.setCell ⟨P, 5, none⟩ (.slice oa na ka)).cell? ⟨P, 0, none⟩ = some (.int .i64 a) := block_cell bb 0 _ rfl
        have y1 : (wa.setCell ⟨P, 5, none⟩ (.slice oa na ka)).cell? ⟨P, 1, none⟩ = some (.int .i64 b) := block_cell bb 1 _ rfl
        have y2 : (wa.setCell ⟨P, 5, none⟩ (.slice oa na ka)).cell? ⟨P, 2, none⟩ = some (.int .i64 f) := block_cell bb 2 _ rfl
        have y3 : (wa.setCell ⟨P, 5, none⟩ (.slice oa na ka)).cell? ⟨P, 3, none⟩ = some (.int .i64 s) := block_cell bb 3 _ rfl
        have y4 : (wa.setCell ⟨P, 5, none⟩ (.slice oa na ka)).cell? ⟨P, 4, none⟩ = some (.slice ov L.length cv) := block_cell bb 4 _ rfl
        have y5 : (wa.setCell ⟨P, 5, none⟩ (.slice oa na ka)).cell? ⟨P, 5, none⟩ = some (.slice oa na ka) := block_cell bb 5 _ rfl
        have y6 : (wa.setCell ⟨P, 5, none⟩ (.slice oa na ka)).cell? ⟨P, 6, none⟩ = some (.int .i64 pl) := block_cell bb 6 _ rfl
        have y7 : (wa.setCell ⟨P, 5, none⟩ (.slice oa na ka)).cell? ⟨P, 7, none⟩ = some (.int .i64 st) := block_cell bb 7 _ rfl
        have e0 : (wa.setCell ⟨P, 5, none⟩ (.slice oa na ka)).cell? ⟨w.heap.size, 0, none⟩ = some (.int .i64 0) := block_cell rS 0 _ rfl
        have q0 : (wa.setCell ⟨P, 5, none⟩ (.slice oa na ka)).frozen? ⟨w.heap.size, 0, none⟩ = false := block_frozen rS 0
        have e1 : (wa.setCell ⟨P, 5, none⟩ (.slice oa na ka)).cell? ⟨w.heap.size, 1, none⟩ = some (.int .i64 0) := block_cell rS 1 _ rfl
        have q1 : (wa.setCell ⟨P, 5, none⟩ (.slice oa na ka)).frozen? ⟨w.heap.size, 1, none⟩ = false := block_frozen rS 1
        have e2 : (wa.setCell ⟨P, 5, none⟩ (.slice oa na ka)).cell? ⟨w.heap.size, 2, none⟩ = some (.int .i64 0) := block_cell rS 2 _ rfl
        have q2 : (wa.setCell ⟨P, 5, none⟩ (.slice oa na ka)).frozen? ⟨w.heap.size, 2, none⟩ = false := block_frozen rS 2
        have e3 : (wa.setCell ⟨P, 5, none⟩ (.slice oa na ka)).cell? ⟨w.heap.size, 3, none⟩ = some (.int .i64 0) := block_cell rS 3 _ rfl
        have q3 : (wa.setCell ⟨P, 5, none⟩ (.slice oa na ka)).frozen? ⟨w.heap.size, 3, none⟩ = false := block_frozen rS 3
        have e4 : (wa.setCell ⟨P, 5, none⟩ (.slice oa na ka)).cell? ⟨w.heap.size, 4, none⟩ = some (.slice none 0 0) := block_cell rS 4 _ rfl
        have q4 : (wa.setCell ⟨P, 5, none⟩ (.slice oa na ka)).frozen? ⟨w.heap.size, 4, none⟩ = false := block_frozen rS 4
        have e5 : (wa.setCell ⟨P, 5, none⟩ (.slice oa na ka)).cell? ⟨w.heap.size, 5, none⟩ = some (.slice none 0 0) := block_cell rS 5 _ rfl
        have q5 : (wa.setCell ⟨P, 5, none⟩ (.slice oa na ka)).frozen? ⟨w.heap.size, 5, none⟩ = false := block_frozen rS 5
        have e6 : (wa.setCell ⟨P, 5, none⟩ (.slice oa na ka)).cell? ⟨w.heap.size, 6, none⟩ = some (.int .i64 0) := block_cell rS 6 _ rfl
        have q6 : (wa.setCell ⟨P, 5, none⟩ (.slice oa na ka)).frozen? ⟨w.heap.size, 6, none⟩ = false := block_frozen rS 6
        have e7 : (wa.setCell ⟨P, 5, none⟩ (.slice oa na ka)).cell? ⟨w.heap.size, 7, none⟩ = some (.int .i64 0) := block_cell rS 7 _ rfl
        have q7 : (wa.setCell ⟨P, 5, none⟩ (.slice oa na ka)).frozen? ⟨w.heap.size, 7, none⟩ = false := block_frozen rS 7
        have HD := hide db
        clear rS db bb
        go_wp2
        refine bodyPost_ret (v := crr a b f s (.slice ov L.length cv) (.slice oa na ka) pl st) (by simp [results, Try.results28, go_sem, e0, e1, e2, e3, e4, e5, e6, e7]) rfl ?_
        refine HD.out.finB hk hs0 hg0 a b f s pl st hLb hL2 HL2.out ?zb ?zr ?zq
        case zb => exact (put_at (put_at (put_at (put_at (put_at (put_at (put_at (put_at (Below.refl w.heap.size (wa.setCell ⟨P, 5, none⟩ (.slice oa na ka))) 0 _) 1 _) 2 _) 3 _) 4 _) 5 _) 6 _) 7 _)
        case zr => (repeat (refine ownsRow_setCell_below ?_ hs0 _)); exact HD.out.row
        case zq => (repeat (refine ownsRow_setCell_below ?_ hs0 _)); exact HD.out.seg)
    · subst h
      have cI : (w4.alloc (.cells #[.int .i64 (-1), .int .i64 100000, .int .i64 100001] 3)).heap[w4.heap.size]? = some (.cells #[.int .i64 (-1), .int .i64 100000, .int .i64 100001] 3 (0, 0)) := World.alloc_heap_new w4 _
      have d5 := d4.alloc hk0 (.cells #[.int .i64 (-1), .int .i64 100000, .int .i64 100001] 3)
      have b5 := box_al b4 (.cells #[.int .i64 (-1), .int .i64 100000, .int .i64 100001] 3)
      go_wp2_with fail
      refine (l1PickInt_any k w4.heap.size [(-1), 100000, 100001] _ d5.cur (by simp) (by omega) (by simp) (by simp) (ints_at [(-1), 100000, 100001] cI)).mono ?_
      rintro e w6 ⟨q6, hq6, rfl, hc6, hg6⟩
      have d6 := d5.call hg6 hc6 hk0
      have b6 := box_gr b5 hg6 hPk
      generalize ([(-1), 100000, 100001] : List Int).getD q6 0 = z at *
      clear d5 b5 d4 b4 hc6 hg6 cI
      have c6z : w6.cell? ⟨P, 7, none⟩ = some (.int .i64 st) := block_cell b6 7 _ rfl
      have f6z : w6.frozen? ⟨P, 7, none⟩ = false := block_frozen b6 7
      obtain ⟨d7, b7⟩ := d6.set b6 hk0 hP0 7 (.int .i64 z)
      clear d6 b6
      have rS := box_gr hR0 d7.gr hkR
      have y0 : (w6.setCell ⟨P, 7, none⟩ (.int .i64 z)).cell? ⟨P, 0, none⟩ = some (.int .i64 a) := block_cell b7 0 _ rfl
      have y1 : (w6.setCell ⟨P, 7, none⟩ (.int .i64 z)).cell? ⟨P, 1, none⟩ = some (.int .i64 b) := block_cell b7 1 _ rfl
      have y2 : (w6.setCell ⟨P, 7, none⟩ (.int .i64 z)).cell? ⟨P, 2, none⟩ = some (.int .i64 f) := block_cell b7 2 _ rfl
      have y3 : (w6.setCell ⟨P, 7, none⟩ (.int .i64 z)).cell? ⟨P, 3, none⟩ = some (.int .i64 s) := block_cell b7 3 _ rfl
      have y4 : (w6.setCell ⟨P, 7, none⟩ (.int .i64 z)).cell? ⟨P, 4, none⟩ = some (.slice ov L.length cv) := block_cell b7 4 _ rfl
      have y5 : (w6.setCell ⟨P, 7, none⟩ (.int .i64 z)).cell? ⟨P, 5, none⟩ = some (.slice og g.length cg) := block_cell b7 5 _ rfl
      have y6 : (w6.setCell ⟨P, 7, none⟩ (.int .i64 z)).cell? ⟨P, 6, none⟩ = some (.int .i64 pl) := block_cell b7 6 _ rfl
      have y7 : (w6.setCell ⟨P, 7, none⟩ (.int .i64 z)).cell? ⟨P, 7, none⟩ = some (.int .i64 z) := block_cell b7 7 _ rfl
      have e0 : (w6.setCell ⟨P, 7, none⟩ (.int .i64 z)).cell? ⟨w.heap.size, 0, none⟩ = some (.int .i64 0) := block_cell rS 0 _ rfl
      have q0 : (w6.setCell ⟨P, 7, none⟩ (.int .i64 z)).frozen? ⟨w.heap.size, 0, none⟩ = false := block_frozen rS 0
      have e1 : (w6.setCell ⟨P, 7, none⟩ (.int .i64 z)).cell? ⟨w.heap.size, 1, none⟩ = some (.int .i64 0) := block_cell rS 1 _ rfl
      have q1 : (w6.setCell ⟨P, 7, none⟩ (.int .i64 z)).frozen? ⟨w.heap.size, 1, none⟩ = false := block_frozen rS 1
      have e2 : (w6.setCell ⟨P, 7, none⟩ (.int .i64 z)).cell? ⟨w.heap.size, 2, none⟩ = some (.int .i64 0) := block_cell rS 2 _ rfl
      have q2 : (w6.setCell ⟨P, 7, none⟩ (.int .i64 z)).frozen? ⟨w.heap.size, 2, none⟩ = false := block_frozen rS 2
      have e3 : (w6.setCell ⟨P, 7, none⟩ (.int .i64 z)).cell? ⟨w.heap.size, 3, none⟩ = some (.int .i64 0) := block_cell rS 3 _ rfl
      have q3 : (w6.setCell ⟨P, 7, none⟩ (.int .i64 z)).frozen? ⟨w.heap.size, 3, none⟩ = false := block_frozen rS 3
      have e4 : (w6.setCell ⟨P, 7, none⟩ (.int .i64 z)).cell? ⟨w.heap.size, 4, none⟩ = some (.slice none 0 0) := block_cell rS 4 _ rfl
      have q4 : (w6.setCell ⟨P, 7, none⟩ (.int .i64 z)).frozen? ⟨w.heap.size, 4, none⟩ = false := block_frozen rS 4
      have e5 : (w6.setCell ⟨P, 7, none⟩ (.int .i64 z)).cell? ⟨w.heap.size, 5, none⟩ = some (.slice none 0 0) := block_cell rS 5 _ rfl
      have q5 : (w6.setCell ⟨P, 7, none⟩ (.int .i64 z)).frozen? ⟨w.heap.size, 5, none⟩ = false := block_frozen rS 5
      have e6 : (w6.setCell ⟨P, 7, none⟩ (.int .i64 z)).cell? ⟨w.heap.size, 6, none⟩ = some (.int .i64 0) := block_cell rS 6 _ rfl
      have q6 : (w6.setCell ⟨P, 7, none⟩ (.int .i64 z)).frozen? ⟨w.heap.size, 6, none⟩ = false := block_frozen rS 6
      have e7 : (w6.setCell ⟨P, 7, none⟩ (.int .i64 z)).cell? ⟨w.heap.size, 7, none⟩ = some (.int .i64 0) := block_cell rS 7 _ rfl
      have q7 : (w6.setCell ⟨P, 7, none⟩ (.int .i64 z)).frozen? ⟨w.heap.size, 7, none⟩ = false := block_frozen rS 7
      have HD := hide d7
      clear rS d7 b7
      go_wp2
      refine bodyPost_ret (v := crr a b f s (.slice ov L.length cv) (.slice og g.length cg) pl z) (by simp [results, Try.results28, go_sem, e0, e1, e2, e3, e4, e5, e6, e7]) rfl ?_
      refine HD.out.finB hk hs0 hg0 a b f s pl z hLb hL2 hg8 ?zb ?zr ?zq
      case zb => exact (put_at (put_at (put_at (put_at (put_at (put_at (put_at (put_at (Below.refl w.heap.size (w6.setCell ⟨P, 7, none⟩ (.int .i64 z))) 0 _) 1 _) 2 _) 3 _) 4 _) 5 _) 6 _) 7 _)
      case zr => (repeat (refine ownsRow_setCell_below ?_ hs0 _)); exact HD.out.row
      case zq => (repeat (refine ownsRow_setCell_below ?_ hs0 _)); exact HD.out.seg
    · subst h
      have c5z : w4.cell? ⟨P, 5, none⟩ = some (.slice og g.length cg) := block_cell b4 5 _ rfl
      have f5z : w4.frozen? ⟨P, 5, none⟩ = false := block_frozen b4 5
      obtain ⟨d7, b7⟩ := d4.noseg.set b4 hk0 hP0 5 (.slice none 0 0)
      have hg0' : ([] : List (Int × Int)).length ≤ 8 := by decide
      clear d4 b4
      have rS := box_gr hR0 d7.gr hkR
      have y0 : (w4.setCell ⟨P, 5, none⟩ (.slice none 0 0)).cell? ⟨P, 0, none⟩ = some (.int .i64 a) := block_cell b7 0 _ rfl
      have y1 : (w4.setCell ⟨P, 5, none⟩ (.slice none 0 0)).cell? ⟨P, 1, none⟩ = some (.int .i64 b) := block_cell b7 1 _ rfl
      have y2 : (w4.setCell ⟨P, 5, none⟩ (.slice none 0 0)).cell? ⟨P, 2, none⟩ = some (.int .i64 f) := block_cell b7 2 _ rfl
      have y3 : (w4.setCell ⟨P, 5, none⟩ (.slice none 0 0)).cell? ⟨P, 3, none⟩ = some (.int .i64 s) := block_cell b7 3 _ rfl
      have y4 : (w4.setCell ⟨P, 5, none⟩ (.slice none 0 0)).cell? ⟨P, 4, none⟩ = some (.slice ov L.length cv) := block_cell b7 4 _ rfl
      have y5 : (w4.setCell ⟨P, 5, none⟩ (.slice none 0 0)).cell? ⟨P, 5, none⟩ = some (.slice none 0 0) := block_cell b7 5 _ rfl
      have y6 : (w4.setCell ⟨P, 5, none⟩ (.slice none 0 0)).cell? ⟨P, 6, none⟩ = some (.int .i64 pl) := block_cell b7 6 _ rfl
      have y7 : (w4.setCell ⟨P, 5, none⟩ (.slice none 0 0)).cell? ⟨P, 7, none⟩ = some (.int .i64 st) := block_cell b7 7 _ rfl
      have e0 : (w4.setCell ⟨P, 5, none⟩ (.slice none 0 0)).cell? ⟨w.heap.size, 0, none⟩ = some (.int .i64 0) := block_cell rS 0 _ rfl
      have q0 : (w4.setCell ⟨P, 5, none⟩ (.slice none 0 0)).frozen? ⟨w.heap.size, 0, none⟩ = false := block_frozen rS 0
      have e1 : (w4.setCell ⟨P, 5, none⟩ (.slice none 0 0)).cell? ⟨w.heap.size, 1, none⟩ = some (.int .i64 0) := block_cell rS 1 _ rfl
      have q1 : (w4.setCell ⟨P, 5, none⟩ (.slice none 0 0)).frozen? ⟨w.heap.size, 1, none⟩ = false := block_frozen rS 1
      have e2 : (w4.setCell ⟨P, 5, none⟩ (.slice none 0 0)).cell? ⟨w.heap.size, 2, none⟩ = some (.int .i64 0) := block_cell rS 2 _ rfl
      have q2 : (w4.setCell ⟨P, 5, none⟩ (.slice none 0 0)).frozen? ⟨w.heap.size, 2, none⟩ = false := block_frozen rS 2
      have e3 : (w4.setCell ⟨P, 5, none⟩ (.slice none 0 0)).cell? ⟨w.heap.size, 3, none⟩ = some (.int .i64 0) := block_cell rS 3 _ rfl
      have q3 : (w4.setCell ⟨P, 5, none⟩ (.slice none 0 0)).frozen? ⟨w.heap.size, 3, none⟩ = false := block_frozen rS 3
      have e4 : (w4.setCell ⟨P, 5, none⟩ (.slice none 0 0)).cell? ⟨w.heap.size, 4, none⟩ = some (.slice none 0 0) := block_cell rS 4 _ rfl
      have q4 : (w4.setCell ⟨P, 5, none⟩ (.slice none 0 0)).frozen? ⟨w.heap.size, 4, none⟩ = false := block_frozen rS 4
      have e5 : (w4.setCell ⟨P, 5, none⟩ (.slice none 0 0)).cell? ⟨w.heap.size, 5, none⟩ = some (.slice none 0 0) := block_cell rS 5 _ rfl
      have q5 : (w4.setCell ⟨P, 5, none⟩ (.slice none 0 0)).frozen? ⟨w.heap.size, 5, none⟩ = false := block_frozen rS 5
      have e6 : (w4.setCell ⟨P, 5, none⟩ (.slice none 0 0)).cell? ⟨w.heap.size, 6, none⟩ = some (.int .i64 0) := block_cell rS 6 _ rfl
      have q6 : (w4.setCell ⟨P, 5, none⟩ (.slice none 0 0)).frozen? ⟨w.heap.size, 6, none⟩ = false := block_frozen rS 6
      have e7 : (w4.setCell ⟨P, 5, none⟩ (.slice none 0 0)).cell? ⟨w.heap.size, 7, none⟩ = some (.int .i64 0) := block_cell rS 7 _ rfl
      have q7 : (w4.setCell ⟨P, 5, none⟩ (.slice none 0 0)).frozen? ⟨w.heap.size, 7, none⟩ = false := block_frozen rS 7
      have HD := hide d7
      clear rS d7 b7
      go_wp2
      refine bodyPost_ret (v := crr a b f s (.slice ov L.length cv) (.slice none 0 0) pl st) (by simp [results, Try.results28, go_sem, e0, e1, e2, e3, e4, e5, e6, e7]) rfl ?_
      refine HD.out.finB hk hs0 hg0 a b f s pl st hLb hL2 hg0' ?zb ?zr ?zq
      case zb => exact (put_at (put_at (put_at (put_at (put_at (put_at (put_at (put_at (Below.refl w.heap.size (w4.setCell ⟨P, 5, none⟩ (.slice none 0 0))) 0 _) 1 _) 2 _) 3 _) 4 _) 5 _) 6 _) 7 _)
      case zr => (repeat (refine ownsRow_setCell_below ?_ hs0 _)); exact HD.out.row
      case zq => (repeat (refine ownsRow_setCell_below ?_ hs0 _)); exact HD.out.seg

set_option maxRecDepth 100000 in
set_option maxHeartbeats 2000000 in
theorem drawNext_any (o : Option Addr) (cap : Nat) (l : List Int) (w : World) (hR : Rd w o l) (hB8 : isB l) (hm : l.length ≤ maxLen) :
    Calls Try.prog 6 #[.slice o l.length cap] w fun e w' => ∃ (v : Value) (m : Cm), e = .returned v ∧ ownCm w' w.heap.size v m ∧ isB m.l ∧ m.l.length ≤ 2000 ∧ m.g.length ≤ 8 ∧ Below w.heap.size w w' := by
  have hR0 : (w.alloc (.cells #[.int .i64 0, .int .i64 0, .int .i64 0, .int .i64 0, .slice none 0 0, .slice none 0 0, .int .i64 0, .int .i64 0] 29)).heap[w.heap.size]? = some (.cells #[.int .i64 0, .int .i64 0, .int .i64 0, .int .i64 0, .slice none 0 0, .slice none 0 0, .int .i64 0, .int .i64 0] 29 (0, 0)) := World.alloc_heap_new w _
  have hb0 : Below w.heap.size w (w.alloc (.cells #[.int .i64 0, .int .i64 0, .int .i64 0, .int .i64 0, .slice none 0 0, .slice none 0 0, .int .i64 0, .int .i64 0] 29)) := (Below.refl _ _).alloc (Nat.le_refl _) _
  have hRd := hR.kept hb0
  go_enter Try.func6, Try.ntmps6
  go_wp2_with fail
  generalize hw0 : w.alloc (.cells #[.int .i64 0, .int .i64 0, .int .i64 0, .int .i64 0, .slice none 0 0, .slice none 0 0, .int .i64 0, .int .i64 0] 29) = w0 at *
  have hs0 : w.heap.size < w0.heap.size := by rw [← hw0]; simp
  clear hw0
  refine (l1New_any o cap l w0 hRd hB8 hm).mono ?_
  rintro e w1 ⟨rfl, hc1, hb1, hs1⟩
  go_wp2_with fail
  refine (l2bent_any w0.heap.size w1 hc1 hs1).mono ?_
  rintro e w2 ⟨v, ⟨a, b, f, s, L, g, pl, st⟩, rfl, ⟨vl, vg, rfl, hrw, hsg⟩, hLb, hLn, hgn, hc2, hg2⟩
  dsimp only at hrw hsg hLb hLn hgn ⊢
  obtain ⟨ov, cv, ev, _⟩ := hrw.open
  subst ev
  obtain ⟨og, cg, eg, _⟩ := hsg.open
  subst eg
  have hb2 : Below w0.heap.size w1 w2 := below_of_grown hg2 hs1
  have rS := ((hb1.trans hb2).block _ hs0).trans hR0
  have hb02 : Below w.heap.size w w2 := hb0.trans ((hb1.trans hb2).mono (Nat.le_of_lt hs0))
  have hRw1 : w.heap.size < w1.heap.size := by omega
  have e0 : w2.cell? ⟨w.heap.size, 0, none⟩ = some (.int .i64 0) := block_cell rS 0 _ rfl
  have q0 : w2.frozen? ⟨w.heap.size, 0, none⟩ = false := block_frozen rS 0
  have e1 : w2.cell? ⟨w.heap.size, 1, none⟩ = some (.int .i64 0) := block_cell rS 1 _ rfl
  have q1 : w2.frozen? ⟨w.heap.size, 1, none⟩ = false := block_frozen rS 1
  have e2 : w2.cell? ⟨w.heap.size, 2, none⟩ = some (.int .i64 0) := block_cell rS 2 _ rfl
  have q2 : w2.frozen? ⟨w.heap.size, 2, none⟩ = false := block_frozen rS 2
  have e3 : w2.cell? ⟨w.heap.size, 3, none⟩ = some (.int .i64 0) := block_cell rS 3 _ rfl
  have q3 : w2.frozen? ⟨w.heap.size, 3, none⟩ = false := block_frozen rS 3
  have e4 : w2.cell? ⟨w.heap.size, 4, none⟩ = some (.slice none 0 0) := block_cell rS 4 _ rfl
  have q4 : w2.frozen? ⟨w.heap.size, 4, none⟩ = false := block_frozen rS 4
  have e5 : w2.cell? ⟨w.heap.size, 5, none⟩ = some (.slice none 0 0) := block_cell rS 5 _ rfl
  have q5 : w2.frozen? ⟨w.heap.size, 5, none⟩ = false := block_frozen rS 5
  have e6 : w2.cell? ⟨w.heap.size, 6, none⟩ = some (.int .i64 0) := block_cell rS 6 _ rfl
  have q6 : w2.frozen? ⟨w.heap.size, 6, none⟩ = false := block_frozen rS 6
  have e7 : w2.cell? ⟨w.heap.size, 7, none⟩ = some (.int .i64 0) := block_cell rS 7 _ rfl
  have q7 : w2.frozen? ⟨w.heap.size, 7, none⟩ = false := block_frozen rS 7
  have HRW := hide (And.intro hrw hsg)
  have HB := hide hb02
  clear hb1 hb2 hg2 hc1 hc2 hR hRd hb0 hrw hsg rS hR0 hb02
  go_wp2
  refine bodyPost_ret (v := crr a b f s (.slice ov L.length cv) (.slice og g.length cg) pl st) (by simp [results, Try.results6, go_sem, e0, e1, e2, e3, e4, e5, e6, e7]) rfl ?_
  refine ⟨_, ⟨a, b, f, s, L, g, pl, st⟩, rfl, ⟨_, _, rfl, own_mono (base := w1.heap.size) ?_ (Nat.le_of_lt hRw1), own_mono (base := w1.heap.size) ?_ (Nat.le_of_lt hRw1)⟩, hLb, hLn, hgn, ?_⟩
  · (repeat (refine ownsRow_setCell_below ?_ hRw1 _)); exact HRW.out.1
  · (repeat (refine ownsRow_setCell_below ?_ hRw1 _)); exact HRW.out.2
  · exact HB.out.trans (put_at (put_at (put_at (put_at (put_at (put_at (put_at (put_at (Below.refl w.heap.size w2) 0 _) 1 _) 2 _) 3 _) 4 _) 5 _) 6 _) 7 _)


end Go.Proofs.Ytoeoiljddcjphaa
