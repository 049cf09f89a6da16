/- Next on both sides. -/
import Derived.Test.YtoeoiljddcjphaaSNext2
import Derived.Test.YtoeoiljddcjphaaBits
namespace Go.Proofs.Ytoeoiljddcjphaa
open Go.ChangeShapes Go.WideShapes Go.ChangeAt Go.RowKit Go.Joins
set_option linter.unusedVariables false
set_option linter.unusedSimpArgs false

/-- What is carried, as the model has it. -/
structure Cm where
  a : Int
  b : Int
  f : Int
  s : Int
  l : List Int
  g : List (Int × Int)
  pl : Int
  st : Int
def Cm.zero : Cm := ⟨0, 0, 0, 0, [], [], 0, 0⟩
def Cm.ok (c : Cm) : Bool := carrierOkB c.a c.b c.f c.s c.l.length c.g c.pl c.st
/-- The next one, and whether there is one. -/
def nextM (c : Cm) : Cm × Bool := if c.ok then (if c.pl = (c.g.length : Int) - 1 then (c, false) else ({ c with pl := c.pl + 1 }, true)) else (Cm.zero, false)
/-- A carrier that a call hands out, of its own memory. -/
def ownCm (w : World) (base : Nat) (v : Value) (m : Cm) : Prop := ∃ vl vg, v = crr m.a m.b m.f m.s vl vg m.pl m.st ∧ ownB w base vl m.l ∧ ownG w base vg m.g
/-- A row of the call's own behind a store into another block. -/
theorem own_set {w : World} {base : Nat} {e : TypeId} {size : Nat} {v : Value} {n : Nat} {xs : List Value} (h : w.ownsRow base e size v n xs) (q j : Nat) (u : Value) (hq : ∀ b, v.ownBlock = some b → b ≠ q) : (w.setCell ⟨q, j, none⟩ u).ownsRow base e size v n xs := by
  refine World.ownsRow.kept h (w' := w.setCell ⟨q, j, none⟩ u) (row := some q) ⟨rfl, rfl, rfl, by simp [World.setCell], fun k hk hne => Below.heap_setCell w ⟨q, j, none⟩ u k (fun e => hne (by rw [e]))⟩ ?_
  cases hob : v.ownBlock with
  | none => exact .inl rfl
  | some b => right; intro e'; injection e' with e'; exact hq b hob e'

set_option maxRecDepth 100000 in
set_option maxHeartbeats 4000000 in
theorem implNext_any (a b f s : Int) (o og : Option Addr) (cap cg : Nat) (l : List Int) (g : List (Int × Int)) (pl st : Int) (w : World) (hR : Rd w o l) (hnil : o = none → cap = 0) (hl : l.length ≤ 1048576) (hG : RdG w og g) (hnilg : og = none → cg = 0) (hgl : g.length ≤ 1048576) :
    Calls Try.prog 8 #[crr a b f s (.slice o l.length cap) (.slice og g.length cg) pl st] w fun e w' => ∃ v, e = .returned (.tuple #[v, .bool (nextM ⟨a, b, f, s, l, g, pl, st⟩).2]) ∧ ownCm w' w.heap.size v (nextM ⟨a, b, f, s, l, g, pl, st⟩).1 ∧ Below w.heap.size w w' := by
  have hb0 : Below w.heap.size w ((w.alloc (.cells #[.int .i64 a, .int .i64 b, .int .i64 f, .int .i64 s, .slice o l.length cap, .slice og g.length cg, .int .i64 pl, .int .i64 st] 29)).alloc (.cells #[.int .i64 0, .int .i64 0, .int .i64 0, .int .i64 0, .slice none 0 0, .slice none 0 0, .int .i64 0, .int .i64 0] 29)) := ((Below.refl _ _).alloc (Nat.le_refl _) _).alloc (by simp) _
  have hs0 : ((w.alloc (.cells #[.int .i64 a, .int .i64 b, .int .i64 f, .int .i64 s, .slice o l.length cap, .slice og g.length cg, .int .i64 pl, .int .i64 st] 29)).alloc (.cells #[.int .i64 0, .int .i64 0, .int .i64 0, .int .i64 0, .slice none 0 0, .slice none 0 0, .int .i64 0, .int .i64 0] 29)).heap.size = w.heap.size + 2 := by simp
  have bx : ((w.alloc (.cells #[.int .i64 a, .int .i64 b, .int .i64 f, .int .i64 s, .slice o l.length cap, .slice og g.length cg, .int .i64 pl, .int .i64 st] 29)).alloc (.cells #[.int .i64 0, .int .i64 0, .int .i64 0, .int .i64 0, .slice none 0 0, .slice none 0 0, .int .i64 0, .int .i64 0] 29)).heap[w.heap.size]? = some (.cells #[.int .i64 a, .int .i64 b, .int .i64 f, .int .i64 s, .slice o l.length cap, .slice og g.length cg, .int .i64 pl, .int .i64 st] 29 (0, 0)) := (Below.heap_alloc (w.alloc (.cells #[.int .i64 a, .int .i64 b, .int .i64 f, .int .i64 s, .slice o l.length cap, .slice og g.length cg, .int .i64 pl, .int .i64 st] 29)) (.cells #[.int .i64 0, .int .i64 0, .int .i64 0, .int .i64 0, .slice none 0 0, .slice none 0 0, .int .i64 0, .int .i64 0] 29) w.heap.size (by simp)).trans (World.alloc_heap_new w (.cells #[.int .i64 a, .int .i64 b, .int .i64 f, .int .i64 s, .slice o l.length cap, .slice og g.length cg, .int .i64 pl, .int .i64 st] 29))
  have rx : ((w.alloc (.cells #[.int .i64 a, .int .i64 b, .int .i64 f, .int .i64 s, .slice o l.length cap, .slice og g.length cg, .int .i64 pl, .int .i64 st] 29)).alloc (.cells #[.int .i64 0, .int .i64 0, .int .i64 0, .int .i64 0, .slice none 0 0, .slice none 0 0, .int .i64 0, .int .i64 0] 29)).heap[w.heap.size + 1]? = some (.cells #[.int .i64 0, .int .i64 0, .int .i64 0, .int .i64 0, .slice none 0 0, .slice none 0 0, .int .i64 0, .int .i64 0] 29 (0, 0)) := by
    have := World.alloc_heap_new (w.alloc (.cells #[.int .i64 a, .int .i64 b, .int .i64 f, .int .i64 s, .slice o l.length cap, .slice og g.length cg, .int .i64 pl, .int .i64 st] 29)) (.cells #[.int .i64 0, .int .i64 0, .int .i64 0, .int .i64 0, .slice none 0 0, .slice none 0 0, .int .i64 0, .int .i64 0] 29)
    simpa only [World.size_alloc] using this
  have hc := implCarrierOk_any a b f s o og l.length cap cg g pl st ((w.alloc (.cells #[.int .i64 a, .int .i64 b, .int .i64 f, .int .i64 s, .slice o l.length cap, .slice og g.length cg, .int .i64 pl, .int .i64 st] 29)).alloc (.cells #[.int .i64 0, .int .i64 0, .int .i64 0, .int .i64 0, .slice none 0 0, .slice none 0 0, .int .i64 0, .int .i64 0] 29)) (by unfold maxLen; omega) (by unfold maxLen; omega) (hG.kept hb0)
  have HN := hide (show nextM ⟨a, b, f, s, l, g, pl, st⟩ = if carrierOkB a b f s l.length g pl st then (if pl = (g.length : Int) - 1 then (⟨a, b, f, s, l, g, pl, st⟩, false) else (⟨a, b, f, s, l, g, pl + 1, st⟩, true)) else (Cm.zero, false) from rfl)
  cases hok : carrierOkB a b f s l.length g pl st with
  | false =>
    rw [hok] at hc HN
    rw [HN.out]
    simp only [Bool.false_eq_true, if_false]
    go_enter Try.func8, Try.ntmps8
    go_wp2_with fail
    generalize ((w.alloc (.cells #[.int .i64 a, .int .i64 b, .int .i64 f, .int .i64 s, .slice o l.length cap, .slice og g.length cg, .int .i64 pl, .int .i64 st] 29)).alloc (.cells #[.int .i64 0, .int .i64 0, .int .i64 0, .int .i64 0, .slice none 0 0, .slice none 0 0, .int .i64 0, .int .i64 0] 29)) = w0 at *
    refine hc.mono ?_
    rintro e w1 ⟨rfl, hb1⟩
    replace rx := (hb1.block _ (by omega)).trans rx
    have z0 : w1.heap[w.heap.size + 1]? = some (.cells #[.int .i64 0, .int .i64 0, .int .i64 0, .int .i64 0, .slice none 0 0, .slice none 0 0, .int .i64 0, .int .i64 0] 29 (0, 0)) := rx
    have z1 : (w1.setCell ⟨w.heap.size + 1, 0, none⟩ (.int .i64 0)).heap[w.heap.size + 1]? = some (.cells #[.int .i64 0, .int .i64 0, .int .i64 0, .int .i64 0, .slice none 0 0, .slice none 0 0, .int .i64 0, .int .i64 0] 29 (0, 0)) := box_set w1 (w.heap.size + 1) 0 _ _ (.int .i64 0) z0
    have z2 : ((w1.setCell ⟨w.heap.size + 1, 0, none⟩ (.int .i64 0)).setCell ⟨w.heap.size + 1, 1, none⟩ (.int .i64 0)).heap[w.heap.size + 1]? = some (.cells #[.int .i64 0, .int .i64 0, .int .i64 0, .int .i64 0, .slice none 0 0, .slice none 0 0, .int .i64 0, .int .i64 0] 29 (0, 0)) := box_set (w1.setCell ⟨w.heap.size + 1, 0, none⟩ (.int .i64 0)) (w.heap.size + 1) 1 _ _ (.int .i64 0) z1
    have z3 : (((w1.setCell ⟨w.heap.size + 1, 0, none⟩ (.int .i64 0)).setCell ⟨w.heap.size + 1, 1, none⟩ (.int .i64 0)).setCell ⟨w.heap.size + 1, 2, none⟩ (.int .i64 0)).heap[w.heap.size + 1]? = some (.cells #[.int .i64 0, .int .i64 0, .int .i64 0, .int .i64 0, .slice none 0 0, .slice none 0 0, .int .i64 0, .int .i64 0] 29 (0, 0)) := box_set ((w1.setCell ⟨w.heap.size + 1, 0, none⟩ (.int .i64 0)).setCell ⟨w.heap.size + 1, 1, none⟩ (.int .i64 0)) (w.heap.size + 1) 2 _ _ (.int .i64 0) z2
    have z4 : ((((w1.setCell ⟨w.heap.size + 1, 0, none⟩ (.int .i64 0)).setCell ⟨w.heap.size + 1, 1, none⟩ (.int .i64 0)).setCell ⟨w.heap.size + 1, 2, none⟩ (.int .i64 0)).setCell ⟨w.heap.size + 1, 3, none⟩ (.int .i64 0)).heap[w.heap.size + 1]? = some (.cells #[.int .i64 0, .int .i64 0, .int .i64 0, .int .i64 0, .slice none 0 0, .slice none 0 0, .int .i64 0, .int .i64 0] 29 (0, 0)) := box_set (((w1.setCell ⟨w.heap.size + 1, 0, none⟩ (.int .i64 0)).setCell ⟨w.heap.size + 1, 1, none⟩ (.int .i64 0)).setCell ⟨w.heap.size + 1, 2, none⟩ (.int .i64 0)) (w.heap.size + 1) 3 _ _ (.int .i64 0) z3
    have z5 : (((((w1.setCell ⟨w.heap.size + 1, 0, none⟩ (.int .i64 0)).setCell ⟨w.heap.size + 1, 1, none⟩ (.int .i64 0)).setCell ⟨w.heap.size + 1, 2, none⟩ (.int .i64 0)).setCell ⟨w.heap.size + 1, 3, none⟩ (.int .i64 0)).setCell ⟨w.heap.size + 1, 4, none⟩ (.slice none 0 0)).heap[w.heap.size + 1]? = some (.cells #[.int .i64 0, .int .i64 0, .int .i64 0, .int .i64 0, .slice none 0 0, .slice none 0 0, .int .i64 0, .int .i64 0] 29 (0, 0)) := box_set ((((w1.setCell ⟨w.heap.size + 1, 0, none⟩ (.int .i64 0)).setCell ⟨w.heap.size + 1, 1, none⟩ (.int .i64 0)).setCell ⟨w.heap.size + 1, 2, none⟩ (.int .i64 0)).setCell ⟨w.heap.size + 1, 3, none⟩ (.int .i64 0)) (w.heap.size + 1) 4 _ _ (.slice none 0 0) z4
    have z6 : ((((((w1.setCell ⟨w.heap.size + 1, 0, none⟩ (.int .i64 0)).setCell ⟨w.heap.size + 1, 1, none⟩ (.int .i64 0)).setCell ⟨w.heap.size + 1, 2, none⟩ (.int .i64 0)).setCell ⟨w.heap.size + 1, 3, none⟩ (.int .i64 0)).setCell ⟨w.heap.size + 1, 4, none⟩ (.slice none 0 0)).setCell ⟨w.heap.size + 1, 5, none⟩ (.slice none 0 0)).heap[w.heap.size + 1]? = some (.cells #[.int .i64 0, .int .i64 0, .int .i64 0, .int .i64 0, .slice none 0 0, .slice none 0 0, .int .i64 0, .int .i64 0] 29 (0, 0)) := box_set (((((w1.setCell ⟨w.heap.size + 1, 0, none⟩ (.int .i64 0)).setCell ⟨w.heap.size + 1, 1, none⟩ (.int .i64 0)).setCell ⟨w.heap.size + 1, 2, none⟩ (.int .i64 0)).setCell ⟨w.heap.size + 1, 3, none⟩ (.int .i64 0)).setCell ⟨w.heap.size + 1, 4, none⟩ (.slice none 0 0)) (w.heap.size + 1) 5 _ _ (.slice none 0 0) z5
    have z7 : (((((((w1.setCell ⟨w.heap.size + 1, 0, none⟩ (.int .i64 0)).setCell ⟨w.heap.size + 1, 1, none⟩ (.int .i64 0)).setCell ⟨w.heap.size + 1, 2, none⟩ (.int .i64 0)).setCell ⟨w.heap.size + 1, 3, none⟩ (.int .i64 0)).setCell ⟨w.heap.size + 1, 4, none⟩ (.slice none 0 0)).setCell ⟨w.heap.size + 1, 5, none⟩ (.slice none 0 0)).setCell ⟨w.heap.size + 1, 6, none⟩ (.int .i64 0)).heap[w.heap.size + 1]? = some (.cells #[.int .i64 0, .int .i64 0, .int .i64 0, .int .i64 0, .slice none 0 0, .slice none 0 0, .int .i64 0, .int .i64 0] 29 (0, 0)) := box_set ((((((w1.setCell ⟨w.heap.size + 1, 0, none⟩ (.int .i64 0)).setCell ⟨w.heap.size + 1, 1, none⟩ (.int .i64 0)).setCell ⟨w.heap.size + 1, 2, none⟩ (.int .i64 0)).setCell ⟨w.heap.size + 1, 3, none⟩ (.int .i64 0)).setCell ⟨w.heap.size + 1, 4, none⟩ (.slice none 0 0)).setCell ⟨w.heap.size + 1, 5, none⟩ (.slice none 0 0)) (w.heap.size + 1) 6 _ _ (.int .i64 0) z6
    have z8 : ((((((((w1.setCell ⟨w.heap.size + 1, 0, none⟩ (.int .i64 0)).setCell ⟨w.heap.size + 1, 1, none⟩ (.int .i64 0)).setCell ⟨w.heap.size + 1, 2, none⟩ (.int .i64 0)).setCell ⟨w.heap.size + 1, 3, none⟩ (.int .i64 0)).setCell ⟨w.heap.size + 1, 4, none⟩ (.slice none 0 0)).setCell ⟨w.heap.size + 1, 5, none⟩ (.slice none 0 0)).setCell ⟨w.heap.size + 1, 6, none⟩ (.int .i64 0)).setCell ⟨w.heap.size + 1, 7, none⟩ (.int .i64 0)).heap[w.heap.size + 1]? = some (.cells #[.int .i64 0, .int .i64 0, .int .i64 0, .int .i64 0, .slice none 0 0, .slice none 0 0, .int .i64 0, .int .i64 0] 29 (0, 0)) := box_set (((((((w1.setCell ⟨w.heap.size + 1, 0, none⟩ (.int .i64 0)).setCell ⟨w.heap.size + 1, 1, none⟩ (.int .i64 0)).setCell ⟨w.heap.size + 1, 2, none⟩ (.int .i64 0)).setCell ⟨w.heap.size + 1, 3, none⟩ (.int .i64 0)).setCell ⟨w.heap.size + 1, 4, none⟩ (.slice none 0 0)).setCell ⟨w.heap.size + 1, 5, none⟩ (.slice none 0 0)).setCell ⟨w.heap.size + 1, 6, none⟩ (.int .i64 0)) (w.heap.size + 1) 7 _ _ (.int .i64 0) z7
    have HZ := hide z8
    have y0 : w1.cell? ⟨w.heap.size + 1, 0, none⟩ = some (.int .i64 0) := block_cell rx 0 _ rfl
    have fy0 : w1.frozen? ⟨w.heap.size + 1, 0, none⟩ = false := block_frozen rx 0
    have y1 : w1.cell? ⟨w.heap.size + 1, 1, none⟩ = some (.int .i64 0) := block_cell rx 1 _ rfl
    have fy1 : w1.frozen? ⟨w.heap.size + 1, 1, none⟩ = false := block_frozen rx 1
    have y2 : w1.cell? ⟨w.heap.size + 1, 2, none⟩ = some (.int .i64 0) := block_cell rx 2 _ rfl
    have fy2 : w1.frozen? ⟨w.heap.size + 1, 2, none⟩ = false := block_frozen rx 2
    have y3 : w1.cell? ⟨w.heap.size + 1, 3, none⟩ = some (.int .i64 0) := block_cell rx 3 _ rfl
    have fy3 : w1.frozen? ⟨w.heap.size + 1, 3, none⟩ = false := block_frozen rx 3
    have y4 : w1.cell? ⟨w.heap.size + 1, 4, none⟩ = some (.slice none 0 0) := block_cell rx 4 _ rfl
    have fy4 : w1.frozen? ⟨w.heap.size + 1, 4, none⟩ = false := block_frozen rx 4
    have y5 : w1.cell? ⟨w.heap.size + 1, 5, none⟩ = some (.slice none 0 0) := block_cell rx 5 _ rfl
    have fy5 : w1.frozen? ⟨w.heap.size + 1, 5, none⟩ = false := block_frozen rx 5
    have y6 : w1.cell? ⟨w.heap.size + 1, 6, none⟩ = some (.int .i64 0) := block_cell rx 6 _ rfl
    have fy6 : w1.frozen? ⟨w.heap.size + 1, 6, none⟩ = false := block_frozen rx 6
    have y7 : w1.cell? ⟨w.heap.size + 1, 7, none⟩ = some (.int .i64 0) := block_cell rx 7 _ rfl
    have fy7 : w1.frozen? ⟨w.heap.size + 1, 7, none⟩ = false := block_frozen rx 7
    have HB : Hid (Below w.heap.size w ((((((((w1.setCell ⟨w.heap.size + 1, 0, none⟩ (.int .i64 0)).setCell ⟨w.heap.size + 1, 1, none⟩ (.int .i64 0)).setCell ⟨w.heap.size + 1, 2, none⟩ (.int .i64 0)).setCell ⟨w.heap.size + 1, 3, none⟩ (.int .i64 0)).setCell ⟨w.heap.size + 1, 4, none⟩ (.slice none 0 0)).setCell ⟨w.heap.size + 1, 5, none⟩ (.slice none 0 0)).setCell ⟨w.heap.size + 1, 6, none⟩ (.int .i64 0)).setCell ⟨w.heap.size + 1, 7, none⟩ (.int .i64 0))) := by
      show Below _ _ _
      repeat (refine Below.setCell ?_ (by simp) _)
      exact hb0.trans (hb1.mono (by omega))
    clear z0 z1 z2 z3 z4 z5 z6 z7 z8 hb0 hb1 bx hc HN
    go_wp2
    clear y0 fy0 y1 fy1 y2 fy2 y3 fy3 y4 fy4 y5 fy5 y6 fy6 y7 fy7
    generalize ((((((((w1.setCell ⟨w.heap.size + 1, 0, none⟩ (.int .i64 0)).setCell ⟨w.heap.size + 1, 1, none⟩ (.int .i64 0)).setCell ⟨w.heap.size + 1, 2, none⟩ (.int .i64 0)).setCell ⟨w.heap.size + 1, 3, none⟩ (.int .i64 0)).setCell ⟨w.heap.size + 1, 4, none⟩ (.slice none 0 0)).setCell ⟨w.heap.size + 1, 5, none⟩ (.slice none 0 0)).setCell ⟨w.heap.size + 1, 6, none⟩ (.int .i64 0)).setCell ⟨w.heap.size + 1, 7, none⟩ (.int .i64 0)) = w9 at *
    have z0 : w9.cell? ⟨w.heap.size + 1, 0, none⟩ = some (.int .i64 0) := block_cell HZ.out 0 _ rfl
    have z1 : w9.cell? ⟨w.heap.size + 1, 1, none⟩ = some (.int .i64 0) := block_cell HZ.out 1 _ rfl
    have z2 : w9.cell? ⟨w.heap.size + 1, 2, none⟩ = some (.int .i64 0) := block_cell HZ.out 2 _ rfl
    have z3 : w9.cell? ⟨w.heap.size + 1, 3, none⟩ = some (.int .i64 0) := block_cell HZ.out 3 _ rfl
    have z4 : w9.cell? ⟨w.heap.size + 1, 4, none⟩ = some (.slice none 0 0) := block_cell HZ.out 4 _ rfl
    have z5 : w9.cell? ⟨w.heap.size + 1, 5, none⟩ = some (.slice none 0 0) := block_cell HZ.out 5 _ rfl
    have z6 : w9.cell? ⟨w.heap.size + 1, 6, none⟩ = some (.int .i64 0) := block_cell HZ.out 6 _ rfl
    have z7 : w9.cell? ⟨w.heap.size + 1, 7, none⟩ = some (.int .i64 0) := block_cell HZ.out 7 _ rfl
    refine bodyPost_ret (v := .tuple #[crr 0 0 0 0 (.slice none 0 0) (.slice none 0 0) 0 0, .bool false]) (by simp [results, Try.results8, go_sem, z0, z1, z2, z3, z4, z5, z6, z7]) rfl ⟨_, rfl, ⟨_, _, rfl, World.ownsRow_nil _ _ _ _, World.ownsRow_nil _ _ _ _⟩, HB.out⟩
  | true =>
    rw [hok] at hc HN
    simp only [if_true] at HN
    obtain ⟨_, h2, h3, h4, h5, _, _⟩ := carrierOkB_head hok
    go_enter Try.func8, Try.ntmps8
    go_wp2_with fail
    generalize ((w.alloc (.cells #[.int .i64 a, .int .i64 b, .int .i64 f, .int .i64 s, .slice o l.length cap, .slice og g.length cg, .int .i64 pl, .int .i64 st] 29)).alloc (.cells #[.int .i64 0, .int .i64 0, .int .i64 0, .int .i64 0, .slice none 0 0, .slice none 0 0, .int .i64 0, .int .i64 0] 29)) = w0 at *
    refine hc.mono ?_
    rintro e w1 ⟨rfl, hb1⟩
    replace rx := (hb1.block _ (by omega)).trans rx
    replace bx := (hb1.block _ (by omega)).trans bx
    have hB1 : Below w.heap.size w w1 := hb0.trans (hb1.mono (by omega))
    have hs1 : w.heap.size + 2 ≤ w1.heap.size := by have := hb1.size; omega
    have x0 : w1.cell? ⟨w.heap.size, 0, none⟩ = some (.int .i64 a) := block_cell bx 0 _ rfl
    have x1 : w1.cell? ⟨w.heap.size, 1, none⟩ = some (.int .i64 b) := block_cell bx 1 _ rfl
    have x2 : w1.cell? ⟨w.heap.size, 2, none⟩ = some (.int .i64 f) := block_cell bx 2 _ rfl
    have x3 : w1.cell? ⟨w.heap.size, 3, none⟩ = some (.int .i64 s) := block_cell bx 3 _ rfl
    have x4 : w1.cell? ⟨w.heap.size, 4, none⟩ = some (.slice o l.length cap) := block_cell bx 4 _ rfl
    have x5 : w1.cell? ⟨w.heap.size, 5, none⟩ = some (.slice og g.length cg) := block_cell bx 5 _ rfl
    have x6 : w1.cell? ⟨w.heap.size, 6, none⟩ = some (.int .i64 pl) := block_cell bx 6 _ rfl
    have x7 : w1.cell? ⟨w.heap.size, 7, none⟩ = some (.int .i64 st) := block_cell bx 7 _ rfl
    clear hb0 hb1 hc hok
    go_wp2_with fail
    clear x0 x1 x2 x3 x4 x5 x6 x7
    refine (cloneCarrier_any a b f s o og cap cg l g pl st w1 (hR.kept hB1) hnil hl (hG.kept hB1) hnilg hgl).mono ?_
    rintro e w2 ⟨v3, v4, rfl, ow3, ow4, hb2⟩
    obtain ⟨o3, c3, e3, _⟩ := ow3.open
    obtain ⟨o4, c4, e4, _⟩ := ow4.open
    subst e3 e4
    replace rx := (hb2.block _ (by omega)).trans rx
    replace bx := (hb2.block _ (by omega)).trans bx
    have hB2 : Below w.heap.size w w2 := hB1.trans (hb2.mono (by omega))
    have hs2 : w.heap.size + 2 ≤ w2.heap.size := Nat.le_trans hs1 hb2.size
    have nx : (w2.alloc (.cells #[.int .i64 a, .int .i64 b, .int .i64 f, .int .i64 s, .slice o3 l.length c3, .slice o4 g.length c4, .int .i64 pl, .int .i64 st] 29)).heap[w2.heap.size]? = some (.cells #[.int .i64 a, .int .i64 b, .int .i64 f, .int .i64 s, .slice o3 l.length c3, .slice o4 g.length c4, .int .i64 pl, .int .i64 st] 29 (0, 0)) := World.alloc_heap_new w2 (.cells #[.int .i64 a, .int .i64 b, .int .i64 f, .int .i64 s, .slice o3 l.length c3, .slice o4 g.length c4, .int .i64 pl, .int .i64 st] 29)
    have bA : Below w2.heap.size w2 (w2.alloc (.cells #[.int .i64 a, .int .i64 b, .int .i64 f, .int .i64 s, .slice o3 l.length c3, .slice o4 g.length c4, .int .i64 pl, .int .i64 st] 29)) := (Below.refl _ _).alloc (Nat.le_refl _) _
    have hsA : (w2.alloc (.cells #[.int .i64 a, .int .i64 b, .int .i64 f, .int .i64 s, .slice o3 l.length c3, .slice o4 g.length c4, .int .i64 pl, .int .i64 st] 29)).heap.size = w2.heap.size + 1 := by simp
    have ow3' : ownB (w2.alloc (.cells #[.int .i64 a, .int .i64 b, .int .i64 f, .int .i64 s, .slice o3 l.length c3, .slice o4 g.length c4, .int .i64 pl, .int .i64 st] 29)) w1.heap.size (.slice o3 l.length c3) l := own_kept ow3 bA
    have ow4' : ownG (w2.alloc (.cells #[.int .i64 a, .int .i64 b, .int .i64 f, .int .i64 s, .slice o3 l.length c3, .slice o4 g.length c4, .int .i64 pl, .int .i64 st] 29)) w1.heap.size (.slice o4 g.length c4) g := own_kept ow4 bA
    have q3 : ∀ b, (Value.slice o3 l.length c3).ownBlock = some b → b ≠ w2.heap.size ∧ b ≠ w.heap.size + 1 := fun b e => by have := ow3.lt b e; omega
    have q4 : ∀ b, (Value.slice o4 g.length c4).ownBlock = some b → b ≠ w2.heap.size ∧ b ≠ w.heap.size + 1 := fun b e => by have := ow4.lt b e; omega
    have rxA := (bA.block _ (by omega)).trans rx
    have bxA := (bA.block _ (by omega)).trans bx
    have BA := hB2.trans (bA.mono (by omega))
    have hk2 : w.heap.size + 2 ≤ w2.heap.size := hs2
    clear hb2 hB1 ow3 ow4 rx bx bA
    obtain ⟨wA, hwA⟩ : ∃ wA, (w2.alloc (.cells #[.int .i64 a, .int .i64 b, .int .i64 f, .int .i64 s, .slice o3 l.length c3, .slice o4 g.length c4, .int .i64 pl, .int .i64 st] 29)) = wA := ⟨_, rfl⟩
    rw [hwA] at ow3' ow4' nx rxA bxA BA hsA
    have HA := hide (And.intro ow3' (And.intro ow4' (And.intro q3 (And.intro q4 BA))))
    have HW1 := hide hs1
    have HNX := hide nx
    have HRX := hide rxA
    have HBX := hide bxA
    clear ow3' ow4' q3 q4 BA nx rxA bxA hB2 hs1
    have ne1 : ¬ (w2.heap.size = w.heap.size + 1) := by omega
    have ne2 : ¬ (w.heap.size + 1 = w2.heap.size) := by omega
    have ne3 : ¬ (w.heap.size = w2.heap.size) := by omega
    have ne4 : ¬ (w2.heap.size = w.heap.size) := by omega
    have ca6 : wA.cell? ⟨w2.heap.size, 6, none⟩ = some (.int .i64 pl) := block_cell HNX.out 6 _ rfl
    have ca5 : wA.cell? ⟨w2.heap.size, 5, none⟩ = some (.slice o4 g.length c4) := block_cell HNX.out 5 _ rfl
    have cb6 : wA.cell? ⟨w.heap.size, 6, none⟩ = some (.int .i64 pl) := block_cell HBX.out 6 _ rfl
    have cb5 : wA.cell? ⟨w.heap.size, 5, none⟩ = some (.slice og g.length cg) := block_cell HBX.out 5 _ rfl
    by_cases hlast : pl = (g.length : Int) - 1
    · rw [if_pos hlast] at HN
      have hlt : (g.length : Int) ≤ pl + 1 := by omega
      have HL := hide hlast
      have hbq : (pl == (g.length : Int) - 1) = true := by simp; omega
      clear hlast
      have z0 : wA.heap[w.heap.size + 1]? = some (.cells #[.int .i64 0, .int .i64 0, .int .i64 0, .int .i64 0, .slice none 0 0, .slice none 0 0, .int .i64 0, .int .i64 0] 29 (0, 0)) := HRX.out
      have z1 : (wA.setCell ⟨w.heap.size + 1, 0, none⟩ (.int .i64 a)).heap[w.heap.size + 1]? = some (.cells #[.int .i64 a, .int .i64 0, .int .i64 0, .int .i64 0, .slice none 0 0, .slice none 0 0, .int .i64 0, .int .i64 0] 29 (0, 0)) := box_set wA (w.heap.size + 1) 0 _ _ (.int .i64 a) z0
      have z2 : ((wA.setCell ⟨w.heap.size + 1, 0, none⟩ (.int .i64 a)).setCell ⟨w.heap.size + 1, 1, none⟩ (.int .i64 b)).heap[w.heap.size + 1]? = some (.cells #[.int .i64 a, .int .i64 b, .int .i64 0, .int .i64 0, .slice none 0 0, .slice none 0 0, .int .i64 0, .int .i64 0] 29 (0, 0)) := box_set (wA.setCell ⟨w.heap.size + 1, 0, none⟩ (.int .i64 a)) (w.heap.size + 1) 1 _ _ (.int .i64 b) z1
      have z3 : (((wA.setCell ⟨w.heap.size + 1, 0, none⟩ (.int .i64 a)).setCell ⟨w.heap.size + 1, 1, none⟩ (.int .i64 b)).setCell ⟨w.heap.size + 1, 2, none⟩ (.int .i64 f)).heap[w.heap.size + 1]? = some (.cells #[.int .i64 a, .int .i64 b, .int .i64 f, .int .i64 0, .slice none 0 0, .slice none 0 0, .int .i64 0, .int .i64 0] 29 (0, 0)) := box_set ((wA.setCell ⟨w.heap.size + 1, 0, none⟩ (.int .i64 a)).setCell ⟨w.heap.size + 1, 1, none⟩ (.int .i64 b)) (w.heap.size + 1) 2 _ _ (.int .i64 f) z2
      have z4 : ((((wA.setCell ⟨w.heap.size + 1, 0, none⟩ (.int .i64 a)).setCell ⟨w.heap.size + 1, 1, none⟩ (.int .i64 b)).setCell ⟨w.heap.size + 1, 2, none⟩ (.int .i64 f)).setCell ⟨w.heap.size + 1, 3, none⟩ (.int .i64 s)).heap[w.heap.size + 1]? = some (.cells #[.int .i64 a, .int .i64 b, .int .i64 f, .int .i64 s, .slice none 0 0, .slice none 0 0, .int .i64 0, .int .i64 0] 29 (0, 0)) := box_set (((wA.setCell ⟨w.heap.size + 1, 0, none⟩ (.int .i64 a)).setCell ⟨w.heap.size + 1, 1, none⟩ (.int .i64 b)).setCell ⟨w.heap.size + 1, 2, none⟩ (.int .i64 f)) (w.heap.size + 1) 3 _ _ (.int .i64 s) z3
      have z5 : (((((wA.setCell ⟨w.heap.size + 1, 0, none⟩ (.int .i64 a)).setCell ⟨w.heap.size + 1, 1, none⟩ (.int .i64 b)).setCell ⟨w.heap.size + 1, 2, none⟩ (.int .i64 f)).setCell ⟨w.heap.size + 1, 3, none⟩ (.int .i64 s)).setCell ⟨w.heap.size + 1, 4, none⟩ (.slice o3 l.length c3)).heap[w.heap.size + 1]? = some (.cells #[.int .i64 a, .int .i64 b, .int .i64 f, .int .i64 s, .slice o3 l.length c3, .slice none 0 0, .int .i64 0, .int .i64 0] 29 (0, 0)) := box_set ((((wA.setCell ⟨w.heap.size + 1, 0, none⟩ (.int .i64 a)).setCell ⟨w.heap.size + 1, 1, none⟩ (.int .i64 b)).setCell ⟨w.heap.size + 1, 2, none⟩ (.int .i64 f)).setCell ⟨w.heap.size + 1, 3, none⟩ (.int .i64 s)) (w.heap.size + 1) 4 _ _ (.slice o3 l.length c3) z4
      have z6 : ((((((wA.setCell ⟨w.heap.size + 1, 0, none⟩ (.int .i64 a)).setCell ⟨w.heap.size + 1, 1, none⟩ (.int .i64 b)).setCell ⟨w.heap.size + 1, 2, none⟩ (.int .i64 f)).setCell ⟨w.heap.size + 1, 3, none⟩ (.int .i64 s)).setCell ⟨w.heap.size + 1, 4, none⟩ (.slice o3 l.length c3)).setCell ⟨w.heap.size + 1, 5, none⟩ (.slice o4 g.length c4)).heap[w.heap.size + 1]? = some (.cells #[.int .i64 a, .int .i64 b, .int .i64 f, .int .i64 s, .slice o3 l.length c3, .slice o4 g.length c4, .int .i64 0, .int .i64 0] 29 (0, 0)) := box_set (((((wA.setCell ⟨w.heap.size + 1, 0, none⟩ (.int .i64 a)).setCell ⟨w.heap.size + 1, 1, none⟩ (.int .i64 b)).setCell ⟨w.heap.size + 1, 2, none⟩ (.int .i64 f)).setCell ⟨w.heap.size + 1, 3, none⟩ (.int .i64 s)).setCell ⟨w.heap.size + 1, 4, none⟩ (.slice o3 l.length c3)) (w.heap.size + 1) 5 _ _ (.slice o4 g.length c4) z5
      have z7 : (((((((wA.setCell ⟨w.heap.size + 1, 0, none⟩ (.int .i64 a)).setCell ⟨w.heap.size + 1, 1, none⟩ (.int .i64 b)).setCell ⟨w.heap.size + 1, 2, none⟩ (.int .i64 f)).setCell ⟨w.heap.size + 1, 3, none⟩ (.int .i64 s)).setCell ⟨w.heap.size + 1, 4, none⟩ (.slice o3 l.length c3)).setCell ⟨w.heap.size + 1, 5, none⟩ (.slice o4 g.length c4)).setCell ⟨w.heap.size + 1, 6, none⟩ (.int .i64 pl)).heap[w.heap.size + 1]? = some (.cells #[.int .i64 a, .int .i64 b, .int .i64 f, .int .i64 s, .slice o3 l.length c3, .slice o4 g.length c4, .int .i64 pl, .int .i64 0] 29 (0, 0)) := box_set ((((((wA.setCell ⟨w.heap.size + 1, 0, none⟩ (.int .i64 a)).setCell ⟨w.heap.size + 1, 1, none⟩ (.int .i64 b)).setCell ⟨w.heap.size + 1, 2, none⟩ (.int .i64 f)).setCell ⟨w.heap.size + 1, 3, none⟩ (.int .i64 s)).setCell ⟨w.heap.size + 1, 4, none⟩ (.slice o3 l.length c3)).setCell ⟨w.heap.size + 1, 5, none⟩ (.slice o4 g.length c4)) (w.heap.size + 1) 6 _ _ (.int .i64 pl) z6
      have z8 : ((((((((wA.setCell ⟨w.heap.size + 1, 0, none⟩ (.int .i64 a)).setCell ⟨w.heap.size + 1, 1, none⟩ (.int .i64 b)).setCell ⟨w.heap.size + 1, 2, none⟩ (.int .i64 f)).setCell ⟨w.heap.size + 1, 3, none⟩ (.int .i64 s)).setCell ⟨w.heap.size + 1, 4, none⟩ (.slice o3 l.length c3)).setCell ⟨w.heap.size + 1, 5, none⟩ (.slice o4 g.length c4)).setCell ⟨w.heap.size + 1, 6, none⟩ (.int .i64 pl)).setCell ⟨w.heap.size + 1, 7, none⟩ (.int .i64 st)).heap[w.heap.size + 1]? = some (.cells #[.int .i64 a, .int .i64 b, .int .i64 f, .int .i64 s, .slice o3 l.length c3, .slice o4 g.length c4, .int .i64 pl, .int .i64 st] 29 (0, 0)) := box_set (((((((wA.setCell ⟨w.heap.size + 1, 0, none⟩ (.int .i64 a)).setCell ⟨w.heap.size + 1, 1, none⟩ (.int .i64 b)).setCell ⟨w.heap.size + 1, 2, none⟩ (.int .i64 f)).setCell ⟨w.heap.size + 1, 3, none⟩ (.int .i64 s)).setCell ⟨w.heap.size + 1, 4, none⟩ (.slice o3 l.length c3)).setCell ⟨w.heap.size + 1, 5, none⟩ (.slice o4 g.length c4)).setCell ⟨w.heap.size + 1, 6, none⟩ (.int .i64 pl)) (w.heap.size + 1) 7 _ _ (.int .i64 st) z7
      have HZ := hide z8
      have HO3 : Hid (ownB ((((((((wA.setCell ⟨w.heap.size + 1, 0, none⟩ (.int .i64 a)).setCell ⟨w.heap.size + 1, 1, none⟩ (.int .i64 b)).setCell ⟨w.heap.size + 1, 2, none⟩ (.int .i64 f)).setCell ⟨w.heap.size + 1, 3, none⟩ (.int .i64 s)).setCell ⟨w.heap.size + 1, 4, none⟩ (.slice o3 l.length c3)).setCell ⟨w.heap.size + 1, 5, none⟩ (.slice o4 g.length c4)).setCell ⟨w.heap.size + 1, 6, none⟩ (.int .i64 pl)).setCell ⟨w.heap.size + 1, 7, none⟩ (.int .i64 st)) w.heap.size (.slice o3 l.length c3) l) := by
        refine own_mono (base := w1.heap.size) ?_ (by have := HW1.out; omega)
        repeat (refine own_set ?_ _ _ _ (fun b e => by have := HA.out.2.2.1 b e; omega))
        exact HA.out.1
      have HO4 : Hid (ownG ((((((((wA.setCell ⟨w.heap.size + 1, 0, none⟩ (.int .i64 a)).setCell ⟨w.heap.size + 1, 1, none⟩ (.int .i64 b)).setCell ⟨w.heap.size + 1, 2, none⟩ (.int .i64 f)).setCell ⟨w.heap.size + 1, 3, none⟩ (.int .i64 s)).setCell ⟨w.heap.size + 1, 4, none⟩ (.slice o3 l.length c3)).setCell ⟨w.heap.size + 1, 5, none⟩ (.slice o4 g.length c4)).setCell ⟨w.heap.size + 1, 6, none⟩ (.int .i64 pl)).setCell ⟨w.heap.size + 1, 7, none⟩ (.int .i64 st)) w.heap.size (.slice o4 g.length c4) g) := by
        refine own_mono (base := w1.heap.size) ?_ (by have := HW1.out; omega)
        repeat (refine own_set ?_ _ _ _ (fun b e => by have := HA.out.2.2.2.1 b e; omega))
        exact HA.out.2.1
      have HB : Hid (Below w.heap.size w ((((((((wA.setCell ⟨w.heap.size + 1, 0, none⟩ (.int .i64 a)).setCell ⟨w.heap.size + 1, 1, none⟩ (.int .i64 b)).setCell ⟨w.heap.size + 1, 2, none⟩ (.int .i64 f)).setCell ⟨w.heap.size + 1, 3, none⟩ (.int .i64 s)).setCell ⟨w.heap.size + 1, 4, none⟩ (.slice o3 l.length c3)).setCell ⟨w.heap.size + 1, 5, none⟩ (.slice o4 g.length c4)).setCell ⟨w.heap.size + 1, 6, none⟩ (.int .i64 pl)).setCell ⟨w.heap.size + 1, 7, none⟩ (.int .i64 st))) := by
        show Below _ _ _
        repeat (refine Below.setCell ?_ (by simp <;> omega) _)
        exact HA.out.2.2.2.2
      clear z0 z1 z2 z3 z4 z5 z6 z7 z8
      have x0 : wA.cell? ⟨w2.heap.size, 0, none⟩ = some (.int .i64 a) := block_cell HNX.out 0 _ rfl
      have fx0 : wA.frozen? ⟨w2.heap.size, 0, none⟩ = false := block_frozen HNX.out 0
      have x1 : wA.cell? ⟨w2.heap.size, 1, none⟩ = some (.int .i64 b) := block_cell HNX.out 1 _ rfl
      have fx1 : wA.frozen? ⟨w2.heap.size, 1, none⟩ = false := block_frozen HNX.out 1
      have x2 : wA.cell? ⟨w2.heap.size, 2, none⟩ = some (.int .i64 f) := block_cell HNX.out 2 _ rfl
      have fx2 : wA.frozen? ⟨w2.heap.size, 2, none⟩ = false := block_frozen HNX.out 2
      have x3 : wA.cell? ⟨w2.heap.size, 3, none⟩ = some (.int .i64 s) := block_cell HNX.out 3 _ rfl
      have fx3 : wA.frozen? ⟨w2.heap.size, 3, none⟩ = false := block_frozen HNX.out 3
      have x4 : wA.cell? ⟨w2.heap.size, 4, none⟩ = some (.slice o3 l.length c3) := block_cell HNX.out 4 _ rfl
      have fx4 : wA.frozen? ⟨w2.heap.size, 4, none⟩ = false := block_frozen HNX.out 4
      have x5 : wA.cell? ⟨w2.heap.size, 5, none⟩ = some (.slice o4 g.length c4) := block_cell HNX.out 5 _ rfl
      have fx5 : wA.frozen? ⟨w2.heap.size, 5, none⟩ = false := block_frozen HNX.out 5
      have x6 : wA.cell? ⟨w2.heap.size, 6, none⟩ = some (.int .i64 pl) := block_cell HNX.out 6 _ rfl
      have fx6 : wA.frozen? ⟨w2.heap.size, 6, none⟩ = false := block_frozen HNX.out 6
      have x7 : wA.cell? ⟨w2.heap.size, 7, none⟩ = some (.int .i64 st) := block_cell HNX.out 7 _ rfl
      have fx7 : wA.frozen? ⟨w2.heap.size, 7, none⟩ = false := block_frozen HNX.out 7
      have y0 : wA.cell? ⟨w.heap.size + 1, 0, none⟩ = some (.int .i64 0) := block_cell HRX.out 0 _ rfl
      have fy0 : wA.frozen? ⟨w.heap.size + 1, 0, none⟩ = false := block_frozen HRX.out 0
      have y1 : wA.cell? ⟨w.heap.size + 1, 1, none⟩ = some (.int .i64 0) := block_cell HRX.out 1 _ rfl
      have fy1 : wA.frozen? ⟨w.heap.size + 1, 1, none⟩ = false := block_frozen HRX.out 1
      have y2 : wA.cell? ⟨w.heap.size + 1, 2, none⟩ = some (.int .i64 0) := block_cell HRX.out 2 _ rfl
      have fy2 : wA.frozen? ⟨w.heap.size + 1, 2, none⟩ = false := block_frozen HRX.out 2
      have y3 : wA.cell? ⟨w.heap.size + 1, 3, none⟩ = some (.int .i64 0) := block_cell HRX.out 3 _ rfl
      have fy3 : wA.frozen? ⟨w.heap.size + 1, 3, none⟩ = false := block_frozen HRX.out 3
      have y4 : wA.cell? ⟨w.heap.size + 1, 4, none⟩ = some (.slice none 0 0) := block_cell HRX.out 4 _ rfl
      have fy4 : wA.frozen? ⟨w.heap.size + 1, 4, none⟩ = false := block_frozen HRX.out 4
      have y5 : wA.cell? ⟨w.heap.size + 1, 5, none⟩ = some (.slice none 0 0) := block_cell HRX.out 5 _ rfl
      have fy5 : wA.frozen? ⟨w.heap.size + 1, 5, none⟩ = false := block_frozen HRX.out 5
      have y6 : wA.cell? ⟨w.heap.size + 1, 6, none⟩ = some (.int .i64 0) := block_cell HRX.out 6 _ rfl
      have fy6 : wA.frozen? ⟨w.heap.size + 1, 6, none⟩ = false := block_frozen HRX.out 6
      have y7 : wA.cell? ⟨w.heap.size + 1, 7, none⟩ = some (.int .i64 0) := block_cell HRX.out 7 _ rfl
      have fy7 : wA.frozen? ⟨w.heap.size + 1, 7, none⟩ = false := block_frozen HRX.out 7
      go_wp2
      clear x0 fx0 x1 fx1 x2 fx2 x3 fx3 x4 fx4 x5 fx5 x6 fx6 x7 fx7
      clear y0 fy0 y1 fy1 y2 fy2 y3 fy3 y4 fy4 y5 fy5 y6 fy6 y7 fy7
      generalize ((((((((wA.setCell ⟨w.heap.size + 1, 0, none⟩ (.int .i64 a)).setCell ⟨w.heap.size + 1, 1, none⟩ (.int .i64 b)).setCell ⟨w.heap.size + 1, 2, none⟩ (.int .i64 f)).setCell ⟨w.heap.size + 1, 3, none⟩ (.int .i64 s)).setCell ⟨w.heap.size + 1, 4, none⟩ (.slice o3 l.length c3)).setCell ⟨w.heap.size + 1, 5, none⟩ (.slice o4 g.length c4)).setCell ⟨w.heap.size + 1, 6, none⟩ (.int .i64 pl)).setCell ⟨w.heap.size + 1, 7, none⟩ (.int .i64 st)) = w9 at *
      have z0 : w9.cell? ⟨w.heap.size + 1, 0, none⟩ = some (.int .i64 a) := block_cell HZ.out 0 _ rfl
      have z1 : w9.cell? ⟨w.heap.size + 1, 1, none⟩ = some (.int .i64 b) := block_cell HZ.out 1 _ rfl
      have z2 : w9.cell? ⟨w.heap.size + 1, 2, none⟩ = some (.int .i64 f) := block_cell HZ.out 2 _ rfl
      have z3 : w9.cell? ⟨w.heap.size + 1, 3, none⟩ = some (.int .i64 s) := block_cell HZ.out 3 _ rfl
      have z4 : w9.cell? ⟨w.heap.size + 1, 4, none⟩ = some (.slice o3 l.length c3) := block_cell HZ.out 4 _ rfl
      have z5 : w9.cell? ⟨w.heap.size + 1, 5, none⟩ = some (.slice o4 g.length c4) := block_cell HZ.out 5 _ rfl
      have z6 : w9.cell? ⟨w.heap.size + 1, 6, none⟩ = some (.int .i64 pl) := block_cell HZ.out 6 _ rfl
      have z7 : w9.cell? ⟨w.heap.size + 1, 7, none⟩ = some (.int .i64 st) := block_cell HZ.out 7 _ rfl
      refine bodyPost_ret (v := .tuple #[crr a b f s (.slice o3 l.length c3) (.slice o4 g.length c4) (pl) st, .bool false]) (by simp [results, Try.results8, go_sem, z0, z1, z2, z3, z4, z5, z6, z7]) rfl (by rw [HN.out]; exact ⟨_, rfl, ⟨_, _, rfl, HO3.out, HO4.out⟩, HB.out⟩)
    · rw [if_neg hlast] at HN
      have hle : pl + 1 < (g.length : Int) := by omega
      have hge : ¬ ((g.length : Int) ≤ pl + 1) := by omega
      have hgd : decide ((g.length : Int) ≤ pl + 1) = false := decide_eq_false hge
      have hwr : IntKind.i64.wrap (pl + 1) = pl + 1 := wrap_i64 _ (by omega) (by omega)
      have hbq : (pl == (g.length : Int) - 1) = false := by simp; omega
      clear hlast
      have nxB : (wA.setCell ⟨w2.heap.size, 6, none⟩ (.int .i64 (pl + 1))).heap[w2.heap.size]? = some (.cells #[.int .i64 a, .int .i64 b, .int .i64 f, .int .i64 s, .slice o3 l.length c3, .slice o4 g.length c4, .int .i64 (pl + 1), .int .i64 st] 29 (0, 0)) := box_set wA w2.heap.size 6 _ _ (.int .i64 (pl + 1)) HNX.out
      have z0 : (wA.setCell ⟨w2.heap.size, 6, none⟩ (.int .i64 (pl + 1))).heap[w.heap.size + 1]? = some (.cells #[.int .i64 0, .int .i64 0, .int .i64 0, .int .i64 0, .slice none 0 0, .slice none 0 0, .int .i64 0, .int .i64 0] 29 (0, 0)) := (box_farN wA (w.heap.size + 1) w2.heap.size 6 (.int .i64 (pl + 1)) (by omega)).trans HRX.out
      have z1 : ((wA.setCell ⟨w2.heap.size, 6, none⟩ (.int .i64 (pl + 1))).setCell ⟨w.heap.size + 1, 0, none⟩ (.int .i64 a)).heap[w.heap.size + 1]? = some (.cells #[.int .i64 a, .int .i64 0, .int .i64 0, .int .i64 0, .slice none 0 0, .slice none 0 0, .int .i64 0, .int .i64 0] 29 (0, 0)) := box_set (wA.setCell ⟨w2.heap.size, 6, none⟩ (.int .i64 (pl + 1))) (w.heap.size + 1) 0 _ _ (.int .i64 a) z0
      have z2 : (((wA.setCell ⟨w2.heap.size, 6, none⟩ (.int .i64 (pl + 1))).setCell ⟨w.heap.size + 1, 0, none⟩ (.int .i64 a)).setCell ⟨w.heap.size + 1, 1, none⟩ (.int .i64 b)).heap[w.heap.size + 1]? = some (.cells #[.int .i64 a, .int .i64 b, .int .i64 0, .int .i64 0, .slice none 0 0, .slice none 0 0, .int .i64 0, .int .i64 0] 29 (0, 0)) := box_set ((wA.setCell ⟨w2.heap.size, 6, none⟩ (.int .i64 (pl + 1))).setCell ⟨w.heap.size + 1, 0, none⟩ (.int .i64 a)) (w.heap.size + 1) 1 _ _ (.int .i64 b) z1
      have z3 : ((((wA.setCell ⟨w2.heap.size, 6, none⟩ (.int .i64 (pl + 1))).setCell ⟨w.heap.size + 1, 0, none⟩ (.int .i64 a)).setCell ⟨w.heap.size + 1, 1, none⟩ (.int .i64 b)).setCell ⟨w.heap.size + 1, 2, none⟩ (.int .i64 f)).heap[w.heap.size + 1]? = some (.cells #[.int .i64 a, .int .i64 b, .int .i64 f, .int .i64 0, .slice none 0 0, .slice none 0 0, .int .i64 0, .int .i64 0] 29 (0, 0)) := box_set (((wA.setCell ⟨w2.heap.size, 6, none⟩ (.int .i64 (pl + 1))).setCell ⟨w.heap.size + 1, 0, none⟩ (.int .i64 a)).setCell ⟨w.heap.size + 1, 1, none⟩ (.int .i64 b)) (w.heap.size + 1) 2 _ _ (.int .i64 f) z2
      have z4 : (((((wA.setCell ⟨w2.heap.size, 6, none⟩ (.int .i64 (pl + 1))).setCell ⟨w.heap.size + 1, 0, none⟩ (.int .i64 a)).setCell ⟨w.heap.size + 1, 1, none⟩ (.int .i64 b)).setCell ⟨w.heap.size + 1, 2, none⟩ (.int .i64 f)).setCell ⟨w.heap.size + 1, 3, none⟩ (.int .i64 s)).heap[w.heap.size + 1]? = some (.cells #[.int .i64 a, .int .i64 b, .int .i64 f, .int .i64 s, .slice none 0 0, .slice none 0 0, .int .i64 0, .int .i64 0] 29 (0, 0)) := box_set ((((wA.setCell ⟨w2.heap.size, 6, none⟩ (.int .i64 (pl + 1))).setCell ⟨w.heap.size + 1, 0, none⟩ (.int .i64 a)).setCell ⟨w.heap.size + 1, 1, none⟩ (.int .i64 b)).setCell ⟨w.heap.size + 1, 2, none⟩ (.int .i64 f)) (w.heap.size + 1) 3 _ _ (.int .i64 s) z3
      have z5 : ((((((wA.setCell ⟨w2.heap.size, 6, none⟩ (.int .i64 (pl + 1))).setCell ⟨w.heap.size + 1, 0, none⟩ (.int .i64 a)).setCell ⟨w.heap.size + 1, 1, none⟩ (.int .i64 b)).setCell ⟨w.heap.size + 1, 2, none⟩ (.int .i64 f)).setCell ⟨w.heap.size + 1, 3, none⟩ (.int .i64 s)).setCell ⟨w.heap.size + 1, 4, none⟩ (.slice o3 l.length c3)).heap[w.heap.size + 1]? = some (.cells #[.int .i64 a, .int .i64 b, .int .i64 f, .int .i64 s, .slice o3 l.length c3, .slice none 0 0, .int .i64 0, .int .i64 0] 29 (0, 0)) := box_set (((((wA.setCell ⟨w2.heap.size, 6, none⟩ (.int .i64 (pl + 1))).setCell ⟨w.heap.size + 1, 0, none⟩ (.int .i64 a)).setCell ⟨w.heap.size + 1, 1, none⟩ (.int .i64 b)).setCell ⟨w.heap.size + 1, 2, none⟩ (.int .i64 f)).setCell ⟨w.heap.size + 1, 3, none⟩ (.int .i64 s)) (w.heap.size + 1) 4 _ _ (.slice o3 l.length c3) z4
      have z6 : (((((((wA.setCell ⟨w2.heap.size, 6, none⟩ (.int .i64 (pl + 1))).setCell ⟨w.heap.size + 1, 0, none⟩ (.int .i64 a)).setCell ⟨w.heap.size + 1, 1, none⟩ (.int .i64 b)).setCell ⟨w.heap.size + 1, 2, none⟩ (.int .i64 f)).setCell ⟨w.heap.size + 1, 3, none⟩ (.int .i64 s)).setCell ⟨w.heap.size + 1, 4, none⟩ (.slice o3 l.length c3)).setCell ⟨w.heap.size + 1, 5, none⟩ (.slice o4 g.length c4)).heap[w.heap.size + 1]? = some (.cells #[.int .i64 a, .int .i64 b, .int .i64 f, .int .i64 s, .slice o3 l.length c3, .slice o4 g.length c4, .int .i64 0, .int .i64 0] 29 (0, 0)) := box_set ((((((wA.setCell ⟨w2.heap.size, 6, none⟩ (.int .i64 (pl + 1))).setCell ⟨w.heap.size + 1, 0, none⟩ (.int .i64 a)).setCell ⟨w.heap.size + 1, 1, none⟩ (.int .i64 b)).setCell ⟨w.heap.size + 1, 2, none⟩ (.int .i64 f)).setCell ⟨w.heap.size + 1, 3, none⟩ (.int .i64 s)).setCell ⟨w.heap.size + 1, 4, none⟩ (.slice o3 l.length c3)) (w.heap.size + 1) 5 _ _ (.slice o4 g.length c4) z5
      have z7 : ((((((((wA.setCell ⟨w2.heap.size, 6, none⟩ (.int .i64 (pl + 1))).setCell ⟨w.heap.size + 1, 0, none⟩ (.int .i64 a)).setCell ⟨w.heap.size + 1, 1, none⟩ (.int .i64 b)).setCell ⟨w.heap.size + 1, 2, none⟩ (.int .i64 f)).setCell ⟨w.heap.size + 1, 3, none⟩ (.int .i64 s)).setCell ⟨w.heap.size + 1, 4, none⟩ (.slice o3 l.length c3)).setCell ⟨w.heap.size + 1, 5, none⟩ (.slice o4 g.length c4)).setCell ⟨w.heap.size + 1, 6, none⟩ (.int .i64 (pl + 1))).heap[w.heap.size + 1]? = some (.cells #[.int .i64 a, .int .i64 b, .int .i64 f, .int .i64 s, .slice o3 l.length c3, .slice o4 g.length c4, .int .i64 (pl + 1), .int .i64 0] 29 (0, 0)) := box_set (((((((wA.setCell ⟨w2.heap.size, 6, none⟩ (.int .i64 (pl + 1))).setCell ⟨w.heap.size + 1, 0, none⟩ (.int .i64 a)).setCell ⟨w.heap.size + 1, 1, none⟩ (.int .i64 b)).setCell ⟨w.heap.size + 1, 2, none⟩ (.int .i64 f)).setCell ⟨w.heap.size + 1, 3, none⟩ (.int .i64 s)).setCell ⟨w.heap.size + 1, 4, none⟩ (.slice o3 l.length c3)).setCell ⟨w.heap.size + 1, 5, none⟩ (.slice o4 g.length c4)) (w.heap.size + 1) 6 _ _ (.int .i64 (pl + 1)) z6
      have z8 : (((((((((wA.setCell ⟨w2.heap.size, 6, none⟩ (.int .i64 (pl + 1))).setCell ⟨w.heap.size + 1, 0, none⟩ (.int .i64 a)).setCell ⟨w.heap.size + 1, 1, none⟩ (.int .i64 b)).setCell ⟨w.heap.size + 1, 2, none⟩ (.int .i64 f)).setCell ⟨w.heap.size + 1, 3, none⟩ (.int .i64 s)).setCell ⟨w.heap.size + 1, 4, none⟩ (.slice o3 l.length c3)).setCell ⟨w.heap.size + 1, 5, none⟩ (.slice o4 g.length c4)).setCell ⟨w.heap.size + 1, 6, none⟩ (.int .i64 (pl + 1))).setCell ⟨w.heap.size + 1, 7, none⟩ (.int .i64 st)).heap[w.heap.size + 1]? = some (.cells #[.int .i64 a, .int .i64 b, .int .i64 f, .int .i64 s, .slice o3 l.length c3, .slice o4 g.length c4, .int .i64 (pl + 1), .int .i64 st] 29 (0, 0)) := box_set ((((((((wA.setCell ⟨w2.heap.size, 6, none⟩ (.int .i64 (pl + 1))).setCell ⟨w.heap.size + 1, 0, none⟩ (.int .i64 a)).setCell ⟨w.heap.size + 1, 1, none⟩ (.int .i64 b)).setCell ⟨w.heap.size + 1, 2, none⟩ (.int .i64 f)).setCell ⟨w.heap.size + 1, 3, none⟩ (.int .i64 s)).setCell ⟨w.heap.size + 1, 4, none⟩ (.slice o3 l.length c3)).setCell ⟨w.heap.size + 1, 5, none⟩ (.slice o4 g.length c4)).setCell ⟨w.heap.size + 1, 6, none⟩ (.int .i64 (pl + 1))) (w.heap.size + 1) 7 _ _ (.int .i64 st) z7
      have HZ := hide z8
      have HO3 : Hid (ownB (((((((((wA.setCell ⟨w2.heap.size, 6, none⟩ (.int .i64 (pl + 1))).setCell ⟨w.heap.size + 1, 0, none⟩ (.int .i64 a)).setCell ⟨w.heap.size + 1, 1, none⟩ (.int .i64 b)).setCell ⟨w.heap.size + 1, 2, none⟩ (.int .i64 f)).setCell ⟨w.heap.size + 1, 3, none⟩ (.int .i64 s)).setCell ⟨w.heap.size + 1, 4, none⟩ (.slice o3 l.length c3)).setCell ⟨w.heap.size + 1, 5, none⟩ (.slice o4 g.length c4)).setCell ⟨w.heap.size + 1, 6, none⟩ (.int .i64 (pl + 1))).setCell ⟨w.heap.size + 1, 7, none⟩ (.int .i64 st)) w.heap.size (.slice o3 l.length c3) l) := by
        refine own_mono (base := w1.heap.size) ?_ (by have := HW1.out; omega)
        repeat (refine own_set ?_ _ _ _ (fun b e => by have := HA.out.2.2.1 b e; omega))
        exact HA.out.1
      have HO4 : Hid (ownG (((((((((wA.setCell ⟨w2.heap.size, 6, none⟩ (.int .i64 (pl + 1))).setCell ⟨w.heap.size + 1, 0, none⟩ (.int .i64 a)).setCell ⟨w.heap.size + 1, 1, none⟩ (.int .i64 b)).setCell ⟨w.heap.size + 1, 2, none⟩ (.int .i64 f)).setCell ⟨w.heap.size + 1, 3, none⟩ (.int .i64 s)).setCell ⟨w.heap.size + 1, 4, none⟩ (.slice o3 l.length c3)).setCell ⟨w.heap.size + 1, 5, none⟩ (.slice o4 g.length c4)).setCell ⟨w.heap.size + 1, 6, none⟩ (.int .i64 (pl + 1))).setCell ⟨w.heap.size + 1, 7, none⟩ (.int .i64 st)) w.heap.size (.slice o4 g.length c4) g) := by
        refine own_mono (base := w1.heap.size) ?_ (by have := HW1.out; omega)
        repeat (refine own_set ?_ _ _ _ (fun b e => by have := HA.out.2.2.2.1 b e; omega))
        exact HA.out.2.1
      have HB : Hid (Below w.heap.size w (((((((((wA.setCell ⟨w2.heap.size, 6, none⟩ (.int .i64 (pl + 1))).setCell ⟨w.heap.size + 1, 0, none⟩ (.int .i64 a)).setCell ⟨w.heap.size + 1, 1, none⟩ (.int .i64 b)).setCell ⟨w.heap.size + 1, 2, none⟩ (.int .i64 f)).setCell ⟨w.heap.size + 1, 3, none⟩ (.int .i64 s)).setCell ⟨w.heap.size + 1, 4, none⟩ (.slice o3 l.length c3)).setCell ⟨w.heap.size + 1, 5, none⟩ (.slice o4 g.length c4)).setCell ⟨w.heap.size + 1, 6, none⟩ (.int .i64 (pl + 1))).setCell ⟨w.heap.size + 1, 7, none⟩ (.int .i64 st))) := by
        show Below _ _ _
        repeat (refine Below.setCell ?_ (by simp <;> omega) _)
        exact HA.out.2.2.2.2
      clear z0 z1 z2 z3 z4 z5 z6 z7 z8
      have HXB := hide nxB
      clear nxB
      have x0 : wA.cell? ⟨w2.heap.size, 0, none⟩ = some (.int .i64 a) := block_cell HNX.out 0 _ rfl
      have fx0 : wA.frozen? ⟨w2.heap.size, 0, none⟩ = false := block_frozen HNX.out 0
      have x1 : wA.cell? ⟨w2.heap.size, 1, none⟩ = some (.int .i64 b) := block_cell HNX.out 1 _ rfl
      have fx1 : wA.frozen? ⟨w2.heap.size, 1, none⟩ = false := block_frozen HNX.out 1
      have x2 : wA.cell? ⟨w2.heap.size, 2, none⟩ = some (.int .i64 f) := block_cell HNX.out 2 _ rfl
      have fx2 : wA.frozen? ⟨w2.heap.size, 2, none⟩ = false := block_frozen HNX.out 2
      have x3 : wA.cell? ⟨w2.heap.size, 3, none⟩ = some (.int .i64 s) := block_cell HNX.out 3 _ rfl
      have fx3 : wA.frozen? ⟨w2.heap.size, 3, none⟩ = false := block_frozen HNX.out 3
      have x4 : wA.cell? ⟨w2.heap.size, 4, none⟩ = some (.slice o3 l.length c3) := block_cell HNX.out 4 _ rfl
      have fx4 : wA.frozen? ⟨w2.heap.size, 4, none⟩ = false := block_frozen HNX.out 4
      have x5 : wA.cell? ⟨w2.heap.size, 5, none⟩ = some (.slice o4 g.length c4) := block_cell HNX.out 5 _ rfl
      have fx5 : wA.frozen? ⟨w2.heap.size, 5, none⟩ = false := block_frozen HNX.out 5
      have x6 : wA.cell? ⟨w2.heap.size, 6, none⟩ = some (.int .i64 pl) := block_cell HNX.out 6 _ rfl
      have fx6 : wA.frozen? ⟨w2.heap.size, 6, none⟩ = false := block_frozen HNX.out 6
      have x7 : wA.cell? ⟨w2.heap.size, 7, none⟩ = some (.int .i64 st) := block_cell HNX.out 7 _ rfl
      have fx7 : wA.frozen? ⟨w2.heap.size, 7, none⟩ = false := block_frozen HNX.out 7
      have y0 : wA.cell? ⟨w.heap.size + 1, 0, none⟩ = some (.int .i64 0) := block_cell HRX.out 0 _ rfl
      have fy0 : wA.frozen? ⟨w.heap.size + 1, 0, none⟩ = false := block_frozen HRX.out 0
      have y1 : wA.cell? ⟨w.heap.size + 1, 1, none⟩ = some (.int .i64 0) := block_cell HRX.out 1 _ rfl
      have fy1 : wA.frozen? ⟨w.heap.size + 1, 1, none⟩ = false := block_frozen HRX.out 1
      have y2 : wA.cell? ⟨w.heap.size + 1, 2, none⟩ = some (.int .i64 0) := block_cell HRX.out 2 _ rfl
      have fy2 : wA.frozen? ⟨w.heap.size + 1, 2, none⟩ = false := block_frozen HRX.out 2
      have y3 : wA.cell? ⟨w.heap.size + 1, 3, none⟩ = some (.int .i64 0) := block_cell HRX.out 3 _ rfl
      have fy3 : wA.frozen? ⟨w.heap.size + 1, 3, none⟩ = false := block_frozen HRX.out 3
      have y4 : wA.cell? ⟨w.heap.size + 1, 4, none⟩ = some (.slice none 0 0) := block_cell HRX.out 4 _ rfl
      have fy4 : wA.frozen? ⟨w.heap.size + 1, 4, none⟩ = false := block_frozen HRX.out 4
      have y5 : wA.cell? ⟨w.heap.size + 1, 5, none⟩ = some (.slice none 0 0) := block_cell HRX.out 5 _ rfl
      have fy5 : wA.frozen? ⟨w.heap.size + 1, 5, none⟩ = false := block_frozen HRX.out 5
      have y6 : wA.cell? ⟨w.heap.size + 1, 6, none⟩ = some (.int .i64 0) := block_cell HRX.out 6 _ rfl
      have fy6 : wA.frozen? ⟨w.heap.size + 1, 6, none⟩ = false := block_frozen HRX.out 6
      have y7 : wA.cell? ⟨w.heap.size + 1, 7, none⟩ = some (.int .i64 0) := block_cell HRX.out 7 _ rfl
      have fy7 : wA.frozen? ⟨w.heap.size + 1, 7, none⟩ = false := block_frozen HRX.out 7
      go_wp2
      clear x0 fx0 x1 fx1 x2 fx2 x3 fx3 x4 fx4 x5 fx5 x6 fx6 x7 fx7
      clear y0 fy0 y1 fy1 y2 fy2 y3 fy3 y4 fy4 y5 fy5 y6 fy6 y7 fy7
      generalize (((((((((wA.setCell ⟨w2.heap.size, 6, none⟩ (.int .i64 (pl + 1))).setCell ⟨w.heap.size + 1, 0, none⟩ (.int .i64 a)).setCell ⟨w.heap.size + 1, 1, none⟩ (.int .i64 b)).setCell ⟨w.heap.size + 1, 2, none⟩ (.int .i64 f)).setCell ⟨w.heap.size + 1, 3, none⟩ (.int .i64 s)).setCell ⟨w.heap.size + 1, 4, none⟩ (.slice o3 l.length c3)).setCell ⟨w.heap.size + 1, 5, none⟩ (.slice o4 g.length c4)).setCell ⟨w.heap.size + 1, 6, none⟩ (.int .i64 (pl + 1))).setCell ⟨w.heap.size + 1, 7, none⟩ (.int .i64 st)) = w9 at *
      have z0 : w9.cell? ⟨w.heap.size + 1, 0, none⟩ = some (.int .i64 a) := block_cell HZ.out 0 _ rfl
      have z1 : w9.cell? ⟨w.heap.size + 1, 1, none⟩ = some (.int .i64 b) := block_cell HZ.out 1 _ rfl
      have z2 : w9.cell? ⟨w.heap.size + 1, 2, none⟩ = some (.int .i64 f) := block_cell HZ.out 2 _ rfl
      have z3 : w9.cell? ⟨w.heap.size + 1, 3, none⟩ = some (.int .i64 s) := block_cell HZ.out 3 _ rfl
      have z4 : w9.cell? ⟨w.heap.size + 1, 4, none⟩ = some (.slice o3 l.length c3) := block_cell HZ.out 4 _ rfl
      have z5 : w9.cell? ⟨w.heap.size + 1, 5, none⟩ = some (.slice o4 g.length c4) := block_cell HZ.out 5 _ rfl
      have z6 : w9.cell? ⟨w.heap.size + 1, 6, none⟩ = some (.int .i64 (pl + 1)) := block_cell HZ.out 6 _ rfl
      have z7 : w9.cell? ⟨w.heap.size + 1, 7, none⟩ = some (.int .i64 st) := block_cell HZ.out 7 _ rfl
      refine bodyPost_ret (v := .tuple #[crr a b f s (.slice o3 l.length c3) (.slice o4 g.length c4) (pl + 1) st, .bool true]) (by simp [results, Try.results8, go_sem, z0, z1, z2, z3, z4, z5, z6, z7]) rfl (by rw [HN.out]; exact ⟨_, rfl, ⟨_, _, rfl, HO3.out, HO4.out⟩, HB.out⟩)

end Go.Proofs.Ytoeoiljddcjphaa
