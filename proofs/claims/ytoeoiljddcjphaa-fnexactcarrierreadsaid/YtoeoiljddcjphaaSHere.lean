/- Here on both sides. -/
import Derived.Test.YtoeoiljddcjphaaSCarr2
namespace Go.Proofs.Ytoeoiljddcjphaa
open Go.ChangeShapes Go.WideShapes Go.ChangeAt Go.RowKit Go.Joins
set_option linter.unusedVariables false
set_option linter.unusedSimpArgs false

theorem carrierOkB_head {a b f s : Int} {n : Nat} {g : List (Int × Int)} {pl st : Int} (h : carrierOkB a b f s n g pl st = true) : packetOkB a b f s n = true ∧ 1 ≤ (g.length : Int) ∧ (g.length : Int) ≤ 24 ∧ 0 ≤ pl ∧ pl < (g.length : Int) ∧ 0 ≤ st ∧ st ≤ 100000 := by
  have h1 : headB a b f s n g.length pl st = true := by unfold carrierOkB at h; cases hh : headB a b f s n g.length pl st <;> simp_all
  have := headB_iff.1 h1
  exact ⟨this.1, this.2.1, this.2.2.1, this.2.2.2.1, this.2.2.2.2.1, this.2.2.2.2.2.1, this.2.2.2.2.2.2.1⟩
def hereI (ok : Bool) (g : List (Int × Int)) (pl : Int) : Int × Int := if ok then g.getD pl.toNat (0, 0) else (0, 0)

/-- A box of two cells behind a store of both. -/
theorem put2 {w : World} {B : Nat} {u v q0 q1 : Value} (h0 : w.cell? ⟨B, 0, none⟩ = some q0) (h1 : w.cell? ⟨B, 1, none⟩ = some q1) :
    ((w.setCell ⟨B, 0, none⟩ u).setCell ⟨B, 1, none⟩ v).cell? ⟨B, 0, none⟩ = some u ∧ ((w.setCell ⟨B, 0, none⟩ u).setCell ⟨B, 1, none⟩ v).cell? ⟨B, 1, none⟩ = some v :=
  ⟨(World.cell?_setCell_other _ _ _ _ (by simp)).trans (World.cell?_setCell_same _ _ _ h0), World.cell?_setCell_same _ _ _ ((World.cell?_setCell_other _ _ _ _ (by simp)).trans h1)⟩
theorem block_frozen {W : World} {B : Nat} {c : Array Value} {t : TypeId} (h : W.heap[B]? = some (.cells c t (0, 0))) (j : Nat) : W.frozen? ⟨B, j, none⟩ = false := by
  simp [World.frozen?, h]

set_option maxRecDepth 100000 in
set_option maxHeartbeats 1000000 in
theorem implHere_any (a b f s : Int) (o og : Option Addr) (len cap cg : Nat) (g : List (Int × Int)) (pl st : Int) (w : World) (hl : len ≤ maxLen) (hgl : g.length ≤ maxLen) (hG : RdG w og g) :
    Calls Try.prog 9 #[crr a b f s (.slice o len cap) (.slice og g.length cg) pl st] w fun e w' => e = .returned (.tuple #[seg (hereI (carrierOkB a b f s len g pl st) g pl).1 (hereI (carrierOkB a b f s len g pl st) g pl).2, .bool (carrierOkB a b f s len g pl st)]) ∧ Below w.heap.size w w' := by
  cases hok : carrierOkB a b f s len g pl st with
  | false =>
    have hb0 : Below w.heap.size w ((w.alloc (.cells #[.int .i64 a, .int .i64 b, .int .i64 f, .int .i64 s, .slice o len cap, .slice og g.length cg, .int .i64 pl, .int .i64 st] 29)).alloc (.cells #[.int .i64 0, .int .i64 0] 35)) := ((Below.refl _ _).alloc (Nat.le_refl _) _).alloc (by simp) _
    have rb : ((w.alloc (.cells #[.int .i64 a, .int .i64 b, .int .i64 f, .int .i64 s, .slice o len cap, .slice og g.length cg, .int .i64 pl, .int .i64 st] 29)).alloc (.cells #[.int .i64 0, .int .i64 0] 35)).heap[w.heap.size + 1]? = some (.cells #[.int .i64 0, .int .i64 0] 35 (0, 0)) := by
      have := World.alloc_heap_new (w.alloc (.cells #[.int .i64 a, .int .i64 b, .int .i64 f, .int .i64 s, .slice o len cap, .slice og g.length cg, .int .i64 pl, .int .i64 st] 29)) (.cells #[.int .i64 0, .int .i64 0] 35)
      simpa only [World.size_alloc] using this
    have hc := implCarrierOk_any a b f s o og len cap cg g pl st ((w.alloc (.cells #[.int .i64 a, .int .i64 b, .int .i64 f, .int .i64 s, .slice o len cap, .slice og g.length cg, .int .i64 pl, .int .i64 st] 29)).alloc (.cells #[.int .i64 0, .int .i64 0] 35)) hl hgl (hG.kept hb0)
    rw [hok] at hc
    go_enter Try.func9, Try.ntmps9
    go_wp2_with fail
    generalize ((w.alloc (.cells #[.int .i64 a, .int .i64 b, .int .i64 f, .int .i64 s, .slice o len cap, .slice og g.length cg, .int .i64 pl, .int .i64 st] 29)).alloc (.cells #[.int .i64 0, .int .i64 0] 35)) = w0 at *
    refine hc.mono ?_
    rintro e w1 ⟨rfl, hb1⟩
    replace rb := (hb1.block _ (Array.getElem?_eq_some_iff.1 rb).1).trans rb
    have q0 := block_cell rb 0 _ rfl
    have q1 := block_cell rb 1 _ rfl
    have f0 := block_frozen rb 0
    have f1 := block_frozen rb 1
    have HB := hide (hb0.trans (hb1.mono hb0.size))
    have D := put2 (u := .int .i64 0) (v := .int .i64 0) q0 q1
    clear hb0 hb1 hG hc rb
    go_wp2
    obtain ⟨d0, d1⟩ := D
    refine bodyPost_ret (v := .tuple #[seg 0 0, .bool false]) (by simp [results, Try.results9, go_sem, d0, d1]) rfl ?_
    exact ⟨rfl, (HB.out.setCell (p := ⟨w.heap.size + 1, 0, none⟩) (by simp) _).setCell (p := ⟨w.heap.size + 1, 1, none⟩) (by simp) _⟩
  | true =>
    obtain ⟨_, h2, h3, h4, h5, _, _⟩ := carrierOkB_head hok
    obtain ⟨k, rfl⟩ := Int.eq_ofNat_of_zero_le h4
    rcases hG with hG | ⟨bb, off, rfl, hbb, hcell⟩
    · subst hG; simp at h2
    have hb0 : Below w.heap.size w ((w.alloc (.cells #[.int .i64 a, .int .i64 b, .int .i64 f, .int .i64 s, .slice o len cap, .slice (some ⟨bb, off, none⟩) g.length cg, .int .i64 (k : Int), .int .i64 st] 29)).alloc (.cells #[.int .i64 0, .int .i64 0] 35)) := ((Below.refl _ _).alloc (Nat.le_refl _) _).alloc (by simp) _
    have bx := (boxC_new w a b f s (.slice o len cap) (.slice (some ⟨bb, off, none⟩) g.length cg) (k : Int) st 29).kept ((Below.refl _ _).alloc (Nat.le_refl _) (.cells #[.int .i64 0, .int .i64 0] 35)) (by simp)
    have hz : w.heap.size < ((w.alloc (.cells #[.int .i64 a, .int .i64 b, .int .i64 f, .int .i64 s, .slice o len cap, .slice (some ⟨bb, off, none⟩) g.length cg, .int .i64 (k : Int), .int .i64 st] 29)).alloc (.cells #[.int .i64 0, .int .i64 0] 35)).heap.size := by simp; omega
    have rb : ((w.alloc (.cells #[.int .i64 a, .int .i64 b, .int .i64 f, .int .i64 s, .slice o len cap, .slice (some ⟨bb, off, none⟩) g.length cg, .int .i64 (k : Int), .int .i64 st] 29)).alloc (.cells #[.int .i64 0, .int .i64 0] 35)).heap[w.heap.size + 1]? = some (.cells #[.int .i64 0, .int .i64 0] 35 (0, 0)) := by
      have := World.alloc_heap_new (w.alloc (.cells #[.int .i64 a, .int .i64 b, .int .i64 f, .int .i64 s, .slice o len cap, .slice (some ⟨bb, off, none⟩) g.length cg, .int .i64 (k : Int), .int .i64 st] 29)) (.cells #[.int .i64 0, .int .i64 0] 35)
      simpa only [World.size_alloc] using this
    have hcx := hcell k (by omega)
    have hc := implCarrierOk_any a b f s o (some ⟨bb, off, none⟩) len cap cg g (k : Int) st ((w.alloc (.cells #[.int .i64 a, .int .i64 b, .int .i64 f, .int .i64 s, .slice o len cap, .slice (some ⟨bb, off, none⟩) g.length cg, .int .i64 (k : Int), .int .i64 st] 29)).alloc (.cells #[.int .i64 0, .int .i64 0] 35)) hl hgl (RdG.kept (.inr ⟨bb, off, rfl, hbb, hcell⟩) hb0)
    rw [hok] at hc
    rw [show hereI true g (k : Int) = g.getD k (0, 0) by simp [hereI]]
    generalize g.getD k (0, 0) = xy at *
    obtain ⟨x, y⟩ := xy
    dsimp only at hcx
    go_enter Try.func9, Try.ntmps9
    go_wp2_with fail
    generalize ((w.alloc (.cells #[.int .i64 a, .int .i64 b, .int .i64 f, .int .i64 s, .slice o len cap, .slice (some ⟨bb, off, none⟩) g.length cg, .int .i64 (k : Int), .int .i64 st] 29)).alloc (.cells #[.int .i64 0, .int .i64 0] 35)) = w0 at *
    refine hc.mono ?_
    rintro e w1 ⟨rfl, hb1⟩
    replace bx := bx.kept hb1 hz
    replace rb := (hb1.block _ (Array.getElem?_eq_some_iff.1 rb).1).trans rb
    have q0 := block_cell rb 0 _ rfl
    have q1 := block_cell rb 1 _ rfl
    have f0 := block_frozen rb 0
    have f1 := block_frozen rb 1
    have HB := hide (hb0.trans (hb1.mono hb0.size))
    have p0 := (HB.out.cell (p := ⟨bb, off + k * 2, none⟩) hbb).trans hcx.1
    have p1 := (HB.out.cell (p := ⟨bb, off + k * 2 + 1, none⟩) hbb).trans hcx.2
    have D := put2 (u := .int .i64 x) (v := .int .i64 y) q0 q1
    clear hb0 hb1 hcell hcx hz hc rb
    obtain ⟨x0, x1, x2, x3, x4, x5, x6, x7⟩ := bx
    go_wp2
    obtain ⟨d0, d1⟩ := D
    refine bodyPost_ret (v := .tuple #[seg x y, .bool true]) (by simp [results, Try.results9, go_sem, d0, d1]) rfl ?_
    exact ⟨rfl, (HB.out.setCell (p := ⟨w.heap.size + 1, 0, none⟩) (by simp) _).setCell (p := ⟨w.heap.size + 1, 1, none⟩) (by simp) _⟩

end Go.Proofs.Ytoeoiljddcjphaa
