/- HuntPair, the program's. -/
import Derived.Test.YtoeoiljddcjphaaSHunt
namespace Go.Proofs.Ytoeoiljddcjphaa
open Go.ChangeShapes Go.WideShapes Go.ChangeAt Go.RowKit Go.Joins Go.Shelf
set_option linter.unusedVariables false
set_option linter.unusedSimpArgs false

attribute [local go_sem] Oper.semAt_some

/-- Whom the stops so far hunt. -/
def huntS (pre : List Stop) : List Int := (pre.filter (fun x => x.1.2 == 1)).map (fun x => x.1.1)
theorem huntS_yes (pre : List Stop) (x : Stop) (h : (x.1.2 == 1) = true) : huntS (pre ++ [x]) = huntS pre ++ [x.1.1] := by
  unfold huntS; rw [List.filter_append, List.map_append]; simp [h]
theorem huntS_no (pre : List Stop) (x : Stop) (h : (x.1.2 == 1) = false) : huntS (pre ++ [x]) = huntS pre := by
  unfold huntS; rw [List.filter_append, List.map_append]; simp [h]
theorem huntS_len (pre : List Stop) : (huntS pre).length ≤ pre.length := by
  unfold huntS; rw [List.length_map]; exact List.length_filter_le _ _
theorem huntS_upto (g : List (Int × Int)) (pl : Int) : ∀ k, k ≤ g.length → huntS (upto (stopAt g pl) k) = huntTo g k
  | 0, _ => by simp [huntS, upto, huntTo]
  | k + 1, hk => by
    have ih := huntS_upto g pl k (by omega)
    obtain ⟨x, y, hxy⟩ : ∃ x y, g.getD k (0, 0) = (x, y) := ⟨_, _, rfl⟩
    have e : (stopAt g pl k).1 = (x, y) := by unfold stopAt; rw [← List.getD_eq_getElem?_getD]; exact hxy
    rw [upto_succ]
    cases h : (y == 1) with
    | true => rw [huntS_yes _ _ (by rw [e]; exact h), huntTo_yes (by omega) hxy h, ih, e]
    | false => rw [huntS_no _ _ (by rw [e]; exact h), huntTo_no (by omega) hxy h, ih]
theorem cells_not_row {W : World} {B : Nat} {c : Array Value} {t e : TypeId} {z : Nat × Nat} (h : W.heap[B]? = some (.cells c t z)) (hte : t ≠ e) {base size k : Nat} {v : Value} {xs : List Value} (hr : W.ownsRow base e size v k xs) : some B ≠ v.ownBlock := by
  rcases hr.2 with ⟨rfl, _⟩ | ⟨g, cap, cur, rfl, _, hgb, _⟩
  · simp [Value.ownBlock]
  · intro e'
    obtain rfl : B = g := by simpa [Value.ownBlock] using e'
    rw [hgb] at h
    injection h with h
    injection h with _ h _
    exact hte h.symm
theorem carrNeInt : (29 : TypeId) ≠ 3 := by decide
theorem intsNeInt : (38 : TypeId) ≠ 3 := by decide

set_option maxRecDepth 100000 in
set_option maxHeartbeats 4000000 in
theorem implHunt_any (a b f s : Int) (o : Option Addr) (len cap bb off cg : Nat) (g : List (Int × Int)) (pl st : Int) (w : World) (hl : len ≤ maxLen) (hgl : g.length ≤ 1048576) (hbb : bb < w.heap.size)
    (hcell : ∀ i, i < g.length → w.cell? ⟨bb, off + i * 2, none⟩ = some (.int .i64 (g.getD i (0, 0)).1) ∧ w.cell? ⟨bb, off + i * 2 + 1, none⟩ = some (.int .i64 (g.getD i (0, 0)).2)) (hok : carrierOkB a b f s len g pl st = true) :
    Calls Try.prog 10 #[crr a b f s (.slice o len cap) (.slice (some ⟨bb, off, none⟩) g.length cg) pl st] w fun e w' => ∃ v, e = .returned v ∧ ownL layI 3 w' w.heap.size v (huntTo g g.length) ∧ Below w.heap.size w w' := by
  refine (callsIn_wide (n := 4)).1 ?_
  refine callsIn_of_wp_marks Try.func10 rfl trivial ?_ rfl
  simp only [Try.ntmps10, List.size_toArray, List.length_cons, List.length_nil, Nat.reduceAdd, Nat.reduceSub, Array.replicate_succ, Array.replicate_zero, List.push_toArray, List.append_toArray, List.nil_append, List.cons_append]
  have hb0 : Below w.heap.size w (w.alloc (.cells (crrCells a b f s (.slice o len cap) (.slice (some ⟨bb, off, none⟩) g.length cg) pl st) 29)) := (Below.refl _ _).alloc (Nat.le_refl _) _
  have hc := implCarrierOk_any a b f s o (some ⟨bb, off, none⟩) len cap cg g pl st (w.alloc (.cells (crrCells a b f s (.slice o len cap) (.slice (some ⟨bb, off, none⟩) g.length cg) pl st) 29)) hl (by unfold maxLen; omega) (RdG.kept (.inr ⟨bb, off, rfl, hbb, hcell⟩) hb0)
  rw [hok] at hc
  have hx0 := World.alloc_heap_new w (.cells (crrCells a b f s (.slice o len cap) (.slice (some ⟨bb, off, none⟩) g.length cg) pl st) 29)
  have Hb0 := hide hb0
  have Hx0 := hide hx0
  clear hb0 hx0
  gi_wp2_with (refine ⟨trivial, ?_⟩; gi_at_call 33; refine (callsIn_wide.2 hc).mono ?_; rintro e w1 ⟨rfl, hb1⟩; have hx1 := (hb1.block w.heap.size (by simp)).trans Hx0.out; have x0 := block_cell hx1 0 _ rfl; have x1 := block_cell hx1 1 _ rfl; have x2 := block_cell hx1 2 _ rfl; have x3 := block_cell hx1 3 _ rfl; have x4 := block_cell hx1 4 _ rfl; have x5 := block_cell hx1 5 _ rfl; have x6 := block_cell hx1 6 _ rfl; have x7 := block_cell hx1 7 _ rfl; have Hx1 := hide hx1; clear hx1; have hz1 : w.heap.size < w1.heap.size := (by have h := hb1.size; simp at h; omega); have Hb1 := hide (Hb0.out.trans (hb1.mono (by simp))); clear hb1)
  refine ⟨trivial, ?_⟩
  refine (stops_in Fence.wide (4 - 1) trivial rfl _ _ _ _ _ _ _ _ _).mono ?_
  rintro e w' ⟨rfl, rfl⟩
  clear x0 x1 x2 x3 x4 x5 x6 x7 hc Hx1 Hx0 Hb0
  have bP0 : Boxed ((w1.alloc (.cells #[.slice none 0 0] 38)).alloc (.cells (crrCells a b f s (.slice o len cap) (.slice (some ⟨bb, off, none⟩) g.length cg) pl st) 29)) w1.heap.size 38 (.slice none 0 0) := (Boxed.new w1 38 (.slice none 0 0)).alloc _
  have hS0 : ((w1.alloc (.cells #[.slice none 0 0] 38)).alloc (.cells (crrCells a b f s (.slice o len cap) (.slice (some ⟨bb, off, none⟩) g.length cg) pl st) 29)).heap[w1.heap.size + 1]? = some (.cells (crrCells a b f s (.slice o len cap) (.slice (some ⟨bb, off, none⟩) g.length cg) pl st) 29 (0, 0)) := by
    have := World.alloc_heap_new (w1.alloc (.cells #[.slice none 0 0] 38)) (.cells (crrCells a b f s (.slice o len cap) (.slice (some ⟨bb, off, none⟩) g.length cg) pl st) 29)
    simpa only [World.size_alloc] using this
  have hB0 : Below w1.heap.size w1 ((w1.alloc (.cells #[.slice none 0 0] 38)).alloc (.cells (crrCells a b f s (.slice o len cap) (.slice (some ⟨bb, off, none⟩) g.length cg) pl st) 29)) := ((Below.refl _ w1).alloc (Nat.le_refl _) _).alloc (by simp) _
  have hsz : ((w1.alloc (.cells #[.slice none 0 0] 38)).alloc (.cells (crrCells a b f s (.slice o len cap) (.slice (some ⟨bb, off, none⟩) g.length cg) pl st) 29)).heap.size = w1.heap.size + 2 := by simp
  gi_wp2
  generalize ((w1.alloc (.cells #[.slice none 0 0] 38)).alloc (.cells (crrCells a b f s (.slice o len cap) (.slice (some ⟨bb, off, none⟩) g.length cg) pl st) 29)) = W0 at *
  have hbw : bb < w1.heap.size := by omega
  have hcellW : ∀ j, j < g.length → W0.cell? ⟨bb, off + j * 2, none⟩ = some (.int .i64 (g[j]?.getD (0, 0)).1) ∧ W0.cell? ⟨bb, off + j * 2 + 1, none⟩ = some (.int .i64 (g[j]?.getD (0, 0)).2) := fun j hj => by
    have := hcell j hj
    rw [List.getD_eq_getElem?_getD] at this
    have hB := Hb1.out.trans (hB0.mono (by omega))
    exact ⟨(hB.cell (p := ⟨bb, off + j * 2, none⟩) hbb).trans this.1, (hB.cell (p := ⟨bb, off + j * 2 + 1, none⟩) hbb).trans this.2⟩
  refine wpIn_rangeFunc_ownH rfl (by decide) (gf := 66) (lb := #[.pointer (some ⟨w1.heap.size + 1, 0, none⟩)]) rfl trivial (enters_of Try.func66 (by kernel_rfl) rfl)
    (stops_stops Fence.wide (4 - 1) trivial rfl (by decide) (w1.heap.size + 1) w1.heap.size bb off cg g pl hgl W0 (by omega) hbw (by omega) (block_cell hS0 5 _ rfl) (block_cell hS0 6 _ rfl) hcellW)
    (fun h k => KpB.trans h k)
    (fun W l ob ob' hl' hw' hn1 hn2 => ⟨belowK_b (w := W0) (by omega) W l ob ob' hl' hw' hn1 hn2, (grownBy_putObj' W l ob').block _ (by have := (Array.getElem?_eq_some_iff.1 hw').1; omega) (by simp; omega)⟩)
    (Below.refl _ _) (fun _ => rfl)
    (fun pre W => ((∃ v, Boxed W w1.heap.size 38 v ∧ W.ownsRow w1.heap.size 3 1 v (huntS pre).length ((huntS pre).flatMap layI.cs) ∧ True) ∧ W.heap[w1.heap.size + 1]? = some (.cells (crrCells a b f s (.slice o len cap) (.slice (some ⟨bb, off, none⟩) g.length cg) pl st) 29 (0, 0)) ∧ w1.heap.size + 2 ≤ W.heap.size) ∧ Below w1.heap.size w1 W)
    (fun c pre W => False ∧ Below w1.heap.size w1 W)
    (OwnFrom.and (Own.from (fun q A B row hs hg hr => by obtain ⟨e1, e4, e5⟩ := hs; exact ⟨holdsRow_own w1.heap.size w1.heap.size 38 3 1 (fun s => (huntS s).length) (fun s => (huntS s).flatMap layI.cs) (fun _ _ => True) q A B row e1 hg hr, block_own e4 hg hr, Nat.le_trans e5 hg.size⟩) _) (ownFrom_below (Nat.le_refl _) (by omega)))
    (fun c => OwnFrom.and (Own.from (fun q A B row hs hg hr => hs) _) (ownFrom_below (Nat.le_refl _) (by omega)))
    ⟨⟨⟨_, bP0, World.ownsRow_nil _ _ _ _, trivial⟩, hS0, by omega⟩, hB0⟩
    (fun x a' W => ∃ Bx, w1.heap.size + 1 < Bx ∧ W.heap[Bx]? = some (.cells #[.int .i64 x.1.1, .int .i64 x.1.2] 35 (0, 0)) ∧ a' = { tmps := #[crr a b f s (.slice o len cap) (.slice (some ⟨bb, off, none⟩) g.length cg) pl st, .pointer (some ⟨w.heap.size, 0, none⟩), .slice none 0 0, .pointer (some ⟨w1.heap.size, 0, none⟩), .pointer (some ⟨Bx, 0, none⟩), .agg #[.int .i64 a, .int .i64 b, .int .i64 f, .int .i64 s, .slice o len cap, .slice (some ⟨bb, off, none⟩) g.length cg, .int .i64 pl, .int .i64 st], .bool true, .bool false, .agg #[.int .i64 a, .int .i64 b, .int .i64 f, .int .i64 s, .slice o len cap, .slice (some ⟨bb, off, none⟩) g.length cg, .int .i64 pl, .int .i64 st], .func (.func 66) #[] #[.pointer (some ⟨w1.heap.size + 1, 0, none⟩)], seg x.1.1 x.1.2, .bool x.2, undef, undef, undef, undef, undef, undef, undef, undef, undef], defers := [] })
    (fun x a' _ X Y row hs hg hr => by obtain ⟨Bx, e1, e2, e3⟩ := hs; exact ⟨Bx, e1, block_own e2 hg (fun r e => (hr r e).2), e3⟩)
    ?assign ?body ?done ?stop
  case assign =>
    rintro l pre x W K ⟨⟨⟨v, e1, e2, _⟩, e4, e5⟩, hB⟩ hK
    gi_wp2
    refine hK _ _ ((KeepsOthers.alloc _ _).from _) ⟨(Below.refl _ W).alloc hB.size _, Below.heap_alloc W _ _ (by omega)⟩ ⟨⟨⟨v, e1.alloc _, World.ownsRow.alloc e2 _, trivial⟩, (Below.heap_alloc W _ _ (by omega)).trans e4, Nat.le_trans e5 (by simp)⟩, hB.alloc hB.size _⟩ ⟨W.heap.size, by omega, World.alloc_heap_new W _, rfl⟩
  case body =>
    rintro l pre ⟨⟨x1, x2⟩, d⟩ a' W hl ⟨r, hr⟩ ⟨⟨⟨v, e1, e2, _⟩, e4, e5⟩, hB⟩ ⟨Bx, hBx, hX, rfl⟩ hlt
    dsimp only at hX
    have cX0 := block_cell hX 0 _ rfl
    have cX1 := block_cell hX 1 _ rfl
    cases hy : (x2 == 1) with
    | false =>
      have HN := hide (huntS_no pre ((x1, x2), d) hy)
      gi_wp2
      exact ⟨keeps_below (Below.refl _ _), ⟨Below.refl _ _, rfl⟩, ⟨⟨v, e1, by rw [HN.out]; exact e2, trivial⟩, e4, e5⟩, hB⟩
    | true =>
      have HN := hide (huntS_yes pre ((x1, x2), d) hy)
      obtain ⟨i0, hi, hz0, hz1, hz2⟩ := info_parts infoInt
      have hHL := huntS_len pre
      have cP := e1.cell
      have fP := e1.frozen
      have hnW : w1.heap.size ≤ W.heap.size := by omega
      have hnS := cells_not_row e4 carrNeInt e2
      have HE := hide (And.intro e1 (And.intro e2 (And.intro e4 (And.intro hB hnS))))
      have HF := hide (World.ownsRow.alloc e2 (.cells #[.int .i64 x1] 3))
      have cPa := (Boxed.alloc e1 (.cells #[.int .i64 x1] 3)).cell
      have hlen2 : (huntS pre).length ≤ 1048576 := by omega
      obtain ⟨ov, cv, hve, _⟩ := ownL.open (L := layI) e2
      clear e1 e2 e4 hB hnS
      subst hve
      gi_wp2_with (refine wpListIn_append_own _ rfl _ _ 38 rfl w1.heap.size 3 i0 (.int .i64 0) 1 8 Try.underlying38 hi hz0 hz1 hz2 rfl (by decide) _ _ _ rfl HF.out ⟨W.heap.size, 0, none⟩ 1 1 [.int .i64 x1] rfl rfl (cell_one_new W _ _) ?h1 ?b1 ?b2 ?b3 ?_)
      case h1 => simp [Value.oneCell']
      case b1 => unfold maxLen; omega
      case b2 => omega
      case b3 => omega
      intro v' w2 hown' hgrow _
      obtain ⟨g', c', rfl⟩ := ownsRow_succ hown'
      obtain ⟨q1, q2, q4, qB, qS⟩ := HE.out
      obtain ⟨b1, b2, b3, b4, b5⟩ := Boxed.appended (tmp := .cells #[.int .i64 x1] 3) q1 intsNeInt q2 hnW (Nat.le_refl _) hown' hgrow
      have cP2 := b1.cell
      have fP2 := b1.frozen
      have HR := hide (And.intro b2 (And.intro b3 (And.intro b4 b5)))
      have HS : Hid ((w2.setCell ⟨w1.heap.size, 0, none⟩ (.slice (some ⟨g', 0, none⟩) ((huntS pre).length + 1) c')).heap[w1.heap.size + 1]? = W.heap[w1.heap.size + 1]?) :=
        (Below.heap_setCell w2 ⟨w1.heap.size, 0, none⟩ _ (w1.heap.size + 1) (by simp)).trans ((hgrow.block (w1.heap.size + 1) (by simp; omega) qS).trans (Below.heap_alloc W _ _ (by omega)))
      clear b1 b2 b3 b4 b5 hown' hgrow q1 q2
      gi_wp2
      obtain ⟨b2, b3, b4, b5⟩ := HR.out
      refine ⟨b4.from _, ⟨b5, HS.out⟩, ⟨⟨_, b2, ?_, trivial⟩, HS.out.trans q4, Nat.le_trans e5 b5.size⟩, qB.trans b5⟩
      rw [HN.out]
      simpa [layI] using b3
  case done =>
    rintro D ys W hD rfl ⟨⟨⟨v, e1, e2, _⟩, e4, e5⟩, hB⟩ hK
    obtain ⟨ov, cv, hve, _⟩ := ownL.open (L := layI) e2
    subst hve
    have cP := e1.cell
    have HE := hide (And.intro e2 hB)
    have hup := hide (huntS_upto g pl g.length (Nat.le_refl _))
    clear e1 e2 e4 hB
    gi_wp2
    refine ⟨by simp, .inl ⟨_, _, rfl, run_takeDeferred hK, ?_⟩⟩
    refine ⟨.slice ov (huntS (upto (stopAt g pl) g.length)).length cv, by simp [results, Try.f10, go_sem], _, rfl, ?_, ?_⟩
    · have h1 := ownsRow_putObj HE.out.1 (.deferred none) hK rfl
      unfold ownL
      rw [← hup.out]
      exact own_mono h1 (Nat.le_of_lt hz1)
    · exact Hb1.out.trans ((HE.out.2.trans (belowK_b (w := w1) (Nat.le_refl _) W D _ _ (by omega) hK rfl rfl)).mono (Nat.le_of_lt hz1))
  case stop =>
    rintro D c pre W hD ⟨k, hk, rfl⟩ ⟨hF, hB⟩ hK
    exact hF.elim

end Go.Proofs.Ytoeoiljddcjphaa
