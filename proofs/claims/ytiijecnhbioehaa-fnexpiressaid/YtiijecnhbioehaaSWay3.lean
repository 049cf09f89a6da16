/- The program's endOfWay. -/
import Derived.Test.YtiijecnhbioehaaSWay2
import Derived.WalkMore
namespace Go.Proofs.Ytiijecnhbioehaa
open Go.ChangeShapes Go.WideShapes Go.ChangeAt Go.RowKit Go.Joins Go.Shelf
set_option linter.unusedVariables false
set_option linter.unusedSimpArgs false

attribute [local go_sem] Oper.semAt_some

/-- A block of cells lies on where only blocks that are no cells are turned. -/
theorem block_ownW {W W' : World} {B : Nat} {c : Array Value} {t : TypeId} {z : Nat × Nat} {row : Option Nat} (h : W.heap[B]? = some (.cells c t z)) (hg : W.grownBy W' row) (hr : ∀ r, row = some r → ∃ o : Obj, W.heap[r]? = some o ∧ o.isCells = false) : W'.heap[B]? = some (.cells c t z) := by
  have hlt : B < W.heap.size := (Array.getElem?_eq_some_iff.1 h).1
  refine (hg.block B hlt (fun e => ?_)).trans h
  obtain ⟨o, ho, hn⟩ := hr B e.symm
  rw [h] at ho
  cases ho
  simp [Obj.isCells] at hn
theorem keeps_belowW {B : Nat} {W W' : World} (h : Below W.heap.size W W') : KeepsFrom B W W' :=
  ⟨h.size, fun i o _ hi _ => (h.block i (Array.getElem?_eq_some_iff.1 hi).1).trans hi⟩

set_option maxRecDepth 100000 in
set_option maxHeartbeats 8000000 in
theorem endOfWay_any (b off cap : Nat) (l : List Sl) (a p : Int) (w : World) (hn : 0 < l.length) (hl : l.length ≤ 1048576) (hf : flowOkB a p = true) (hb : b < w.heap.size)
    (hc : ∀ i, i < l.length → ∀ j, j < layS.k → w.cell? ⟨b, off + i * layS.k + j, none⟩ = (layS.cs (l.getD i layS.d))[j]?) :
    Calls Try.prog 95 #[tab (.slice (some ⟨b, off, none⟩) l.length cap), flowV a p] w fun e w' => e = .returned (.tuple #[.int .i64 (endL l a p).1, .bool (endL l a p).2]) ∧ Below w.heap.size w w' := by
  refine (callsIn_wide (n := 4)).1 ?_
  refine callsIn_of_wp_marks Try.func95 rfl trivial ?_ rfl
  simp only [Try.ntmps95, List.size_toArray, List.length_cons, List.length_nil, Nat.reduceAdd, Nat.reduceSub, Array.replicate_succ, Array.replicate_zero, List.push_toArray, List.append_toArray, List.nil_append, List.cons_append]
  gi_wp2
  refine wpIn_wide.2 (wp_scope_straight ((wpIn_wide (n := 4)).1 ?_))
  gi_wp2
  refine wpIn_label ?_
  gi_wp2
  gi_wp2_with (refine ⟨trivial, ?_⟩; gi_at_call 111; refine (wayOf_in (4 - 1) _ a p _).mono ?_; rintro e w' ⟨rfl, rfl⟩)
  have hF0 : ((((((w.alloc (.cells #[(.slice (some ⟨b, off, none⟩) l.length cap)] 78)).alloc (.cells #[.int .i64 a, .int .i64 p] 27)).alloc (.cells #[.int .i64 (-1)] 3)).alloc (.cells #[.bool false] 4)).alloc (.cells #[(.slice (some ⟨b, off, none⟩) l.length cap)] 78)).alloc (.cells #[.int .i64 a, .int .i64 p] 27)).heap[w.heap.size + 1]? = some (.cells #[.int .i64 a, .int .i64 p] 27 (0, 0)) := (by have h := World.alloc_heap_new (w.alloc (.cells #[(.slice (some ⟨b, off, none⟩) l.length cap)] 78)) (.cells #[.int .i64 a, .int .i64 p] 27); simp only [World.size_alloc] at h; exact (Below.heap_alloc _ _ _ (by simp <;> omega)).trans ((Below.heap_alloc _ _ _ (by simp <;> omega)).trans ((Below.heap_alloc _ _ _ (by simp <;> omega)).trans ((Below.heap_alloc _ _ _ (by simp <;> omega)).trans (h)))))
  have hE0 : ((((((w.alloc (.cells #[(.slice (some ⟨b, off, none⟩) l.length cap)] 78)).alloc (.cells #[.int .i64 a, .int .i64 p] 27)).alloc (.cells #[.int .i64 (-1)] 3)).alloc (.cells #[.bool false] 4)).alloc (.cells #[(.slice (some ⟨b, off, none⟩) l.length cap)] 78)).alloc (.cells #[.int .i64 a, .int .i64 p] 27)).heap[w.heap.size + 1 + 1]? = some (.cells #[.int .i64 (-1)] 3 (0, 0)) := (by have h := World.alloc_heap_new ((w.alloc (.cells #[(.slice (some ⟨b, off, none⟩) l.length cap)] 78)).alloc (.cells #[.int .i64 a, .int .i64 p] 27)) (.cells #[.int .i64 (-1)] 3); simp only [World.size_alloc] at h; exact (Below.heap_alloc _ _ _ (by simp <;> omega)).trans ((Below.heap_alloc _ _ _ (by simp <;> omega)).trans ((Below.heap_alloc _ _ _ (by simp <;> omega)).trans (h))))
  have hO0 : ((((((w.alloc (.cells #[(.slice (some ⟨b, off, none⟩) l.length cap)] 78)).alloc (.cells #[.int .i64 a, .int .i64 p] 27)).alloc (.cells #[.int .i64 (-1)] 3)).alloc (.cells #[.bool false] 4)).alloc (.cells #[(.slice (some ⟨b, off, none⟩) l.length cap)] 78)).alloc (.cells #[.int .i64 a, .int .i64 p] 27)).heap[w.heap.size + 1 + 1 + 1]? = some (.cells #[.bool false] 4 (0, 0)) := (by have h := World.alloc_heap_new (((w.alloc (.cells #[(.slice (some ⟨b, off, none⟩) l.length cap)] 78)).alloc (.cells #[.int .i64 a, .int .i64 p] 27)).alloc (.cells #[.int .i64 (-1)] 3)) (.cells #[.bool false] 4); simp only [World.size_alloc] at h; exact (Below.heap_alloc _ _ _ (by simp <;> omega)).trans ((Below.heap_alloc _ _ _ (by simp <;> omega)).trans (h)))
  have hS0 : ((((((w.alloc (.cells #[(.slice (some ⟨b, off, none⟩) l.length cap)] 78)).alloc (.cells #[.int .i64 a, .int .i64 p] 27)).alloc (.cells #[.int .i64 (-1)] 3)).alloc (.cells #[.bool false] 4)).alloc (.cells #[(.slice (some ⟨b, off, none⟩) l.length cap)] 78)).alloc (.cells #[.int .i64 a, .int .i64 p] 27)).heap[w.heap.size + 1 + 1 + 1 + 1]? = some (.cells #[(.slice (some ⟨b, off, none⟩) l.length cap)] 78 (0, 0)) := (by have h := World.alloc_heap_new ((((w.alloc (.cells #[(.slice (some ⟨b, off, none⟩) l.length cap)] 78)).alloc (.cells #[.int .i64 a, .int .i64 p] 27)).alloc (.cells #[.int .i64 (-1)] 3)).alloc (.cells #[.bool false] 4)) (.cells #[(.slice (some ⟨b, off, none⟩) l.length cap)] 78); simp only [World.size_alloc] at h; exact (Below.heap_alloc _ _ _ (by simp <;> omega)).trans (h))
  have hG0 : ((((((w.alloc (.cells #[(.slice (some ⟨b, off, none⟩) l.length cap)] 78)).alloc (.cells #[.int .i64 a, .int .i64 p] 27)).alloc (.cells #[.int .i64 (-1)] 3)).alloc (.cells #[.bool false] 4)).alloc (.cells #[(.slice (some ⟨b, off, none⟩) l.length cap)] 78)).alloc (.cells #[.int .i64 a, .int .i64 p] 27)).heap[w.heap.size + 1 + 1 + 1 + 1 + 1]? = some (.cells #[.int .i64 a, .int .i64 p] 27 (0, 0)) := (by have h := World.alloc_heap_new (((((w.alloc (.cells #[(.slice (some ⟨b, off, none⟩) l.length cap)] 78)).alloc (.cells #[.int .i64 a, .int .i64 p] 27)).alloc (.cells #[.int .i64 (-1)] 3)).alloc (.cells #[.bool false] 4)).alloc (.cells #[(.slice (some ⟨b, off, none⟩) l.length cap)] 78)) (.cells #[.int .i64 a, .int .i64 p] 27); simp only [World.size_alloc] at h; exact h)
  have hB0 : Below w.heap.size w ((((((w.alloc (.cells #[(.slice (some ⟨b, off, none⟩) l.length cap)] 78)).alloc (.cells #[.int .i64 a, .int .i64 p] 27)).alloc (.cells #[.int .i64 (-1)] 3)).alloc (.cells #[.bool false] 4)).alloc (.cells #[(.slice (some ⟨b, off, none⟩) l.length cap)] 78)).alloc (.cells #[.int .i64 a, .int .i64 p] 27)) := ((((((Below.refl _ w).alloc (Nat.le_refl _) _).alloc (by simp) _).alloc (by simp <;> omega) _).alloc (by simp <;> omega) _).alloc (by simp <;> omega) _).alloc (by simp <;> omega) _
  have hsz : ((((((w.alloc (.cells #[(.slice (some ⟨b, off, none⟩) l.length cap)] 78)).alloc (.cells #[.int .i64 a, .int .i64 p] 27)).alloc (.cells #[.int .i64 (-1)] 3)).alloc (.cells #[.bool false] 4)).alloc (.cells #[(.slice (some ⟨b, off, none⟩) l.length cap)] 78)).alloc (.cells #[.int .i64 a, .int .i64 p] 27)).heap.size = w.heap.size + 6 := by simp
  obtain ⟨W0, hW0⟩ : ∃ W0, ((((((w.alloc (.cells #[(.slice (some ⟨b, off, none⟩) l.length cap)] 78)).alloc (.cells #[.int .i64 a, .int .i64 p] 27)).alloc (.cells #[.int .i64 (-1)] 3)).alloc (.cells #[.bool false] 4)).alloc (.cells #[(.slice (some ⟨b, off, none⟩) l.length cap)] 78)).alloc (.cells #[.int .i64 a, .int .i64 p] 27)) = W0 := ⟨_, rfl⟩
  rw [hW0] at hF0 hE0 hO0 hS0 hG0 hB0 hsz
  (try rw [hW0])
  clear hW0
  skip
  refine wpIn_rangeFunc_ownH rfl (by decide) (gf := 125) (lb := #[.pointer (some ⟨w.heap.size + 1 + 1 + 1 + 1, 0, none⟩), .pointer (some ⟨w.heap.size + 1 + 1 + 1 + 1 + 1, 0, none⟩)]) rfl trivial (enters_of Try.func125 (by kernel_rfl) rfl)
    (way_stops (4 - 1) (by decide) (w.heap.size + 1 + 1 + 1 + 1) (w.heap.size + 1 + 1 + 1 + 1 + 1) w.heap.size b off cap l a p hn hl hf W0 (by omega) (by omega) hb (by omega) (block_cell1 hS0 0 _ rfl) (block_cell1 hG0 0 _ rfl) (block_cell1 hG0 1 _ rfl) (fun i hi j hj => (hB0.cell (p := ⟨b, off + i * layS.k + j, none⟩) hb).trans (hc i hi j hj)))
    (fun h k => KpW.trans h k)
    (fun W l ob ob' hl' hw' hn1 hn2 => ⟨belowK_b (w := W0) (by omega) W l ob ob' hl' hw' hn1 hn2, (grownBy_putObj' W l ob').block _ (by have := (Array.getElem?_eq_some_iff.1 hw').1; omega) (by simp; omega)⟩)
    (Below.refl _ _) (fun _ => rfl)
    (fun pre W => (scan a p pre = none ∧ Boxed W (w.heap.size + 1 + 1) 3 (.int .i64 (-1)) ∧ Boxed W (w.heap.size + 1 + 1 + 1) 4 (.bool false) ∧ W.heap[w.heap.size + 1]? = some (.cells #[.int .i64 a, .int .i64 p] 27 (0, 0)) ∧ w.heap.size + 6 ≤ W.heap.size) ∧ Below w.heap.size w W)
    (fun c pre W => (c = .exit 0 ∧ ∃ E : Int × Bool, scan a p pre = some E ∧ Boxed W (w.heap.size + 1 + 1) 3 (.int .i64 E.1) ∧ Boxed W (w.heap.size + 1 + 1 + 1) 4 (.bool E.2)) ∧ Below w.heap.size w W)
    (OwnFrom.and (Own.from (fun q A B row hs hg hr => by obtain ⟨e1, e2, e3, e4, e5⟩ := hs; exact ⟨e1, block_ownW e2 hg hr, block_ownW e3 hg hr, block_ownW e4 hg hr, Nat.le_trans e5 hg.size⟩) _) (ownFrom_below (Nat.le_refl _) (by omega)))
    (fun c => OwnFrom.and (Own.from (fun q A B row hs hg hr => by obtain ⟨e0, E, e1, e2, e3⟩ := hs; exact ⟨e0, E, e1, block_ownW e2 hg hr, block_ownW e3 hg hr⟩) _) (ownFrom_below (Nat.le_refl _) (by omega)))
    ⟨⟨rfl, hE0, hO0, hF0, by omega⟩, hB0⟩
    (fun x a' W => ∃ Bx, w.heap.size + 1 + 1 + 1 + 1 + 1 < Bx ∧ W.heap[Bx]? = some (.cells #[.bool x.2.u, .int .i64 x.2.a, .int .i64 x.2.p, .int .i64 x.2.v, .int .i64 x.2.t] 87 (0, 0)) ∧ a' = { tmps := #[tab (.slice (some ⟨b, off, none⟩) l.length cap), flowV a p, .pointer (some ⟨w.heap.size, 0, none⟩), .pointer (some ⟨w.heap.size + 1, 0, none⟩), .int .i64 0, .bool false, .pointer (some ⟨w.heap.size + 1 + 1, 0, none⟩), .pointer (some ⟨w.heap.size + 1 + 1 + 1, 0, none⟩), .int .i64 (x.1 : Nat), .pointer (some ⟨Bx, 0, none⟩), .agg #[(.slice (some ⟨b, off, none⟩) l.length cap)], .agg #[.int .i64 a, .int .i64 p], .func (.func 125) #[] #[.pointer (some ⟨w.heap.size + 1 + 1 + 1 + 1, 0, none⟩), .pointer (some ⟨w.heap.size + 1 + 1 + 1 + 1 + 1, 0, none⟩)], .int .i64 (x.1 : Nat), slot x.2, undef, undef, undef, undef, undef, undef, undef, undef, undef, undef, undef, undef, undef], defers := [] })
    (fun x a' _ X Y row hs hg hr => by obtain ⟨Bx, e1, e2, e3⟩ := hs; exact ⟨Bx, e1, block_ownW e2 hg (fun r e => (hr r e).2), e3⟩)
    ?assign ?body ?done ?stop
  case assign =>
    rintro y pre x W K ⟨⟨e1, e2, e3, e4, e5⟩, hB⟩ hK
    gi_wp2
    refine hK _ _ ((KeepsOthers.alloc _ _).from _) ⟨(Below.refl _ W).alloc hB.size _, Below.heap_alloc W _ _ (by omega)⟩ ⟨⟨e1, e2.alloc _, e3.alloc _, (Below.heap_alloc W _ _ (by omega)).trans e4, Nat.le_trans e5 (by simp)⟩, hB.alloc hB.size _⟩ ⟨W.heap.size, by omega, World.alloc_heap_new W _, rfl⟩
  case body =>
    rintro y pre ⟨xq, xs⟩ a' W hl' ⟨r, hr⟩ ⟨⟨e1, e2, e3, e4, e5⟩, hB⟩ ⟨Bx, hBx, hX, rfl⟩ hlt
    obtain ⟨su, sa, sp, sv, st⟩ := xs
    dsimp only at hX
    have cX0 := block_cell1 hX 0 _ rfl
    have cX1 := block_cell1 hX 1 _ rfl
    have cX2 := block_cell1 hX 2 _ rfl
    have cF0 := block_cell1 e4 0 _ rfl
    have cF1 := block_cell1 e4 1 _ rfl
    have cE := e2.cell
    have fE := e2.frozen
    have cO := e3.cell
    have fO := e3.frozen
    have HS := hide (scan_snoc a p pre (xq, ⟨su, sa, sp, sv, st⟩) e1)
    have HH := hide (And.intro e2 (And.intro e3 (And.intro e4 hB)))
    clear e2 e3 e4 hB
    cases su with
    | false =>
      have HN := hide (show scan a p (pre ++ [(xq, ⟨false, sa, sp, sv, st⟩)]) = some ((xq : Int), false) from HS.out.trans (by simp [scanX]))
      clear HS
      gi_wp2
      obtain ⟨e2, e3, e4, hB⟩ := HH.out
      exact ⟨(KeepsOthers.setCell _ _ _).from _, ⟨rfl, ((xq : Int), false), HN.out, e2.set _, (Below.heap_setCell _ _ _ _ (by simp)).trans e3⟩, hB.setCell (p := ⟨w.heap.size + 1 + 1, 0, none⟩) (by simp; omega) _⟩
    | true =>
      by_cases hq : sa = a ∧ sp = p
      · have HN := hide (show scan a p (pre ++ [(xq, ⟨true, sa, sp, sv, st⟩)]) = some ((xq : Int), true) from HS.out.trans (by simp [scanX, hq]))
        obtain ⟨rfl, rfl⟩ := hq
        clear HS
        have cO2 : (W.setCell ⟨w.heap.size + 1 + 1, 0, none⟩ (.int .i64 (xq : Nat))).cell? ⟨w.heap.size + 1 + 1 + 1, 0, none⟩ = some (.bool false) := ((cell_of_blockW (Below.heap_setCell _ _ _ _ (by simp))).trans cO)
        have fO2 : (W.setCell ⟨w.heap.size + 1 + 1, 0, none⟩ (.int .i64 (xq : Nat))).frozen? ⟨w.heap.size + 1 + 1 + 1, 0, none⟩ = false := (Boxed.frozen (show Boxed _ _ 4 (.bool false) from (Below.heap_setCell _ _ _ _ (by simp)).trans HH.out.2.1))
        gi_wp2
        obtain ⟨e2, e3, e4, hB⟩ := HH.out
        refine ⟨((KeepsOthers.setCell _ _ _).from _).trans ((KeepsOthers.setCell _ _ _).from _), ⟨rfl, ((xq : Int), true), HN.out, (Below.heap_setCell _ _ _ _ (by simp)).trans (e2.set _), ?_⟩, (hB.setCell (p := ⟨w.heap.size + 1 + 1, 0, none⟩) (by simp; omega) _).setCell (p := ⟨w.heap.size + 1 + 1 + 1, 0, none⟩) (by simp; omega) _⟩
        have b3 : Boxed (W.setCell ⟨w.heap.size + 1 + 1, 0, none⟩ (.int .i64 (xq : Nat))) (w.heap.size + 1 + 1 + 1) 4 (.bool false) := (Below.heap_setCell W ⟨w.heap.size + 1 + 1, 0, none⟩ _ (w.heap.size + 1 + 1 + 1) (by simp)).trans e3
        exact b3.set _
      · have HN := hide (show scan a p (pre ++ [(xq, ⟨true, sa, sp, sv, st⟩)]) = none from HS.out.trans (by simp [scanX]; exact fun h1 h2 => hq ⟨h1, h2⟩))
        clear HS
        by_cases h1 : sa = a
        · subst h1
          have h2 : (sp == p) = false := beq_eq_false_iff_ne.2 (fun e => hq ⟨rfl, e⟩)
          clear hq
          gi_wp2
          obtain ⟨e2, e3, e4, hB⟩ := HH.out
          exact ⟨keeps_belowW (Below.refl _ _), ⟨Below.refl _ _, rfl⟩, ⟨HN.out, e2, e3, e4, e5⟩, hB⟩
        · have h2 : (sa == a) = false := beq_eq_false_iff_ne.2 h1
          clear hq
          gi_wp2
          obtain ⟨e2, e3, e4, hB⟩ := HH.out
          exact ⟨keeps_belowW (Below.refl _ _), ⟨Below.refl _ _, rfl⟩, ⟨HN.out, e2, e3, e4, e5⟩, hB⟩
  case done =>
    rintro D ys W hD rfl ⟨⟨e1, e2, e3, e4, e5⟩, hB⟩ hK
    have HE := hide (endL_none hn e1)
    have cE := e2.cell
    have cO := e3.cell
    have HH := hide (And.intro e2 (And.intro e3 hB))
    clear e2 e3 hB
    gi_wp2
    refine wpIn_wide.2 ?_
    go_region
    gi_wp2
    rw [Exit.noGoto_ret]
    have hK2 : W.drew.heap[D]? = some (.deferred (some [])) := hK
    refine ⟨by simp, .inl ⟨_, _, rfl, run_takeDeferred hK2, ?_⟩⟩
    refine ⟨.tuple #[.int .i64 (-1), .bool false], by simp [results, Try.f95, go_sem], by rw [HE.out], (Below.drew HH.out.2.2).trans (belowK_b (w := w) (Nat.le_refl _) W.drew D _ _ (by omega) hK2 rfl rfl)⟩
  case stop =>
    rintro D c pre W hD ⟨k, hk, rfl⟩ ⟨⟨rfl, E, e1, e2, e3⟩, hB⟩ hK
    have HE := hide (endL_some hn hk e1)
    have cE := e2.cell
    have cO := e3.cell
    have HH := hide (And.intro e2 (And.intro e3 hB))
    clear e2 e3 hB
    gi_wp2
    refine wpIn_wide.2 ?_
    go_region
    gi_wp2
    rw [Exit.noGoto_ret]
    have hK2 : W.drew.heap[D]? = some (.deferred (some [])) := hK
    refine ⟨by simp, .inl ⟨_, _, rfl, run_takeDeferred hK2, ?_⟩⟩
    refine ⟨.tuple #[.int .i64 E.1, .bool E.2], by simp [results, Try.f95, go_sem], by rw [HE.out], (Below.drew HH.out.2.2).trans (belowK_b (w := w) (Nat.le_refl _) W.drew D _ _ (by omega) hK2 rfl rfl)⟩

end Go.Proofs.Ytiijecnhbioehaa
