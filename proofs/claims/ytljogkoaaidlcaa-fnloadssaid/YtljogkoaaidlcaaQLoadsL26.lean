/- Several texts in one: SRoute, SCarr2, SHere. -/
import Derived.Test.YtljogkoaaidlcaaQLoadsL24
import Derived.Test.YtljogkoaaidlcaaQLoadsL25
namespace Go.Proofs.Ytljogkoaaidlcaa
open Go.ChangeShapes Go.WideShapes Go.ChangeAt Go.RowKit Go.Joins Go.Shelf
set_option linter.unusedVariables false
set_option linter.unusedSimpArgs false
set_option maxRecDepth 100000
set_option maxHeartbeats 40000000
attribute [local go_sem] Oper.semAt_some
def Q2J (o : Option Bool) (x : Q7C) : Option Bool :=
  match o with
  | none => none
  | some h => if Q13 x.1.1 x.1.2 && !(h && x.1.2 == 0) then some (x.1.2 == 1) else none
def Q6e (l : List Q7C) : Option Bool := l.foldl Q2J (some false)
theorem Q54 (l : List Q7C) (x : Q7C) : Q6e (l ++ [x]) = Q2J (Q6e l) x := by simp [Q6e]
theorem Q3Z (q : Nat → Q7C) (k m : Nat) (h : Q6e (upto q k) = none) (hk : k ≤ m) : Q6e (upto q m) = none := by
  induction m with
  | zero => have : k = 0 := by omega
            subst this; exact h
  | succ m ih =>
    rcases Nat.lt_succ_iff_lt_or_eq.1 (Nat.lt_succ_of_le hk) with h1 | h1
    · rw [Q3v, Q54, ih (by omega)]; rfl
    · rw [← h1]; exact h
def Q3e (op : Bool) (g : List (Int × Int)) (pl : Int) : Bool :=
  match Q6e (upto (Q22 g pl) g.length) with
  | none => false
  | some h => !h || op
theorem Q1T {B : Nat} {W W' : World} (h : Below W.heap.size W W') : KeepsFrom B W W' :=
  ⟨h.size, fun i o _ hi _ => (h.block i (Array.getElem?_eq_some_iff.1 hi).1).trans hi⟩
theorem Q04 {W : World} {B : Nat} {c : Array Value} {t : TypeId} (h : W.heap[B]? = some (.cells c t (0, 0))) (j : Nat) (u : Value) (hj : c[j]? = some u) : W.cell? ⟨B, j, none⟩ = some u := by
  simp [World.cell?, h, hj]
theorem Q5F (a b f s : Int) (o : Option Addr) (len cap bb off cg : Nat) (g : List (Int × Int)) (pl st : Int) (w : World) (hl : len ≤ maxLen) (hgl : g.length ≤ 1048576) (hbb : bb < w.heap.size)
    (hcell : ∀ i, i < g.length → w.cell? ⟨bb, off + i * 2, none⟩ = some (.int .i64 (g.getD i (0, 0)).1) ∧ w.cell? ⟨bb, off + i * 2 + 1, none⟩ = some (.int .i64 (g.getD i (0, 0)).2)) :
    Calls Try.prog 51 #[crr a b f s (.slice o len cap) (.slice (some ⟨bb, off, none⟩) g.length cg) pl st] w fun e w' => e = .returned (.bool (Q3e (Q1B a b f s len) g pl)) ∧ Below w.heap.size w w' := by
  refine (callsIn_wide (n := 4)).1 ?_
  refine callsIn_of_wp_marks Try.func51 rfl trivial ?_ rfl
  simp only [Try.ntmps51, List.size_toArray, List.length_cons, List.length_nil, Nat.reduceAdd, Nat.reduceSub, Array.replicate_succ, Array.replicate_zero, List.push_toArray, List.append_toArray, List.nil_append, List.cons_append]
  gi_wp2_with (refine ⟨trivial, ?_⟩; gi_at_call 77; refine (Q7J Fence.wide (4 - 1) trivial rfl _ _ _ _ _ _ _ _ _).mono ?_; rintro e w' ⟨rfl, rfl⟩)
  have hC0 : ((((w.alloc (.cells (Q0v a b f s (.slice o len cap) (.slice (some ⟨bb, off, none⟩) g.length cg) pl st) 34)).alloc (.cells #[.bool false] 4)).alloc (.cells #[.bool false] 4)).alloc (.cells (Q0v a b f s (.slice o len cap) (.slice (some ⟨bb, off, none⟩) g.length cg) pl st) 34)).heap[w.heap.size]? = some (.cells (Q0v a b f s (.slice o len cap) (.slice (some ⟨bb, off, none⟩) g.length cg) pl st) 34 (0, 0)) :=
    (Below.heap_alloc _ _ _ (by simp; omega)).trans ((Below.heap_alloc _ _ _ (by simp; omega)).trans ((Below.heap_alloc _ _ _ (by simp)).trans (World.alloc_heap_new w _)))
  have bR0 : Boxed ((((w.alloc (.cells (Q0v a b f s (.slice o len cap) (.slice (some ⟨bb, off, none⟩) g.length cg) pl st) 34)).alloc (.cells #[.bool false] 4)).alloc (.cells #[.bool false] 4)).alloc (.cells (Q0v a b f s (.slice o len cap) (.slice (some ⟨bb, off, none⟩) g.length cg) pl st) 34)) (w.heap.size + 1) 4 (.bool false) := by
    have := ((Boxed.new (w.alloc (.cells (Q0v a b f s (.slice o len cap) (.slice (some ⟨bb, off, none⟩) g.length cg) pl st) 34)) 4 (.bool false)).alloc (.cells #[.bool false] 4)).alloc (.cells (Q0v a b f s (.slice o len cap) (.slice (some ⟨bb, off, none⟩) g.length cg) pl st) 34)
    simpa only [World.size_alloc] using this
  have bH0 : Boxed ((((w.alloc (.cells (Q0v a b f s (.slice o len cap) (.slice (some ⟨bb, off, none⟩) g.length cg) pl st) 34)).alloc (.cells #[.bool false] 4)).alloc (.cells #[.bool false] 4)).alloc (.cells (Q0v a b f s (.slice o len cap) (.slice (some ⟨bb, off, none⟩) g.length cg) pl st) 34)) (w.heap.size + 1 + 1) 4 (.bool false) := by
    have := (Boxed.new ((w.alloc (.cells (Q0v a b f s (.slice o len cap) (.slice (some ⟨bb, off, none⟩) g.length cg) pl st) 34)).alloc (.cells #[.bool false] 4)) 4 (.bool false)).alloc (.cells (Q0v a b f s (.slice o len cap) (.slice (some ⟨bb, off, none⟩) g.length cg) pl st) 34)
    simpa only [World.size_alloc] using this
  have hS0 : ((((w.alloc (.cells (Q0v a b f s (.slice o len cap) (.slice (some ⟨bb, off, none⟩) g.length cg) pl st) 34)).alloc (.cells #[.bool false] 4)).alloc (.cells #[.bool false] 4)).alloc (.cells (Q0v a b f s (.slice o len cap) (.slice (some ⟨bb, off, none⟩) g.length cg) pl st) 34)).heap[w.heap.size + 1 + 1 + 1]? = some (.cells (Q0v a b f s (.slice o len cap) (.slice (some ⟨bb, off, none⟩) g.length cg) pl st) 34 (0, 0)) := by
    have := World.alloc_heap_new (((w.alloc (.cells (Q0v a b f s (.slice o len cap) (.slice (some ⟨bb, off, none⟩) g.length cg) pl st) 34)).alloc (.cells #[.bool false] 4)).alloc (.cells #[.bool false] 4)) (.cells (Q0v a b f s (.slice o len cap) (.slice (some ⟨bb, off, none⟩) g.length cg) pl st) 34)
    simpa only [World.size_alloc] using this
  have hB0 : Below w.heap.size w ((((w.alloc (.cells (Q0v a b f s (.slice o len cap) (.slice (some ⟨bb, off, none⟩) g.length cg) pl st) 34)).alloc (.cells #[.bool false] 4)).alloc (.cells #[.bool false] 4)).alloc (.cells (Q0v a b f s (.slice o len cap) (.slice (some ⟨bb, off, none⟩) g.length cg) pl st) 34)) :=
    ((((Below.refl _ w).alloc (Kaq _) _).alloc (by simp) _).alloc (by simp; omega) _).alloc (by simp; omega) _
  have hsz : ((((w.alloc (.cells (Q0v a b f s (.slice o len cap) (.slice (some ⟨bb, off, none⟩) g.length cg) pl st) 34)).alloc (.cells #[.bool false] 4)).alloc (.cells #[.bool false] 4)).alloc (.cells (Q0v a b f s (.slice o len cap) (.slice (some ⟨bb, off, none⟩) g.length cg) pl st) 34)).heap.size = w.heap.size + 4 := by simp
  obtain ⟨W0, hW0⟩ : ∃ W0, (((w.alloc (.cells (Q0v a b f s (.slice o len cap) (.slice (some ⟨bb, off, none⟩) g.length cg) pl st) 34)).alloc (.cells #[.bool false] 4)).alloc (.cells #[.bool false] 4)).alloc (.cells (Q0v a b f s (.slice o len cap) (.slice (some ⟨bb, off, none⟩) g.length cg) pl st) 34) = W0 := ⟨_, rfl⟩
  rw [hW0] at hC0 bR0 bH0 hS0 hB0 hsz ⊢
  clear hW0
  have hcellW : ∀ j, j < g.length → W0.cell? ⟨bb, off + j * 2, none⟩ = some (.int .i64 (g[j]?.getD (0, 0)).1) ∧ W0.cell? ⟨bb, off + j * 2 + 1, none⟩ = some (.int .i64 (g[j]?.getD (0, 0)).2) := fun j hj => by
    have := hcell j hj
    rw [List.getD_eq_getElem?_getD] at this
    exact ⟨(hB0.cell (p := ⟨bb, off + j * 2, none⟩) hbb).trans this.1, (hB0.cell (p := ⟨bb, off + j * 2 + 1, none⟩) hbb).trans this.2⟩
  refine wpIn_rangeFunc_ownH rfl (by decide) (gf := 99) (lb := #[.pointer (some ⟨w.heap.size + 1 + 1 + 1, 0, none⟩)]) rfl trivial (enters_of Try.func99 (by kernel_rfl) rfl)
    (Q5u Fence.wide (4 - 1) trivial rfl (by decide) (w.heap.size + 1 + 1 + 1) w.heap.size bb off cg g pl hgl W0 (by omega) hbb (by omega) (Q04 hS0 5 _ rfl) (Q04 hS0 6 _ rfl) hcellW)
    (fun h k => KpB.trans h k)
    (fun W l ob ob' hl' hw' hn1 hn2 => ⟨belowK_b (w := W0) (by omega) W l ob ob' hl' hw' hn1 hn2, (grownBy_putObj' W l ob').block _ (by have := (Array.getElem?_eq_some_iff.1 hw').1; omega) (by simp; omega)⟩)
    (Below.refl _ _) (fun _ => rfl)
    (fun pre W => ((∃ h, Q6e pre = some h ∧ Boxed W (w.heap.size + 1 + 1) 4 (.bool h)) ∧ Boxed W (w.heap.size + 1) 4 (.bool false) ∧ W.heap[w.heap.size]? = some (.cells (Q0v a b f s (.slice o len cap) (.slice (some ⟨bb, off, none⟩) g.length cg) pl st) 34 (0, 0)) ∧ w.heap.size + 4 ≤ W.heap.size) ∧ Below w.heap.size w W)
    (fun c pre W => (c = .ret ∧ Q6e pre = none ∧ Boxed W (w.heap.size + 1) 4 (.bool false)) ∧ Below w.heap.size w W)
    (OwnFrom.and (Own.from (fun q A B row hs hg hr => by obtain ⟨⟨h, e1, e2⟩, e3, e4, e5⟩ := hs; exact ⟨⟨h, e1, Q27 e2 hg hr⟩, Q27 e3 hg hr, Q27 e4 hg hr, Kdq e5 hg.size⟩) _) (ownFrom_below (Kaq _) (by omega)))
    (fun c => OwnFrom.and (Own.from (fun q A B row hs hg hr => by obtain ⟨e0, e1, e2⟩ := hs; exact ⟨e0, e1, Q27 e2 hg hr⟩) _) (ownFrom_below (Kaq _) (by omega)))
    ⟨⟨⟨false, rfl, bH0⟩, bR0, hC0, by omega⟩, hB0⟩
    (fun x a' W => ∃ Bx, w.heap.size + 1 + 1 + 1 < Bx ∧ W.heap[Bx]? = some (.cells #[.int .i64 x.1.1, .int .i64 x.1.2] 41 (0, 0)) ∧ a' = { tmps := #[crr a b f s (.slice o len cap) (.slice (some ⟨bb, off, none⟩) g.length cg) pl st, .pointer (some ⟨w.heap.size, 0, none⟩), .pointer (some ⟨w.heap.size + 1, 0, none⟩), .pointer (some ⟨w.heap.size + 1 + 1, 0, none⟩), .pointer (some ⟨Bx, 0, none⟩), .agg #[.int .i64 a, .int .i64 b, .int .i64 f, .int .i64 s, .slice o len cap, .slice (some ⟨bb, off, none⟩) g.length cg, .int .i64 pl, .int .i64 st], .func (.func 99) #[] #[.pointer (some ⟨w.heap.size + 1 + 1 + 1, 0, none⟩)], seg x.1.1 x.1.2, .bool x.2, undef, undef, undef, undef, undef, undef, undef, undef, undef, undef, undef, undef, undef, undef, undef, undef, undef, undef, undef, undef, undef], defers := [] })
    (fun x a' _ X Y row hs hg hr => by obtain ⟨Bx, e1, e2, e3⟩ := hs; exact ⟨Bx, e1, Q27 e2 hg (fun r e => (hr r e).2), e3⟩)
    ?assign ?body ?done ?stop
  case assign =>
    rintro l pre x W K ⟨⟨⟨h, e1, e2⟩, e3, e4, e5⟩, hB⟩ hK
    gi_wp2
    refine hK _ _ ((KeepsOthers.alloc _ _).from _) ⟨(Below.refl _ W).alloc hB.size _, heap_alloc_old W _ _ (by omega)⟩ ⟨⟨⟨h, e1, e2.alloc _⟩, e3.alloc _, (heap_alloc_old W _ _ (by omega)).trans e4, Kdq e5 (by simp)⟩, hB.alloc hB.size _⟩ ⟨W.heap.size, by omega, World.alloc_heap_new W _, rfl⟩
  case body =>
    rintro l pre ⟨⟨x1, x2⟩, d⟩ a' W hl ⟨r, hr⟩ ⟨⟨⟨h, e1, e2⟩, e3, e4, e5⟩, hB⟩ ⟨Bx, hBx, hX, rfl⟩ hlt
    dsimp only at hX
    have cX0 := Q04 hX 0 _ rfl
    have cX1 := Q04 hX 1 _ rfl
    have hso := Q4E x1 x2 W
    have HRUN := Q00 (Q54 pre ((x1, x2), d))
    rw [e1] at HRUN
    cases hs : Q13 x1 x2 with
    | false =>
      rw [hs] at hso
      have HN : Hid (Q6e (pre ++ [((x1, x2), d)]) = none) := by unfold Hid; rw [HRUN.out]; simp [Q2J, hs]
      clear HRUN
      gi_wp2_with (refine ⟨trivial, ?_⟩; gi_at_call 78; refine (CallsIn.inRound l (callsIn_wide.2 hso)).mono ?_; rintro e W2 ⟨rfl, hb2⟩; have bR2 : Boxed W2 (w.heap.size + 1) 4 (.bool false) := (hb2.block _ e3.lt).trans e3; have cR2 := bR2.cell; have fR2 := bR2.frozen)
      exact ⟨(Q1T hb2).trans ((KeepsOthers.setCell _ _ _).from _), ⟨rfl, HN.out, bR2.set _⟩, (hB.trans (hb2.mono hB.size)).setCell (p := ⟨w.heap.size + 1, 0, none⟩) (by simp) _⟩
    | true =>
      rw [hs] at hso
      cases h with
      | false =>
        have HY : Hid (Q6e (pre ++ [((x1, x2), d)]) = some (x2 == 1)) := by unfold Hid; rw [HRUN.out]; simp [Q2J, hs]
        clear HRUN
        gi_wp2_with (refine ⟨trivial, ?_⟩; gi_at_call 78; refine (CallsIn.inRound l (callsIn_wide.2 hso)).mono ?_; rintro e W2 ⟨rfl, hb2⟩; have bR2 : Boxed W2 (w.heap.size + 1) 4 (.bool false) := (hb2.block _ e3.lt).trans e3; have cR2 := bR2.cell; have fR2 := bR2.frozen; have bH2 : Boxed W2 (w.heap.size + 1 + 1) 4 _ := (hb2.block _ e2.lt).trans e2; have cH2 := bH2.cell; have fH2 := bH2.frozen; have hX2 := (hb2.block _ (Array.getElem?_eq_some_iff.1 hX).1).trans hX; have cX2 := Q04 hX2 1 _ rfl)
        exact ⟨(Q1T hb2).trans ((KeepsOthers.setCell _ _ _).from _), ⟨(hb2.mono hB.size).setCell (p := ⟨w.heap.size + 1 + 1, 0, none⟩) (by simp; omega) _, (Below.heap_setCell _ _ _ _ (by simp)).trans (hb2.block _ (by omega))⟩, ⟨⟨_, HY.out, bH2.set _⟩, (Below.heap_setCell _ _ _ _ (by simp)).trans bR2, (Below.heap_setCell _ _ _ _ (by simp; omega)).trans ((hb2.block _ (by omega)).trans e4), by have := hb2.size; simp; omega⟩, (hB.trans (hb2.mono hB.size)).setCell (p := ⟨w.heap.size + 1 + 1, 0, none⟩) (by simp; omega) _⟩
      | true =>
        by_cases hx : x2 = 0
        · subst hx
          have HN : Hid (Q6e (pre ++ [((x1, 0), d)]) = none) := by unfold Hid; rw [HRUN.out]; simp [Q2J, hs]
          clear HRUN
          gi_wp2_with (refine ⟨trivial, ?_⟩; gi_at_call 78; refine (CallsIn.inRound l (callsIn_wide.2 hso)).mono ?_; rintro e W2 ⟨rfl, hb2⟩; have bR2 : Boxed W2 (w.heap.size + 1) 4 (.bool false) := (hb2.block _ e3.lt).trans e3; have cR2 := bR2.cell; have fR2 := bR2.frozen; have bH2 : Boxed W2 (w.heap.size + 1 + 1) 4 _ := (hb2.block _ e2.lt).trans e2; have cH2 := bH2.cell; have fH2 := bH2.frozen; have hX2 := (hb2.block _ (Array.getElem?_eq_some_iff.1 hX).1).trans hX; have cX2 := Q04 hX2 1 _ rfl)
          exact ⟨(Q1T hb2).trans ((KeepsOthers.setCell _ _ _).from _), ⟨rfl, HN.out, bR2.set _⟩, (hB.trans (hb2.mono hB.size)).setCell (p := ⟨w.heap.size + 1, 0, none⟩) (by simp) _⟩
        · have hx' : (x2 == 0) = false := by simp [hx]
          have HY : Hid (Q6e (pre ++ [((x1, x2), d)]) = some (x2 == 1)) := by unfold Hid; rw [HRUN.out]; simp [Q2J, hs, hx]
          clear HRUN
          gi_wp2_with (refine ⟨trivial, ?_⟩; gi_at_call 78; refine (CallsIn.inRound l (callsIn_wide.2 hso)).mono ?_; rintro e W2 ⟨rfl, hb2⟩; have bR2 : Boxed W2 (w.heap.size + 1) 4 (.bool false) := (hb2.block _ e3.lt).trans e3; have cR2 := bR2.cell; have fR2 := bR2.frozen; have bH2 : Boxed W2 (w.heap.size + 1 + 1) 4 _ := (hb2.block _ e2.lt).trans e2; have cH2 := bH2.cell; have fH2 := bH2.frozen; have hX2 := (hb2.block _ (Array.getElem?_eq_some_iff.1 hX).1).trans hX; have cX2 := Q04 hX2 1 _ rfl)
          exact ⟨(Q1T hb2).trans ((KeepsOthers.setCell _ _ _).from _), ⟨(hb2.mono hB.size).setCell (p := ⟨w.heap.size + 1 + 1, 0, none⟩) (by simp; omega) _, (Below.heap_setCell _ _ _ _ (by simp)).trans (hb2.block _ (by omega))⟩, ⟨⟨_, HY.out, bH2.set _⟩, (Below.heap_setCell _ _ _ _ (by simp)).trans bR2, (Below.heap_setCell _ _ _ _ (by simp; omega)).trans ((hb2.block _ (by omega)).trans e4), by have := hb2.size; simp; omega⟩, (hB.trans (hb2.mono hB.size)).setCell (p := ⟨w.heap.size + 1 + 1, 0, none⟩) (by simp; omega) _⟩
  case done =>
    rintro D ys W hD rfl ⟨⟨⟨h, e1, e2⟩, e3, e4, e5⟩, hB⟩ hK
    have HE : Hid ((!h || Q1B a b f s len) = Q3e (Q1B a b f s len) g pl) := by unfold Hid Q3e; rw [e1]
    have hop := Q2L a b f s o len cap W hl
    have cH := e2.cell
    have cR := e3.cell
    have fR := e3.frozen
    have c0 := Q04 e4 0 _ rfl
    have c1 := Q04 e4 1 _ rfl
    have c2 := Q04 e4 2 _ rfl
    have c3 := Q04 e4 3 _ rfl
    have c4 := Q04 e4 4 _ rfl
    cases h with
    | false =>
      gi_wp2
      refine ⟨trivial, ?_⟩
      gi_wp2
      have hK' := (KeepsOthers.setCell W ⟨w.heap.size + 1, 0, none⟩ (.bool true)).same D _ hK rfl
      refine ⟨by simp, .inl ⟨_, _, rfl, run_takeDeferred hK', ?_⟩⟩
      have hc5 := cell_kept (World.cell?_setCell_same' W ⟨w.heap.size + 1, 0, none⟩ (.bool true) (by rw [cR]; rfl)) (grownBy_putObj' _ D (.deferred none)) (fun r e => by cases e; exact ⟨_, hK', rfl⟩)
      refine ⟨.bool true, ?_, Q0g HE.out, (hB.setCell (p := ⟨w.heap.size + 1, 0, none⟩) (by simp) _).trans (belowK_b (w := w) (Kaq _) _ D _ _ (by omega) hK' rfl rfl)⟩
      simp [results, Try.f51, go_sem, hc5]
    | true =>
      generalize hq : Q1B a b f s len = op at hop
      have HQ : Hid (op = Q3e (Q1B a b f s len) g pl) := hq.symm.trans HE.out
      clear hq
      gi_wp2_with (refine ⟨trivial, ?_⟩; gi_at_call 11; refine (callsIn_wide.2 hop).mono ?_; rintro e W2 ⟨rfl, hb2⟩; have bR2 : Boxed W2 (w.heap.size + 1) 4 (.bool false) := (hb2.block _ e3.lt).trans e3; have cR2 := bR2.cell; have fR2 := bR2.frozen)
      have hK2 := (hb2.block D (Array.getElem?_eq_some_iff.1 hK).1).trans hK
      have hB2 := hB.trans (hb2.mono hB.size)
      have hK' := (KeepsOthers.setCell W2 ⟨w.heap.size + 1, 0, none⟩ (.bool op)).same D _ hK2 rfl
      refine ⟨by simp, .inl ⟨_, _, rfl, run_takeDeferred hK', ?_⟩⟩
      have hc5 := cell_kept (World.cell?_setCell_same' W2 ⟨w.heap.size + 1, 0, none⟩ (.bool op) (by rw [cR2]; rfl)) (grownBy_putObj' _ D (.deferred none)) (fun r e => by cases e; exact ⟨_, hK', rfl⟩)
      refine ⟨.bool op, ?_, Q0g HQ.out, (hB2.setCell (p := ⟨w.heap.size + 1, 0, none⟩) (by simp) _).trans (belowK_b (w := w) (Kaq _) _ D _ _ (by omega) hK' rfl rfl)⟩
      simp [results, Try.f51, go_sem, hc5]
  case stop =>
    rintro D c pre W hD ⟨k, hk, rfl⟩ ⟨⟨rfl, hrun, bR⟩, hB⟩ hK
    have HE : Hid (false = Q3e (Q1B a b f s len) g pl) := by unfold Hid Q3e; rw [Q3Z _ k _ hrun hk]
    gi_wp2
    refine ⟨by simp, .inl ⟨_, _, rfl, run_takeDeferred hK, ?_⟩⟩
    have hc5 := cell_kept bR.cell (grownBy_putObj' _ D (.deferred none)) (fun r e => by cases e; exact ⟨_, hK, rfl⟩)
    refine ⟨.bool false, ?_, Q0g HE.out, hB.trans (belowK_b (w := w) (Kaq _) W D _ _ (by omega) hK rfl rfl)⟩
    simp [results, Try.f51, go_sem, hc5]
end Go.Proofs.Ytljogkoaaidlcaa
namespace Go.Proofs.Ytljogkoaaidlcaa
open Go.ChangeShapes Go.WideShapes Go.ChangeAt Go.RowKit Go.Joins
set_option linter.unusedVariables false
set_option linter.unusedSimpArgs false
set_option maxRecDepth 100000
set_option maxHeartbeats 40000000
def Q2D (o:Option Bool) (p:Int × Int):Option Bool:=Q2J o (p,false)
def Q3E (op:Bool):Option Bool→Bool
 |none=> false
 |some h=> !h||op
theorem Q5T:∀(l:List Q7C) (o:Option Bool),l.foldl Q2J o=(l.map (·.1)).foldl Q2D o
 |[],o=> rfl
 |x::l,o=> by simp only [List.foldl_cons,List.map_cons];rw [Q5T l];cases o <;> rfl
theorem Q7E (g:List (Int × Int)) (pl:Int):(upto (Q22 g pl) g.length).map (·.1)=g:=by
 apply List.ext_getElem
 ·simp [upto]
 ·intro i h1 h2
  simp [upto,Q22,h2]
theorem Q2c (l:List (Int × Int)):l.foldl Q2D none=none:=by induction l with
 |nil=> rfl
 |cons x l ih=> exact ih
theorem Q3y {x y:Int} (h:Q13 x y=true):y=0∨y=1:=by have:=Q2j.1 h;omega
theorem Q3O:∀l:List (Int × Int),Q3E false (l.foldl Q2D (some true))=false
 |[]=> rfl
 |(x,y)::l=> by
  rw [List.foldl_cons]
  cases hs:Q13 x y with
  |false=> simp [Q2D,Q2J,hs,Q2c,Q3E]
  |true=>
   rcases Q3y hs with h|h
   ·subst h;simp [Q2D,Q2J,Q2c,Q3E]
   ·subst h
    have:Q2D (some true) (x,1)=some true:=by simp [Q2D,Q2J,hs]
    rw [this]
    exact Q3O l
theorem Q2X (op:Bool):∀(l:List (Int × Int)) (h:Bool),(h=true→op=true)→Q0L op (if h then 1 else 0) l=Q3E op (l.foldl Q2D (some h))
 |[],h,hh=> by cases h <;> cases op <;> simp_all [Q0L,Q3E]
 |(x,y)::l,h,hh=> by
  rw [List.foldl_cons]
  cases hs:Q13 x y with
  |false=> simp [Q0L,Q2D,Q2J,hs,Q2c,Q3E]
  |true=>
   rcases Q3y hs with hy|hy
   ·subst hy
    cases h with
    |true=> simp [Q0L,Q2D,Q2J,Q2c,Q3E]
    |false=>
     have e:Q2D (some false) (x,0)=some false:=by simp [Q2D,Q2J,hs]
     rw [e,←Q2X op l false (fun h=> by cases h)]
     simp [Q0L,hs]
   ·subst hy
    have e:Q2D (some h) (x,1)=some true:=by simp [Q2D,Q2J,hs]
    rw [e]
    cases op with
    |false=> rw [Q3O];simp [Q0L]
    |true=>
     rw [←Q2X true l true (fun _=> rfl)]
     cases h <;> simp [Q0L,hs]
theorem Q6s (op:Bool) (g:List (Int × Int)) (pl:Int):Q3e op g pl=Q0L op 0 g:=by
 have h:=Q2X op g false (fun h=> by cases h)
 rw [show (if false=true then (1:Int) else 0)=0 from rfl] at h
 rw [h]
 unfold Q3e Q6e
 rw [Q5T,Q7E]
 cases g.foldl Q2D (some false) <;> rfl
theorem Q6R {a b f s:Int} {n:Nat} (h:Q0k a b f s n=true):Q1B a b f s n=Q2y f:=(Q2m h).symm
theorem Q3P (n:Int) (w:World):Calls Try.prog 27 #[.int .i64 n] w fun e w'=> e=.returned (.bool (decide (0≤n) && decide (n≤100000)))∧w=w':=by
 go_enter Try.func27,Try.ntmps27
 go_wp2
 all_goals go_ret
 all_goals refine ⟨?_,rfl⟩
 all_goals first|(simp [*];done)|(simp;omega)
theorem Q30 (a b f s:Int) (o og:Option Addr) (len cap cg:Nat) (g:List (Int × Int)) (pl st:Int) (w:World) (hl:len≤maxLen) (hgl:g.length≤maxLen) (hG:RdG w og g):
  Calls Try.prog 28 #[crr a b f s (.slice o len cap) (.slice og g.length cg) pl st] w fun e w'=> e=.returned (.bool (Q0o a b f s len g pl st))∧Below w.heap.size w w':=by
 have hgl':=hgl
 unfold maxLen at hgl'
 have hp:=fun w=> Q0W a b f s o len cap w hl
 have bx:=Q7X w a b f s (.slice o len cap) (.slice og g.length cg) pl st 34
 have hz:w.heap.size < (w.alloc (.cells #[.int .i64 a,.int .i64 b,.int .i64 f,.int .i64 s,.slice o len cap,.slice og g.length cg,.int .i64 pl,.int .i64 st] 34)).heap.size:=by simp
 have hb0:Below w.heap.size w (w.alloc (.cells #[.int .i64 a,.int .i64 b,.int .i64 f,.int .i64 s,.slice o len cap,.slice og g.length cg,.int .i64 pl,.int .i64 st] 34)):=(Below.refl _ _).alloc (Kaq _) _
 by_cases h1:Q0k a b f s len=true
 ·rw [h1] at hp
  by_cases hst:0≤st∧st≤100000
  ·have hst':(decide (0≤st) && decide (st≤100000))=true:=by simp [hst]
   have hs:=fun w=> hst' ▸ Q3P st w
   by_cases h3:(g.length:Int)≤24
   ·by_cases h4:0≤pl
    ·by_cases h5:pl < (g.length:Int)
     ·have HY:=Q00 (Q2A (Q2a.2 ⟨h1,show 1≤(g.length:Int) by omega,h3,h4,h5,hst.1,hst.2,trivial⟩))
      rcases hG with hG|⟨bb,off,rfl,hbb,hcell⟩
      ·subst hG;simp at h5;omega
      have hn3:¬(24 < (g.length:Int)):=by omega
      have hn5:¬((g.length:Int)≤pl):=by omega
      go_enter Try.func28,Try.ntmps28
      go_wp2_with fail
      generalize (w.alloc (.cells #[.int .i64 a,.int .i64 b,.int .i64 f,.int .i64 s,.slice o len cap,.slice (some ⟨bb,off,none⟩) g.length cg,.int .i64 pl,.int .i64 st] 34))=w0 at *
      refine (hp _).mono ?_
      rintro e w1 ⟨rfl,hb1⟩
      have bx1:=bx.kept hb1 hz
      have HB1:=Q00 (hb0.trans (hb1.mono (Nat.le_of_lt hz)))
      clear hb0 hb1 hp hz bx
      obtain ⟨x0,x1,x2,x3,x4,x5,x6,x7⟩:=bx1
      go_wp2_with (go_at_call 27;refine (hs _).mono ?_;rintro e w2 ⟨rfl,rfl⟩)
      refine (Q5F a b f s o len cap bb off cg g pl st w1 hl (by omega) (Kbq hbb HB1.out.size) (fun i hi=> ⟨(HB1.out.cell (p:=⟨bb,off+i * 2,none⟩) hbb).trans (hcell i hi).1,(HB1.out.cell (p:=⟨bb,off+i * 2+1,none⟩) hbb).trans (hcell i hi).2⟩)).mono ?_
      rw [Q6R h1,Q6s]
      rintro e w3 ⟨rfl,hb3⟩
      clear hcell x0 x1 x2 x3 x4 x5 x6 x7
      go_wp2
      go_ret
      exact ⟨Q0g HY.out,HB1.out.trans (hb3.mono HB1.out.size)⟩
     ·have HN:=Q00 (Q14 (a:=a) (b:=b) (f:=f) (s:=s) (n:=len) (g:=g) (pl:=pl) (st:=st) (fun q=> h5 q.2.2.2.2.1))
      have hn3:¬(24 < (g.length:Int)):=by omega
      go_enter Try.func28,Try.ntmps28
      go_wp2_with fail
      generalize (w.alloc (.cells #[.int .i64 a,.int .i64 b,.int .i64 f,.int .i64 s,.slice o len cap,.slice og g.length cg,.int .i64 pl,.int .i64 st] 34))=w0 at *
      refine (hp _).mono ?_
      rintro e w1 ⟨rfl,hb1⟩
      have bx1:=bx.kept hb1 hz
      have HB1:=Q00 (hb0.trans (hb1.mono (Nat.le_of_lt hz)))
      clear hb0 hb1 hp hz bx hG
      obtain ⟨x0,x1,x2,x3,x4,x5,x6,x7⟩:=bx1
      go_wp2_with (go_at_call 27;refine (hs _).mono ?_;rintro e w2 ⟨rfl,rfl⟩)
      go_ret
      exact ⟨Q0g HN.out,HB1.out⟩
    ·have HN:=Q00 (Q14 (a:=a) (b:=b) (f:=f) (s:=s) (n:=len) (g:=g) (pl:=pl) (st:=st) (fun q=> h4 q.2.2.2.1))
     have hn3:¬(24 < (g.length:Int)):=by omega
     go_enter Try.func28,Try.ntmps28
     go_wp2_with fail
     generalize (w.alloc (.cells #[.int .i64 a,.int .i64 b,.int .i64 f,.int .i64 s,.slice o len cap,.slice og g.length cg,.int .i64 pl,.int .i64 st] 34))=w0 at *
     refine (hp _).mono ?_
     rintro e w1 ⟨rfl,hb1⟩
     have bx1:=bx.kept hb1 hz
     have HB1:=Q00 (hb0.trans (hb1.mono (Nat.le_of_lt hz)))
     clear hb0 hb1 hp hz bx hG
     obtain ⟨x0,x1,x2,x3,x4,x5,x6,x7⟩:=bx1
     go_wp2_with (go_at_call 27;refine (hs _).mono ?_;rintro e w2 ⟨rfl,rfl⟩)
     go_ret
     exact ⟨Q0g HN.out,HB1.out⟩
   ·have HN:=Q00 (Q14 (a:=a) (b:=b) (f:=f) (s:=s) (n:=len) (g:=g) (pl:=pl) (st:=st) (fun q=> h3 q.2.2.1))
    have hn3:(24 < (g.length:Int)):=by omega
    go_enter Try.func28,Try.ntmps28
    go_wp2_with fail
    generalize (w.alloc (.cells #[.int .i64 a,.int .i64 b,.int .i64 f,.int .i64 s,.slice o len cap,.slice og g.length cg,.int .i64 pl,.int .i64 st] 34))=w0 at *
    refine (hp _).mono ?_
    rintro e w1 ⟨rfl,hb1⟩
    have bx1:=bx.kept hb1 hz
    have HB1:=Q00 (hb0.trans (hb1.mono (Nat.le_of_lt hz)))
    clear hb0 hb1 hp hz bx hG
    obtain ⟨x0,x1,x2,x3,x4,x5,x6,x7⟩:=bx1
    go_wp2_with (go_at_call 27;refine (hs _).mono ?_;rintro e w2 ⟨rfl,rfl⟩)
    go_ret
    exact ⟨Q0g HN.out,HB1.out⟩
  ·have hst':(decide (0≤st) && decide (st≤100000))=false:=by simpa using hst
   have hs:=fun w=> hst' ▸ Q3P st w
   have HN:=Q00 (Q14 (a:=a) (b:=b) (f:=f) (s:=s) (n:=len) (g:=g) (pl:=pl) (st:=st) (fun q=> hst ⟨q.2.2.2.2.2.1,q.2.2.2.2.2.2.1⟩))
   go_enter Try.func28,Try.ntmps28
   go_wp2_with fail
   generalize (w.alloc (.cells #[.int .i64 a,.int .i64 b,.int .i64 f,.int .i64 s,.slice o len cap,.slice og g.length cg,.int .i64 pl,.int .i64 st] 34))=w0 at *
   refine (hp _).mono ?_
   rintro e w1 ⟨rfl,hb1⟩
   have bx1:=bx.kept hb1 hz
   have HB1:=Q00 (hb0.trans (hb1.mono (Nat.le_of_lt hz)))
   clear hb0 hb1 hp hz bx hG
   obtain ⟨x0,x1,x2,x3,x4,x5,x6,x7⟩:=bx1
   go_wp2_with (go_at_call 27;refine (hs _).mono ?_;rintro e w2 ⟨rfl,rfl⟩)
   go_ret
   exact ⟨Q0g HN.out,HB1.out⟩
 ·rw [Bool.eq_false_iff.2 h1] at hp
  have HN:=Q00 (Q14 (a:=a) (b:=b) (f:=f) (s:=s) (n:=len) (g:=g) (pl:=pl) (st:=st) (fun q=> h1 q.1))
  go_enter Try.func28,Try.ntmps28
  go_wp2_with fail
  generalize (w.alloc (.cells #[.int .i64 a,.int .i64 b,.int .i64 f,.int .i64 s,.slice o len cap,.slice og g.length cg,.int .i64 pl,.int .i64 st] 34))=w0 at *
  refine (hp _).mono ?_
  rintro e w1 ⟨rfl,hb1⟩
  have HB1:=Q00 (hb0.trans (hb1.mono (Nat.le_of_lt hz)))
  clear hb0 hb1 hp hz bx hG
  go_wp2
  go_ret
  exact ⟨Q0g HN.out,HB1.out⟩
theorem Q3z {a b f s:Int} {n:Nat} {g:List (Int × Int)} {pl st:Int} (h:Q0o a b f s n g pl st=true):Q0k a b f s n=true∧1≤(g.length:Int)∧(g.length:Int)≤24∧0≤pl∧pl < (g.length:Int)∧0≤st∧st≤100000:=by
 have h1:Q58 a b f s n g.length pl st=true:=by unfold Q0o at h;cases hh:Q58 a b f s n g.length pl st <;> simp_all
 have:=Q2a.1 h1
 exact ⟨this.1,this.2.1,this.2.2.1,this.2.2.2.1,this.2.2.2.2.1,this.2.2.2.2.2.1,this.2.2.2.2.2.2.1⟩
theorem Q0e {W:World} {B:Nat} {c:Array Value} {t:TypeId} (h:W.heap[B]? =some (.cells c t (0,0))) (j:Nat):W.frozen? ⟨B,j,none⟩=false:=by
 simp [World.frozen?,h]
end Go.Proofs.Ytljogkoaaidlcaa
