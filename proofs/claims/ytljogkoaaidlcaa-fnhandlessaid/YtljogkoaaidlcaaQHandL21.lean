/- Several texts in one: SRoute, SCarr2, SHere. -/
import Derived.Test.YtljogkoaaidlcaaQHandL18
import Derived.Test.YtljogkoaaidlcaaQHandL20
namespace Go.Proofs.Ytljogkoaaidlcaa
open Go.ChangeShapes Go.WideShapes Go.ChangeAt Go.RowKit Go.Joins Go.Shelf
set_option linter.unusedVariables false
set_option linter.unusedSimpArgs false
set_option maxRecDepth 100000
set_option maxHeartbeats 40000000
attribute [local go_sem] Oper.semAt_some
def Q2B (o : Option Bool) (x : Q7D) : Option Bool :=
  match o with
  | none => none
  | some h => if Q15 x.1.1 x.1.2 && !(h && x.1.2 == 0) then some (x.1.2 == 1) else none
def Q5T (l : List Q7D) : Option Bool := l.foldl Q2B (some false)
theorem Q4W (l : List Q7D) (x : Q7D) : Q5T (l ++ [x]) = Q2B (Q5T l) x := by simp [Q5T]
theorem Q3Y (q : Nat → Q7D) (k m : Nat) (h : Q5T (upto q k) = none) (hk : k ≤ m) : Q5T (upto q m) = none := by
  induction m with
  | zero => have : k = 0 := by omega
            subst this; exact h
  | succ m ih =>
    rcases Nat.lt_succ_iff_lt_or_eq.1 (Nat.lt_succ_of_le hk) with h1 | h1
    · rw [Q3r, Q4W, ih (by omega)]; rfl
    · rw [← h1]; exact h
def Q37 (op : Bool) (g : List (Int × Int)) (pl : Int) : Bool :=
  match Q5T (upto (Q24 g pl) g.length) with
  | none => false
  | some h => !h || op
theorem Q1V {B : Nat} {W W' : World} (h : Below W.heap.size W W') : KeepsFrom B W W' :=
  ⟨h.size, fun i o _ hi _ => (h.block i (Array.getElem?_eq_some_iff.1 hi).1).trans hi⟩
theorem Q01 {W : World} {B : Nat} {c : Array Value} {t : TypeId} (h : W.heap[B]? = some (.cells c t (0, 0))) (j : Nat) (u : Value) (hj : c[j]? = some u) : W.cell? ⟨B, j, none⟩ = some u := by
  simp [World.cell?, h, hj]
theorem Q5e (a b f s : Int) (o : Option Addr) (len cap bb off cg : Nat) (g : List (Int × Int)) (pl st : Int) (w : World) (hl : len ≤ maxLen) (hgl : g.length ≤ 1048576) (hbb : bb < w.heap.size)
    (hcell : ∀ i, i < g.length → w.cell? ⟨bb, off + i * 2, none⟩ = some (.int .i64 (g.getD i (0, 0)).1) ∧ w.cell? ⟨bb, off + i * 2 + 1, none⟩ = some (.int .i64 (g.getD i (0, 0)).2)) :
    Calls Try.prog 51 #[crr a b f s (.slice o len cap) (.slice (some ⟨bb, off, none⟩) g.length cg) pl st] w fun e w' => e = .returned (.bool (Q37 (Q12 a b f s len) g pl)) ∧ Below w.heap.size w w' := by
  refine (callsIn_wide (n := 4)).1 ?_
  refine callsIn_of_wp_marks Try.func51 rfl trivial ?_ rfl
  simp only [Try.ntmps51, List.size_toArray, List.length_cons, List.length_nil, Nat.reduceAdd, Nat.reduceSub, Array.replicate_succ, Array.replicate_zero, List.push_toArray, List.append_toArray, List.nil_append, List.cons_append]
  gi_wp2_with (refine ⟨trivial, ?_⟩; gi_at_call 77; refine (Q7h Fence.wide (4 - 1) trivial rfl _ _ _ _ _ _ _ _ _).mono ?_; rintro e w' ⟨rfl, rfl⟩)
  have hC0 : ((((w.alloc (.cells (Q0v a b f s (.slice o len cap) (.slice (some ⟨bb, off, none⟩) g.length cg) pl st) 34)).alloc (.cells #[.bool false] 4)).alloc (.cells #[.bool false] 4)).alloc (.cells (Q0v a b f s (.slice o len cap) (.slice (some ⟨bb, off, none⟩) g.length cg) pl st) 34)).heap[w.heap.size]? = some (.cells (Q0v a b f s (.slice o len cap) (.slice (some ⟨bb, off, none⟩) g.length cg) pl st) 34 (0, 0)) :=
    (Below.heap_alloc _ _ _ (by simp; omega)).trans ((Below.heap_alloc _ _ _ (by simp; omega)).trans ((Below.heap_alloc _ _ _ (by simp)).trans (World.alloc_heap_new w _)))
  have bR0 : Boxed ((((w.alloc (.cells (Q0v a b f s (.slice o len cap) (.slice (some ⟨bb, off, none⟩) g.length cg) pl st) 34)).alloc (.cells #[.bool false] 4)).alloc (.cells #[.bool false] 4)).alloc (.cells (Q0v a b f s (.slice o len cap) (.slice (some ⟨bb, off, none⟩) g.length cg) pl st) 34)) (w.heap.size + 1) 4 (.bool false) := by
    have := ((Boxed.new (w.alloc (.cells (Q0v a b f s (.slice o len cap) (.slice (some ⟨bb, off, none⟩) g.length cg) pl st) 34)) 4 (.bool false)).alloc (.cells #[.bool false] 4)).alloc (.cells (Q0v a b f s (.slice o len cap) (.slice (some ⟨bb, off, none⟩) g.length cg) pl st) 34)
    simpa only [World.size_alloc] using this
  have bH0 : Boxed ((((w.alloc (.cells (Q0v a b f s (.slice o len cap) (.slice (some ⟨bb, off, none⟩) g.length cg) pl st) 34)).alloc (.cells #[.bool false] 4)).alloc (.cells #[.bool false] 4)).alloc (.cells (Q0v a b f s (.slice o len cap) (.slice (some ⟨bb, off, none⟩) g.length cg) pl st) 34)) (w.heap.size + 1 + 1) 4 (.bool false) := by
    have := (Boxed.new ((w.alloc (.cells (Q0v a b f s (.slice o len cap) (.slice (some ⟨bb, off, none⟩) g.length cg) pl st) 34)).alloc (.cells #[.bool false] 4)) 4 (.bool false)).alloc (.cells (Q0v a b f s (.slice o len cap) (.slice (some ⟨bb, off, none⟩) g.length cg) pl st) 34)
    simpa only [World.size_alloc] using this
  have hS0 : ((((w.alloc (.cells (Q0v a b f s (.slice o len cap) (.slice (some ⟨bb, off, none⟩) g.length cg) pl st) 34)).alloc (.cells #[.bool false] 4)).alloc (.cells #[.bool false] 4)).alloc (.cells (Q0v a b f s (.slice o len cap) (.slice (some ⟨bb, off, none⟩) g.length cg) pl st) 34)).heap[w.heap.size + 1 + 1 + 1]? = some (.cells (Q0v a b f s (.slice o len cap) (.slice (some ⟨bb, off, none⟩) g.length cg) pl st) 34 (0, 0)) := by
    have := World.alloc_heap_new (((w.alloc (.cells (Q0v a b f s (.slice o len cap) (.slice (some ⟨bb, off, none⟩) g.length cg) pl st) 34)).alloc (.cells #[.bool false] 4)).alloc (.cells #[.bool false] 4)) (.cells (Q0v a b f s (.slice o len cap) (.slice (some ⟨bb, off, none⟩) g.length cg) pl st) 34)
    simpa only [World.size_alloc] using this
  have hB0 : Below w.heap.size w ((((w.alloc (.cells (Q0v a b f s (.slice o len cap) (.slice (some ⟨bb, off, none⟩) g.length cg) pl st) 34)).alloc (.cells #[.bool false] 4)).alloc (.cells #[.bool false] 4)).alloc (.cells (Q0v a b f s (.slice o len cap) (.slice (some ⟨bb, off, none⟩) g.length cg) pl st) 34)) :=
    ((((Below.refl _ w).alloc (Kaq _) _).alloc (by simp) _).alloc (by simp; omega) _).alloc (by simp; omega) _
  have hsz : ((((w.alloc (.cells (Q0v a b f s (.slice o len cap) (.slice (some ⟨bb, off, none⟩) g.length cg) pl st) 34)).alloc (.cells #[.bool false] 4)).alloc (.cells #[.bool false] 4)).alloc (.cells (Q0v a b f s (.slice o len cap) (.slice (some ⟨bb, off, none⟩) g.length cg) pl st) 34)).heap.size = w.heap.size + 4 := by simp
  obtain ⟨W0, hW0⟩ : ∃ W0, (((w.alloc (.cells (Q0v a b f s (.slice o len cap) (.slice (some ⟨bb, off, none⟩) g.length cg) pl st) 34)).alloc (.cells #[.bool false] 4)).alloc (.cells #[.bool false] 4)).alloc (.cells (Q0v a b f s (.slice o len cap) (.slice (some ⟨bb, off, none⟩) g.length cg) pl st) 34) = W0 := ⟨_, rfl⟩
  rw [hW0] at hC0 bR0 bH0 hS0 hB0 hsz ⊢
  clear hW0
  have hcellW : ∀ j, j < g.length → W0.cell? ⟨bb, off + j * 2, none⟩ = some (.int .i64 (g[j]?.getD (0, 0)).1) ∧ W0.cell? ⟨bb, off + j * 2 + 1, none⟩ = some (.int .i64 (g[j]?.getD (0, 0)).2) := fun j hj => by
    have := hcell j hj
    rw [List.getD_eq_getElem?_getD] at this
    exact ⟨(hB0.cell (p := ⟨bb, off + j * 2, none⟩) hbb).trans this.1, (hB0.cell (p := ⟨bb, off + j * 2 + 1, none⟩) hbb).trans this.2⟩
  refine wpIn_rangeFunc_ownH rfl (by decide) (gf := 99) (lb := #[.pointer (some ⟨w.heap.size + 1 + 1 + 1, 0, none⟩)]) rfl trivial (enters_of Try.func99 (by kernel_rfl) rfl)
    (Q5h Fence.wide (4 - 1) trivial rfl (by decide) (w.heap.size + 1 + 1 + 1) w.heap.size bb off cg g pl hgl W0 (by omega) hbb (by omega) (Q01 hS0 5 _ rfl) (Q01 hS0 6 _ rfl) hcellW)
    (fun h k => KpB.trans h k)
    (fun W l ob ob' hl' hw' hn1 hn2 => ⟨belowK_b (w := W0) (by omega) W l ob ob' hl' hw' hn1 hn2, (grownBy_putObj' W l ob').block _ (by have := (Array.getElem?_eq_some_iff.1 hw').1; omega) (by simp; omega)⟩)
    (Below.refl _ _) (fun _ => rfl)
    (fun pre W => ((∃ h, Q5T pre = some h ∧ Boxed W (w.heap.size + 1 + 1) 4 (.bool h)) ∧ Boxed W (w.heap.size + 1) 4 (.bool false) ∧ W.heap[w.heap.size]? = some (.cells (Q0v a b f s (.slice o len cap) (.slice (some ⟨bb, off, none⟩) g.length cg) pl st) 34 (0, 0)) ∧ w.heap.size + 4 ≤ W.heap.size) ∧ Below w.heap.size w W)
    (fun c pre W => (c = .ret ∧ Q5T pre = none ∧ Boxed W (w.heap.size + 1) 4 (.bool false)) ∧ Below w.heap.size w W)
    (OwnFrom.and (Own.from (fun q A B row hs hg hr => by obtain ⟨⟨h, e1, e2⟩, e3, e4, e5⟩ := hs; exact ⟨⟨h, e1, Q29 e2 hg hr⟩, Q29 e3 hg hr, Q29 e4 hg hr, Kdq e5 hg.size⟩) _) (ownFrom_below (Kaq _) (by omega)))
    (fun c => OwnFrom.and (Own.from (fun q A B row hs hg hr => by obtain ⟨e0, e1, e2⟩ := hs; exact ⟨e0, e1, Q29 e2 hg hr⟩) _) (ownFrom_below (Kaq _) (by omega)))
    ⟨⟨⟨false, rfl, bH0⟩, bR0, hC0, by omega⟩, hB0⟩
    (fun x a' W => ∃ Bx, w.heap.size + 1 + 1 + 1 < Bx ∧ W.heap[Bx]? = some (.cells #[.int .i64 x.1.1, .int .i64 x.1.2] 41 (0, 0)) ∧ a' = { tmps := #[crr a b f s (.slice o len cap) (.slice (some ⟨bb, off, none⟩) g.length cg) pl st, .pointer (some ⟨w.heap.size, 0, none⟩), .pointer (some ⟨w.heap.size + 1, 0, none⟩), .pointer (some ⟨w.heap.size + 1 + 1, 0, none⟩), .pointer (some ⟨Bx, 0, none⟩), .agg #[.int .i64 a, .int .i64 b, .int .i64 f, .int .i64 s, .slice o len cap, .slice (some ⟨bb, off, none⟩) g.length cg, .int .i64 pl, .int .i64 st], .func (.func 99) #[] #[.pointer (some ⟨w.heap.size + 1 + 1 + 1, 0, none⟩)], seg x.1.1 x.1.2, .bool x.2, undef, undef, undef, undef, undef, undef, undef, undef, undef, undef, undef, undef, undef, undef, undef, undef, undef, undef, undef, undef, undef], defers := [] })
    (fun x a' _ X Y row hs hg hr => by obtain ⟨Bx, e1, e2, e3⟩ := hs; exact ⟨Bx, e1, Q29 e2 hg (fun r e => (hr r e).2), e3⟩)
    ?assign ?body ?done ?stop
  case assign =>
    rintro l pre x W K ⟨⟨⟨h, e1, e2⟩, e3, e4, e5⟩, hB⟩ hK
    gi_wp2
    refine hK _ _ ((KeepsOthers.alloc _ _).from _) ⟨(Below.refl _ W).alloc hB.size _, heap_alloc_old W _ _ (by omega)⟩ ⟨⟨⟨h, e1, e2.alloc _⟩, e3.alloc _, (heap_alloc_old W _ _ (by omega)).trans e4, Kdq e5 (by simp)⟩, hB.alloc hB.size _⟩ ⟨W.heap.size, by omega, World.alloc_heap_new W _, rfl⟩
  case body =>
    rintro l pre ⟨⟨x1, x2⟩, d⟩ a' W hl ⟨r, hr⟩ ⟨⟨⟨h, e1, e2⟩, e3, e4, e5⟩, hB⟩ ⟨Bx, hBx, hX, rfl⟩ hlt
    dsimp only at hX
    have cX0 := Q01 hX 0 _ rfl
    have cX1 := Q01 hX 1 _ rfl
    have hso := Q4o x1 x2 W
    have HRUN := Q00 (Q4W pre ((x1, x2), d))
    rw [e1] at HRUN
    cases hs : Q15 x1 x2 with
    | false =>
      rw [hs] at hso
      have HN : Hid (Q5T (pre ++ [((x1, x2), d)]) = none) := by unfold Hid; rw [HRUN.out]; simp [Q2B, hs]
      clear HRUN
      gi_wp2_with (refine ⟨trivial, ?_⟩; gi_at_call 78; refine (CallsIn.inRound l (callsIn_wide.2 hso)).mono ?_; rintro e W2 ⟨rfl, hb2⟩; have bR2 : Boxed W2 (w.heap.size + 1) 4 (.bool false) := (hb2.block _ e3.lt).trans e3; have cR2 := bR2.cell; have fR2 := bR2.frozen)
      exact ⟨(Q1V hb2).trans ((KeepsOthers.setCell _ _ _).from _), ⟨rfl, HN.out, bR2.set _⟩, (hB.trans (hb2.mono hB.size)).setCell (p := ⟨w.heap.size + 1, 0, none⟩) (by simp) _⟩
    | true =>
      rw [hs] at hso
      cases h with
      | false =>
        have HY : Hid (Q5T (pre ++ [((x1, x2), d)]) = some (x2 == 1)) := by unfold Hid; rw [HRUN.out]; simp [Q2B, hs]
        clear HRUN
        gi_wp2_with (refine ⟨trivial, ?_⟩; gi_at_call 78; refine (CallsIn.inRound l (callsIn_wide.2 hso)).mono ?_; rintro e W2 ⟨rfl, hb2⟩; have bR2 : Boxed W2 (w.heap.size + 1) 4 (.bool false) := (hb2.block _ e3.lt).trans e3; have cR2 := bR2.cell; have fR2 := bR2.frozen; have bH2 : Boxed W2 (w.heap.size + 1 + 1) 4 _ := (hb2.block _ e2.lt).trans e2; have cH2 := bH2.cell; have fH2 := bH2.frozen; have hX2 := (hb2.block _ (Array.getElem?_eq_some_iff.1 hX).1).trans hX; have cX2 := Q01 hX2 1 _ rfl)
        exact ⟨(Q1V hb2).trans ((KeepsOthers.setCell _ _ _).from _), ⟨(hb2.mono hB.size).setCell (p := ⟨w.heap.size + 1 + 1, 0, none⟩) (by simp; omega) _, (Below.heap_setCell _ _ _ _ (by simp)).trans (hb2.block _ (by omega))⟩, ⟨⟨_, HY.out, bH2.set _⟩, (Below.heap_setCell _ _ _ _ (by simp)).trans bR2, (Below.heap_setCell _ _ _ _ (by simp; omega)).trans ((hb2.block _ (by omega)).trans e4), by have := hb2.size; simp; omega⟩, (hB.trans (hb2.mono hB.size)).setCell (p := ⟨w.heap.size + 1 + 1, 0, none⟩) (by simp; omega) _⟩
      | true =>
        by_cases hx : x2 = 0
        · subst hx
          have HN : Hid (Q5T (pre ++ [((x1, 0), d)]) = none) := by unfold Hid; rw [HRUN.out]; simp [Q2B, hs]
          clear HRUN
          gi_wp2_with (refine ⟨trivial, ?_⟩; gi_at_call 78; refine (CallsIn.inRound l (callsIn_wide.2 hso)).mono ?_; rintro e W2 ⟨rfl, hb2⟩; have bR2 : Boxed W2 (w.heap.size + 1) 4 (.bool false) := (hb2.block _ e3.lt).trans e3; have cR2 := bR2.cell; have fR2 := bR2.frozen; have bH2 : Boxed W2 (w.heap.size + 1 + 1) 4 _ := (hb2.block _ e2.lt).trans e2; have cH2 := bH2.cell; have fH2 := bH2.frozen; have hX2 := (hb2.block _ (Array.getElem?_eq_some_iff.1 hX).1).trans hX; have cX2 := Q01 hX2 1 _ rfl)
          exact ⟨(Q1V hb2).trans ((KeepsOthers.setCell _ _ _).from _), ⟨rfl, HN.out, bR2.set _⟩, (hB.trans (hb2.mono hB.size)).setCell (p := ⟨w.heap.size + 1, 0, none⟩) (by simp) _⟩
        · have hx' : (x2 == 0) = false := by simp [hx]
          have HY : Hid (Q5T (pre ++ [((x1, x2), d)]) = some (x2 == 1)) := by unfold Hid; rw [HRUN.out]; simp [Q2B, hs, hx]
          clear HRUN
          gi_wp2_with (refine ⟨trivial, ?_⟩; gi_at_call 78; refine (CallsIn.inRound l (callsIn_wide.2 hso)).mono ?_; rintro e W2 ⟨rfl, hb2⟩; have bR2 : Boxed W2 (w.heap.size + 1) 4 (.bool false) := (hb2.block _ e3.lt).trans e3; have cR2 := bR2.cell; have fR2 := bR2.frozen; have bH2 : Boxed W2 (w.heap.size + 1 + 1) 4 _ := (hb2.block _ e2.lt).trans e2; have cH2 := bH2.cell; have fH2 := bH2.frozen; have hX2 := (hb2.block _ (Array.getElem?_eq_some_iff.1 hX).1).trans hX; have cX2 := Q01 hX2 1 _ rfl)
          exact ⟨(Q1V hb2).trans ((KeepsOthers.setCell _ _ _).from _), ⟨(hb2.mono hB.size).setCell (p := ⟨w.heap.size + 1 + 1, 0, none⟩) (by simp; omega) _, (Below.heap_setCell _ _ _ _ (by simp)).trans (hb2.block _ (by omega))⟩, ⟨⟨_, HY.out, bH2.set _⟩, (Below.heap_setCell _ _ _ _ (by simp)).trans bR2, (Below.heap_setCell _ _ _ _ (by simp; omega)).trans ((hb2.block _ (by omega)).trans e4), by have := hb2.size; simp; omega⟩, (hB.trans (hb2.mono hB.size)).setCell (p := ⟨w.heap.size + 1 + 1, 0, none⟩) (by simp; omega) _⟩
  case done =>
    rintro D ys W hD rfl ⟨⟨⟨h, e1, e2⟩, e3, e4, e5⟩, hB⟩ hK
    have HE : Hid ((!h || Q12 a b f s len) = Q37 (Q12 a b f s len) g pl) := by unfold Hid Q37; rw [e1]
    have hop := Q1T a b f s o len cap W hl
    have cH := e2.cell
    have cR := e3.cell
    have fR := e3.frozen
    have c0 := Q01 e4 0 _ rfl
    have c1 := Q01 e4 1 _ rfl
    have c2 := Q01 e4 2 _ rfl
    have c3 := Q01 e4 3 _ rfl
    have c4 := Q01 e4 4 _ rfl
    cases h with
    | false =>
      gi_wp2
      refine ⟨trivial, ?_⟩
      gi_wp2
      have hK' := (KeepsOthers.setCell W ⟨w.heap.size + 1, 0, none⟩ (.bool true)).same D _ hK rfl
      refine ⟨by simp, .inl ⟨_, _, rfl, run_takeDeferred hK', ?_⟩⟩
      have hc5 := cell_kept (World.cell?_setCell_same' W ⟨w.heap.size + 1, 0, none⟩ (.bool true) (by rw [cR]; rfl)) (grownBy_putObj' _ D (.deferred none)) (fun r e => by cases e; exact ⟨_, hK', rfl⟩)
      refine ⟨.bool true, ?_, Q0i HE.out, (hB.setCell (p := ⟨w.heap.size + 1, 0, none⟩) (by simp) _).trans (belowK_b (w := w) (Kaq _) _ D _ _ (by omega) hK' rfl rfl)⟩
      simp [results, Try.f51, go_sem, hc5]
    | true =>
      generalize hq : Q12 a b f s len = op at hop
      have HQ : Hid (op = Q37 (Q12 a b f s len) g pl) := hq.symm.trans HE.out
      clear hq
      gi_wp2_with (refine ⟨trivial, ?_⟩; gi_at_call 11; refine (callsIn_wide.2 hop).mono ?_; rintro e W2 ⟨rfl, hb2⟩; have bR2 : Boxed W2 (w.heap.size + 1) 4 (.bool false) := (hb2.block _ e3.lt).trans e3; have cR2 := bR2.cell; have fR2 := bR2.frozen)
      have hK2 := (hb2.block D (Array.getElem?_eq_some_iff.1 hK).1).trans hK
      have hB2 := hB.trans (hb2.mono hB.size)
      have hK' := (KeepsOthers.setCell W2 ⟨w.heap.size + 1, 0, none⟩ (.bool op)).same D _ hK2 rfl
      refine ⟨by simp, .inl ⟨_, _, rfl, run_takeDeferred hK', ?_⟩⟩
      have hc5 := cell_kept (World.cell?_setCell_same' W2 ⟨w.heap.size + 1, 0, none⟩ (.bool op) (by rw [cR2]; rfl)) (grownBy_putObj' _ D (.deferred none)) (fun r e => by cases e; exact ⟨_, hK', rfl⟩)
      refine ⟨.bool op, ?_, Q0i HQ.out, (hB2.setCell (p := ⟨w.heap.size + 1, 0, none⟩) (by simp) _).trans (belowK_b (w := w) (Kaq _) _ D _ _ (by omega) hK' rfl rfl)⟩
      simp [results, Try.f51, go_sem, hc5]
  case stop =>
    rintro D c pre W hD ⟨k, hk, rfl⟩ ⟨⟨rfl, hrun, bR⟩, hB⟩ hK
    have HE : Hid (false = Q37 (Q12 a b f s len) g pl) := by unfold Hid Q37; rw [Q3Y _ k _ hrun hk]
    gi_wp2
    refine ⟨by simp, .inl ⟨_, _, rfl, run_takeDeferred hK, ?_⟩⟩
    have hc5 := cell_kept bR.cell (grownBy_putObj' _ D (.deferred none)) (fun r e => by cases e; exact ⟨_, hK, rfl⟩)
    refine ⟨.bool false, ?_, Q0i HE.out, hB.trans (belowK_b (w := w) (Kaq _) W D _ _ (by omega) hK rfl rfl)⟩
    simp [results, Try.f51, go_sem, hc5]
end Go.Proofs.Ytljogkoaaidlcaa
namespace Go.Proofs.Ytljogkoaaidlcaa
open Go.ChangeShapes Go.WideShapes Go.ChangeAt Go.RowKit Go.Joins
set_option linter.unusedVariables false
set_option linter.unusedSimpArgs false
set_option maxRecDepth 100000
set_option maxHeartbeats 40000000
def Q2C (o:Option Bool) (p:Int × Int):Option Bool:=Q2B o (p,false)
def Q3N (op:Bool):Option Bool→Bool
 |none=> false
 |some h=> !h||op
theorem Q5C:∀(l:List Q7D) (o:Option Bool),l.foldl Q2B o=(l.map (·.1)).foldl Q2C o
 |[],o=> rfl
 |x::l,o=> by simp only [List.foldl_cons,List.map_cons];rw [Q5C l];cases o <;> rfl
theorem Q7B (g:List (Int × Int)) (pl:Int):(upto (Q24 g pl) g.length).map (·.1)=g:=by
 apply List.ext_getElem
 ·simp [upto]
 ·intro i h1 h2
  simp [upto,Q24,h2]
theorem Q2b (l:List (Int × Int)):l.foldl Q2C none=none:=by induction l with
 |nil=> rfl
 |cons x l ih=> exact ih
theorem Q3v {x y:Int} (h:Q15 x y=true):y=0∨y=1:=by have:=Q2r.1 h;omega
theorem Q3n:∀l:List (Int × Int),Q3N false (l.foldl Q2C (some true))=false
 |[]=> rfl
 |(x,y)::l=> by
  rw [List.foldl_cons]
  cases hs:Q15 x y with
  |false=> simp [Q2C,Q2B,hs,Q2b,Q3N]
  |true=>
   rcases Q3v hs with h|h
   ·subst h;simp [Q2C,Q2B,Q2b,Q3N]
   ·subst h
    have:Q2C (some true) (x,1)=some true:=by simp [Q2C,Q2B,hs]
    rw [this]
    exact Q3n l
theorem Q2W (op:Bool):∀(l:List (Int × Int)) (h:Bool),(h=true→op=true)→Q0K op (if h then 1 else 0) l=Q3N op (l.foldl Q2C (some h))
 |[],h,hh=> by cases h <;> cases op <;> simp_all [Q0K,Q3N]
 |(x,y)::l,h,hh=> by
  rw [List.foldl_cons]
  cases hs:Q15 x y with
  |false=> simp [Q0K,Q2C,Q2B,hs,Q2b,Q3N]
  |true=>
   rcases Q3v hs with hy|hy
   ·subst hy
    cases h with
    |true=> simp [Q0K,Q2C,Q2B,Q2b,Q3N]
    |false=>
     have e:Q2C (some false) (x,0)=some false:=by simp [Q2C,Q2B,hs]
     rw [e,←Q2W op l false (fun h=> by cases h)]
     simp [Q0K,hs]
   ·subst hy
    have e:Q2C (some h) (x,1)=some true:=by simp [Q2C,Q2B,hs]
    rw [e]
    cases op with
    |false=> rw [Q3n];simp [Q0K]
    |true=>
     rw [←Q2W true l true (fun _=> rfl)]
     cases h <;> simp [Q0K,hs]
theorem Q77 (op:Bool) (g:List (Int × Int)) (pl:Int):Q37 op g pl=Q0K op 0 g:=by
 have h:=Q2W op g false (fun h=> by cases h)
 rw [show (if false=true then (1:Int) else 0)=0 from rfl] at h
 rw [h]
 unfold Q37 Q5T
 rw [Q5C,Q7B]
 cases g.foldl Q2C (some false) <;> rfl
theorem Q6r {a b f s:Int} {n:Nat} (h:Q0l a b f s n=true):Q12 a b f s n=Q1X f:=(Q2g h).symm
theorem Q3A (n:Int) (w:World):Calls Try.prog 27 #[.int .i64 n] w fun e w'=> e=.returned (.bool (decide (0≤n) && decide (n≤100000)))∧w=w':=by
 go_enter Try.func27,Try.ntmps27
 go_wp2
 all_goals go_ret
 all_goals refine ⟨?_,rfl⟩
 all_goals first|(simp [*];done)|(simp;omega)
theorem Q2R (a b f s:Int) (o og:Option Addr) (len cap cg:Nat) (g:List (Int × Int)) (pl st:Int) (w:World) (hl:len≤maxLen) (hgl:g.length≤maxLen) (hG:RdG w og g):
  Calls Try.prog 28 #[crr a b f s (.slice o len cap) (.slice og g.length cg) pl st] w fun e w'=> e=.returned (.bool (Q0q a b f s len g pl st))∧Below w.heap.size w w':=by
 have hgl':=hgl
 unfold maxLen at hgl'
 have hp:=fun w=> Q0Z a b f s o len cap w hl
 have bx:=Q7G w a b f s (.slice o len cap) (.slice og g.length cg) pl st 34
 have hz:w.heap.size < (w.alloc (.cells #[.int .i64 a,.int .i64 b,.int .i64 f,.int .i64 s,.slice o len cap,.slice og g.length cg,.int .i64 pl,.int .i64 st] 34)).heap.size:=by simp
 have hb0:Below w.heap.size w (w.alloc (.cells #[.int .i64 a,.int .i64 b,.int .i64 f,.int .i64 s,.slice o len cap,.slice og g.length cg,.int .i64 pl,.int .i64 st] 34)):=(Below.refl _ _).alloc (Kaq _) _
 by_cases h1:Q0l a b f s len=true
 ·rw [h1] at hp
  by_cases hst:0≤st∧st≤100000
  ·have hst':(decide (0≤st) && decide (st≤100000))=true:=by simp [hst]
   have hs:=fun w=> hst' ▸ Q3A st w
   by_cases h3:(g.length:Int)≤24
   ·by_cases h4:0≤pl
    ·by_cases h5:pl < (g.length:Int)
     ·have HY:=Q00 (Q2x (Q21.2 ⟨h1,show 1≤(g.length:Int) by omega,h3,h4,h5,hst.1,hst.2,trivial⟩))
      rcases hG with hG|⟨bb,off,rfl,hbb,hcell⟩
      ·subst hG;simp at h5;omega
      have hn3:¬(24 < (g.length:Int)):=by omega
      have hn5:¬((g.length:Int)≤pl):=by omega
      go_enter Try.func28,Try.ntmps28
      go_wp2_with fail
      generalize (w.alloc (.cells #[.int .i64 a,.int .i64 b,.int .i64 f,.int .i64 s,.slice o len cap,.slice (some ⟨bb,off,none⟩) g.length cg,.int .i64 pl,.int .i64 st] 34))=w0 at *
      refine (hp _).mono ?_
      rintro e w1 ⟨rfl,hb1⟩
      have bx1:=bx.kept hb1 hz
      have HB1:=Q00 (hb0.trans (hb1.mono (Nat.le_of_lt hz)))
      clear hb0 hb1 hp hz bx
      obtain ⟨x0,x1,x2,x3,x4,x5,x6,x7⟩:=bx1
      go_wp2_with (go_at_call 27;refine (hs _).mono ?_;rintro e w2 ⟨rfl,rfl⟩)
      refine (Q5e a b f s o len cap bb off cg g pl st w1 hl (by omega) (Kbq hbb HB1.out.size) (fun i hi=> ⟨(HB1.out.cell (p:=⟨bb,off+i * 2,none⟩) hbb).trans (hcell i hi).1,(HB1.out.cell (p:=⟨bb,off+i * 2+1,none⟩) hbb).trans (hcell i hi).2⟩)).mono ?_
      rw [Q6r h1,Q77]
      rintro e w3 ⟨rfl,hb3⟩
      clear hcell x0 x1 x2 x3 x4 x5 x6 x7
      go_wp2
      go_ret
      exact ⟨Q0i HY.out,HB1.out.trans (hb3.mono HB1.out.size)⟩
     ·have HN:=Q00 (Q17 (a:=a) (b:=b) (f:=f) (s:=s) (n:=len) (g:=g) (pl:=pl) (st:=st) (fun q=> h5 q.2.2.2.2.1))
      have hn3:¬(24 < (g.length:Int)):=by omega
      go_enter Try.func28,Try.ntmps28
      go_wp2_with fail
      generalize (w.alloc (.cells #[.int .i64 a,.int .i64 b,.int .i64 f,.int .i64 s,.slice o len cap,.slice og g.length cg,.int .i64 pl,.int .i64 st] 34))=w0 at *
      refine (hp _).mono ?_
      rintro e w1 ⟨rfl,hb1⟩
      have bx1:=bx.kept hb1 hz
      have HB1:=Q00 (hb0.trans (hb1.mono (Nat.le_of_lt hz)))
      clear hb0 hb1 hp hz bx hG
      obtain ⟨x0,x1,x2,x3,x4,x5,x6,x7⟩:=bx1
      go_wp2_with (go_at_call 27;refine (hs _).mono ?_;rintro e w2 ⟨rfl,rfl⟩)
      go_ret
      exact ⟨Q0i HN.out,HB1.out⟩
    ·have HN:=Q00 (Q17 (a:=a) (b:=b) (f:=f) (s:=s) (n:=len) (g:=g) (pl:=pl) (st:=st) (fun q=> h4 q.2.2.2.1))
     have hn3:¬(24 < (g.length:Int)):=by omega
     go_enter Try.func28,Try.ntmps28
     go_wp2_with fail
     generalize (w.alloc (.cells #[.int .i64 a,.int .i64 b,.int .i64 f,.int .i64 s,.slice o len cap,.slice og g.length cg,.int .i64 pl,.int .i64 st] 34))=w0 at *
     refine (hp _).mono ?_
     rintro e w1 ⟨rfl,hb1⟩
     have bx1:=bx.kept hb1 hz
     have HB1:=Q00 (hb0.trans (hb1.mono (Nat.le_of_lt hz)))
     clear hb0 hb1 hp hz bx hG
     obtain ⟨x0,x1,x2,x3,x4,x5,x6,x7⟩:=bx1
     go_wp2_with (go_at_call 27;refine (hs _).mono ?_;rintro e w2 ⟨rfl,rfl⟩)
     go_ret
     exact ⟨Q0i HN.out,HB1.out⟩
   ·have HN:=Q00 (Q17 (a:=a) (b:=b) (f:=f) (s:=s) (n:=len) (g:=g) (pl:=pl) (st:=st) (fun q=> h3 q.2.2.1))
    have hn3:(24 < (g.length:Int)):=by omega
    go_enter Try.func28,Try.ntmps28
    go_wp2_with fail
    generalize (w.alloc (.cells #[.int .i64 a,.int .i64 b,.int .i64 f,.int .i64 s,.slice o len cap,.slice og g.length cg,.int .i64 pl,.int .i64 st] 34))=w0 at *
    refine (hp _).mono ?_
    rintro e w1 ⟨rfl,hb1⟩
    have bx1:=bx.kept hb1 hz
    have HB1:=Q00 (hb0.trans (hb1.mono (Nat.le_of_lt hz)))
    clear hb0 hb1 hp hz bx hG
    obtain ⟨x0,x1,x2,x3,x4,x5,x6,x7⟩:=bx1
    go_wp2_with (go_at_call 27;refine (hs _).mono ?_;rintro e w2 ⟨rfl,rfl⟩)
    go_ret
    exact ⟨Q0i HN.out,HB1.out⟩
  ·have hst':(decide (0≤st) && decide (st≤100000))=false:=by simpa using hst
   have hs:=fun w=> hst' ▸ Q3A st w
   have HN:=Q00 (Q17 (a:=a) (b:=b) (f:=f) (s:=s) (n:=len) (g:=g) (pl:=pl) (st:=st) (fun q=> hst ⟨q.2.2.2.2.2.1,q.2.2.2.2.2.2.1⟩))
   go_enter Try.func28,Try.ntmps28
   go_wp2_with fail
   generalize (w.alloc (.cells #[.int .i64 a,.int .i64 b,.int .i64 f,.int .i64 s,.slice o len cap,.slice og g.length cg,.int .i64 pl,.int .i64 st] 34))=w0 at *
   refine (hp _).mono ?_
   rintro e w1 ⟨rfl,hb1⟩
   have bx1:=bx.kept hb1 hz
   have HB1:=Q00 (hb0.trans (hb1.mono (Nat.le_of_lt hz)))
   clear hb0 hb1 hp hz bx hG
   obtain ⟨x0,x1,x2,x3,x4,x5,x6,x7⟩:=bx1
   go_wp2_with (go_at_call 27;refine (hs _).mono ?_;rintro e w2 ⟨rfl,rfl⟩)
   go_ret
   exact ⟨Q0i HN.out,HB1.out⟩
 ·rw [Bool.eq_false_iff.2 h1] at hp
  have HN:=Q00 (Q17 (a:=a) (b:=b) (f:=f) (s:=s) (n:=len) (g:=g) (pl:=pl) (st:=st) (fun q=> h1 q.1))
  go_enter Try.func28,Try.ntmps28
  go_wp2_with fail
  generalize (w.alloc (.cells #[.int .i64 a,.int .i64 b,.int .i64 f,.int .i64 s,.slice o len cap,.slice og g.length cg,.int .i64 pl,.int .i64 st] 34))=w0 at *
  refine (hp _).mono ?_
  rintro e w1 ⟨rfl,hb1⟩
  have HB1:=Q00 (hb0.trans (hb1.mono (Nat.le_of_lt hz)))
  clear hb0 hb1 hp hz bx hG
  go_wp2
  go_ret
  exact ⟨Q0i HN.out,HB1.out⟩
theorem Q3q {a b f s:Int} {n:Nat} {g:List (Int × Int)} {pl st:Int} (h:Q0q a b f s n g pl st=true):Q0l a b f s n=true∧1≤(g.length:Int)∧(g.length:Int)≤24∧0≤pl∧pl < (g.length:Int)∧0≤st∧st≤100000:=by
 have h1:Q4x a b f s n g.length pl st=true:=by unfold Q0q at h;cases hh:Q4x a b f s n g.length pl st <;> simp_all
 have:=Q21.1 h1
 exact ⟨this.1,this.2.1,this.2.2.1,this.2.2.2.1,this.2.2.2.2.1,this.2.2.2.2.2.1,this.2.2.2.2.2.2.1⟩
theorem put2 {w:World} {B:Nat} {u v q0 q1:Value} (h0:w.cell? ⟨B,0,none⟩=some q0) (h1:w.cell? ⟨B,1,none⟩=some q1):
  ((w.setCell ⟨B,0,none⟩ u).setCell ⟨B,1,none⟩ v).cell? ⟨B,0,none⟩=some u∧((w.setCell ⟨B,0,none⟩ u).setCell ⟨B,1,none⟩ v).cell? ⟨B,1,none⟩=some v:=
 ⟨(World.cell?_setCell_other _ _ _ _ (by simp)).trans (World.cell?_setCell_same _ _ _ h0),World.cell?_setCell_same _ _ _ ((World.cell?_setCell_other _ _ _ _ (by simp)).trans h1)⟩
theorem Q03 {W:World} {B:Nat} {c:Array Value} {t:TypeId} (h:W.heap[B]? =some (.cells c t (0,0))) (j:Nat):W.frozen? ⟨B,j,none⟩=false:=by
 simp [World.frozen?,h]
end Go.Proofs.Ytljogkoaaidlcaa
