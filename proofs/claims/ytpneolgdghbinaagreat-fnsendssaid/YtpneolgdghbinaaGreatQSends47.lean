/- Several texts in one: SRoute, SCarr2, SHere. -/
import Derived.Test.YtpneolgdghbinaaGreatQSends46
namespace Go.Proofs.YtpneolgdghbinaaGreat
open Go.ChangeShapes Go.WideShapes Go.ChangeAt Go.RowKit Go.Joins Go.Shelf
set_option linter.unusedVariables false
set_option linter.unusedSimpArgs false
set_option maxRecDepth 100000
set_option maxHeartbeats 40000000
attribute [local go_sem] Oper.semAt_some
def Q4G (o : Option Bool) (x : Qaz) : Option Bool :=
  match o with
  | none => none
  | some h => if Q1K x.1.1 x.1.2 && !(h && x.1.2 == 0) then some (x.1.2 == 1) else none
def Qcz (l : List Qaz) : Option Bool := l.foldl Q4G (some false)
theorem Q8R (l : List Qaz) (x : Qaz) : Qcz (l ++ [x]) = Q4G (Qcz l) x := by simp [Qcz]
theorem Q7q (q : Nat → Qaz) (k m : Nat) (h : Qcz (upto q k) = none) (hk : k ≤ m) : Qcz (upto q m) = none := by
  induction m with
  | zero => have : k = 0 := by omega
            subst this; exact h
  | succ m ih =>
    rcases Nat.lt_succ_iff_lt_or_eq.1 (Nat.lt_succ_of_le hk) with h1 | h1
    · rw [Q51, Q8R, ih (by omega)]; rfl
    · rw [← h1]; exact h
def Q63 (op : Bool) (g : List (Int × Int)) (pl : Int) : Bool :=
  match Qcz (upto (Q2F g pl) g.length) with
  | none => false
  | some h => !h || op
theorem Q2E {B : Nat} {W W' : World} (h : Below W.heap.size W W') : KeepsFrom B W W' :=
  ⟨h.size, fun i o _ hi _ => (h.block i (Array.getElem?_eq_some_iff.1 hi).1).trans hi⟩
theorem Q0y {W : World} {B : Nat} {c : Array Value} {t : TypeId} (h : W.heap[B]? = some (.cells c t (0, 0))) (j : Nat) (u : Value) (hj : c[j]? = some u) : W.cell? ⟨B, j, none⟩ = some u := by
  simp [World.cell?, h, hj]
theorem Qa8 (a b f s : Int) (o : Option Addr) (len cap bb off cg : Nat) (g : List (Int × Int)) (pl st : Int) (w : World) (hl : len ≤ maxLen) (hgl : g.length ≤ 1048576) (hbb : bb < w.heap.size)
    (hcell : ∀ i, i < g.length → w.cell? ⟨bb, off + i * 2, none⟩ = some (.int .i64 (g.getD i (0, 0)).1) ∧ w.cell? ⟨bb, off + i * 2 + 1, none⟩ = some (.int .i64 (g.getD i (0, 0)).2)) :
    Calls Tryz.prog 58 #[crr a b f s (.slice o len cap) (.slice (some ⟨bb, off, none⟩) g.length cg) pl st] w fun e w' => e = .returned (.bool (Q63 (Q2k a b f s len) g pl)) ∧ Below w.heap.size w w' := by
  refine (callsIn_wide (n := 4)).1 ?_
  refine callsIn_of_wp_marks Tryz.func58 rfl trivial ?_ rfl
  simp only [Tryz.ntmps58, List.size_toArray, List.length_cons, List.length_nil, Nat.reduceAdd, Nat.reduceSub, Array.replicate_succ, Array.replicate_zero, List.push_toArray, List.append_toArray, List.nil_append, List.cons_append]
  gi_wp2_with (refine ⟨trivial, ?_⟩; gi_at_call 99; refine (Qbk Fence.wide (4 - 1) trivial rfl _ _ _ _ _ _ _ _ _).mono ?_; rintro e w' ⟨rfl, rfl⟩)
  have hC0 : ((((w.alloc (.cells (Q0w a b f s (.slice o len cap) (.slice (some ⟨bb, off, none⟩) g.length cg) pl st) 58)).alloc (.cells #[.bool false] 4)).alloc (.cells #[.bool false] 4)).alloc (.cells (Q0w a b f s (.slice o len cap) (.slice (some ⟨bb, off, none⟩) g.length cg) pl st) 58)).heap[w.heap.size]? = some (.cells (Q0w a b f s (.slice o len cap) (.slice (some ⟨bb, off, none⟩) g.length cg) pl st) 58 (0, 0)) :=
    (Below.heap_alloc _ _ _ (by simp; omega)).trans ((Below.heap_alloc _ _ _ (by simp; omega)).trans ((Below.heap_alloc _ _ _ (by simp)).trans (World.alloc_heap_new w _)))
  have bR0 : Boxed ((((w.alloc (.cells (Q0w a b f s (.slice o len cap) (.slice (some ⟨bb, off, none⟩) g.length cg) pl st) 58)).alloc (.cells #[.bool false] 4)).alloc (.cells #[.bool false] 4)).alloc (.cells (Q0w a b f s (.slice o len cap) (.slice (some ⟨bb, off, none⟩) g.length cg) pl st) 58)) (w.heap.size + 1) 4 (.bool false) := by
    have := ((Boxed.new (w.alloc (.cells (Q0w a b f s (.slice o len cap) (.slice (some ⟨bb, off, none⟩) g.length cg) pl st) 58)) 4 (.bool false)).alloc (.cells #[.bool false] 4)).alloc (.cells (Q0w a b f s (.slice o len cap) (.slice (some ⟨bb, off, none⟩) g.length cg) pl st) 58)
    simpa only [World.size_alloc] using this
  have bH0 : Boxed ((((w.alloc (.cells (Q0w a b f s (.slice o len cap) (.slice (some ⟨bb, off, none⟩) g.length cg) pl st) 58)).alloc (.cells #[.bool false] 4)).alloc (.cells #[.bool false] 4)).alloc (.cells (Q0w a b f s (.slice o len cap) (.slice (some ⟨bb, off, none⟩) g.length cg) pl st) 58)) (w.heap.size + 1 + 1) 4 (.bool false) := by
    have := (Boxed.new ((w.alloc (.cells (Q0w a b f s (.slice o len cap) (.slice (some ⟨bb, off, none⟩) g.length cg) pl st) 58)).alloc (.cells #[.bool false] 4)) 4 (.bool false)).alloc (.cells (Q0w a b f s (.slice o len cap) (.slice (some ⟨bb, off, none⟩) g.length cg) pl st) 58)
    simpa only [World.size_alloc] using this
  have hS0 : ((((w.alloc (.cells (Q0w a b f s (.slice o len cap) (.slice (some ⟨bb, off, none⟩) g.length cg) pl st) 58)).alloc (.cells #[.bool false] 4)).alloc (.cells #[.bool false] 4)).alloc (.cells (Q0w a b f s (.slice o len cap) (.slice (some ⟨bb, off, none⟩) g.length cg) pl st) 58)).heap[w.heap.size + 1 + 1 + 1]? = some (.cells (Q0w a b f s (.slice o len cap) (.slice (some ⟨bb, off, none⟩) g.length cg) pl st) 58 (0, 0)) := by
    have := World.alloc_heap_new (((w.alloc (.cells (Q0w a b f s (.slice o len cap) (.slice (some ⟨bb, off, none⟩) g.length cg) pl st) 58)).alloc (.cells #[.bool false] 4)).alloc (.cells #[.bool false] 4)) (.cells (Q0w a b f s (.slice o len cap) (.slice (some ⟨bb, off, none⟩) g.length cg) pl st) 58)
    simpa only [World.size_alloc] using this
  have hB0 : Below w.heap.size w ((((w.alloc (.cells (Q0w a b f s (.slice o len cap) (.slice (some ⟨bb, off, none⟩) g.length cg) pl st) 58)).alloc (.cells #[.bool false] 4)).alloc (.cells #[.bool false] 4)).alloc (.cells (Q0w a b f s (.slice o len cap) (.slice (some ⟨bb, off, none⟩) g.length cg) pl st) 58)) :=
    ((((Below.refl _ w).alloc (Kaq _) _).alloc (by simp) _).alloc (by simp; omega) _).alloc (by simp; omega) _
  have hsz : ((((w.alloc (.cells (Q0w a b f s (.slice o len cap) (.slice (some ⟨bb, off, none⟩) g.length cg) pl st) 58)).alloc (.cells #[.bool false] 4)).alloc (.cells #[.bool false] 4)).alloc (.cells (Q0w a b f s (.slice o len cap) (.slice (some ⟨bb, off, none⟩) g.length cg) pl st) 58)).heap.size = w.heap.size + 4 := by simp
  obtain ⟨W0, hW0⟩ : ∃ W0, (((w.alloc (.cells (Q0w a b f s (.slice o len cap) (.slice (some ⟨bb, off, none⟩) g.length cg) pl st) 58)).alloc (.cells #[.bool false] 4)).alloc (.cells #[.bool false] 4)).alloc (.cells (Q0w a b f s (.slice o len cap) (.slice (some ⟨bb, off, none⟩) g.length cg) pl st) 58) = W0 := ⟨_, rfl⟩
  rw [hW0] at hC0 bR0 bH0 hS0 hB0 hsz ⊢
  clear hW0
  have hcellW : ∀ j, j < g.length → W0.cell? ⟨bb, off + j * 2, none⟩ = some (.int .i64 (g[j]?.getD (0, 0)).1) ∧ W0.cell? ⟨bb, off + j * 2 + 1, none⟩ = some (.int .i64 (g[j]?.getD (0, 0)).2) := fun j hj => by
    have := hcell j hj
    rw [List.getD_eq_getElem?_getD] at this
    exact ⟨(hB0.cell (p := ⟨bb, off + j * 2, none⟩) hbb).trans this.1, (hB0.cell (p := ⟨bb, off + j * 2 + 1, none⟩) hbb).trans this.2⟩
  refine wpIn_rangeFunc_ownH rfl (by decide) (gf := 148) (lb := #[.pointer (some ⟨w.heap.size + 1 + 1 + 1, 0, none⟩)]) rfl trivial (enters_of Tryz.func148 (by kernel_rfl) rfl)
    (Q75 Fence.wide (4 - 1) trivial rfl (by decide) (w.heap.size + 1 + 1 + 1) w.heap.size bb off cg g pl hgl W0 (by omega) hbb (by omega) (Q0y hS0 5 _ rfl) (Q0y hS0 6 _ rfl) hcellW)
    (fun h k => KpB.trans h k)
    (fun W l ob ob' hl' hw' hn1 hn2 => ⟨belowK_b (w := W0) (by omega) W l ob ob' hl' hw' hn1 hn2, (grownBy_putObj' W l ob').block _ (by have := (Array.getElem?_eq_some_iff.1 hw').1; omega) (by simp; omega)⟩)
    (Below.refl _ _) (fun _ => rfl)
    (fun pre W => ((∃ h, Qcz pre = some h ∧ Boxed W (w.heap.size + 1 + 1) 4 (.bool h)) ∧ Boxed W (w.heap.size + 1) 4 (.bool false) ∧ W.heap[w.heap.size]? = some (.cells (Q0w a b f s (.slice o len cap) (.slice (some ⟨bb, off, none⟩) g.length cg) pl st) 58 (0, 0)) ∧ w.heap.size + 4 ≤ W.heap.size) ∧ Below w.heap.size w W)
    (fun c pre W => (c = .ret ∧ Qcz pre = none ∧ Boxed W (w.heap.size + 1) 4 (.bool false)) ∧ Below w.heap.size w W)
    (OwnFrom.and (Own.from (fun q A B row hs hg hr => by obtain ⟨⟨h, e1, e2⟩, e3, e4, e5⟩ := hs; exact ⟨⟨h, e1, Q2L e2 hg hr⟩, Q2L e3 hg hr, Q2L e4 hg hr, Kdq e5 hg.size⟩) _) (ownFrom_below (Kaq _) (by omega)))
    (fun c => OwnFrom.and (Own.from (fun q A B row hs hg hr => by obtain ⟨e0, e1, e2⟩ := hs; exact ⟨e0, e1, Q2L e2 hg hr⟩) _) (ownFrom_below (Kaq _) (by omega)))
    ⟨⟨⟨false, rfl, bH0⟩, bR0, hC0, by omega⟩, hB0⟩
    (fun x a' W => ∃ Bx, w.heap.size + 1 + 1 + 1 < Bx ∧ W.heap[Bx]? = some (.cells #[.int .i64 x.1.1, .int .i64 x.1.2] 50 (0, 0)) ∧ a' = { tmps := #[crr a b f s (.slice o len cap) (.slice (some ⟨bb, off, none⟩) g.length cg) pl st, .pointer (some ⟨w.heap.size, 0, none⟩), .pointer (some ⟨w.heap.size + 1, 0, none⟩), .pointer (some ⟨w.heap.size + 1 + 1, 0, none⟩), .pointer (some ⟨Bx, 0, none⟩), .agg #[.int .i64 a, .int .i64 b, .int .i64 f, .int .i64 s, .slice o len cap, .slice (some ⟨bb, off, none⟩) g.length cg, .int .i64 pl, .int .i64 st], .func (.func 148) #[] #[.pointer (some ⟨w.heap.size + 1 + 1 + 1, 0, none⟩)], seg x.1.1 x.1.2, .bool x.2, undef, undef, undef, undef, undef, undef, undef, undef, undef, undef, undef, undef, undef, undef, undef, undef, undef, undef, undef, undef, undef], defers := [] })
    (fun x a' _ X Y row hs hg hr => by obtain ⟨Bx, e1, e2, e3⟩ := hs; exact ⟨Bx, e1, Q2L e2 hg (fun r e => (hr r e).2), e3⟩)
    ?assign ?body ?done ?stop
  case assign =>
    rintro l pre x W K ⟨⟨⟨h, e1, e2⟩, e3, e4, e5⟩, hB⟩ hK
    gi_wp2
    refine hK _ _ ((KeepsOthers.alloc _ _).from _) ⟨(Below.refl _ W).alloc hB.size _, heap_alloc_old W _ (by omega)⟩ ⟨⟨⟨h, e1, e2.alloc _⟩, e3.alloc _, (heap_alloc_old W _ (by omega)).trans e4, Kdq e5 (by simp)⟩, hB.alloc hB.size _⟩ ⟨W.heap.size, by omega, World.alloc_heap_new W _, rfl⟩
  case body =>
    rintro l pre ⟨⟨x1, x2⟩, d⟩ a' W hl ⟨r, hr⟩ ⟨⟨⟨h, e1, e2⟩, e3, e4, e5⟩, hB⟩ ⟨Bx, hBx, hX, rfl⟩ hlt
    dsimp only at hX
    have cX0 := Q0y hX 0 _ rfl;have cX1 := Q0y hX 1 _ rfl;have hso := Q8p x1 x2 W;have HRUN := Q02 (Q8R pre ((x1, x2), d))
    rw [e1] at HRUN
    cases hs : Q1K x1 x2 with
    | false =>
      rw [hs] at hso
      have HN : Hid (Qcz (pre ++ [((x1, x2), d)]) = none) := by unfold Hid; rw [HRUN.out]; simp [Q4G, hs]
      clear HRUN
      gi_wp2_with (refine ⟨trivial, ?_⟩; gi_at_call 107; refine (CallsIn.inRound l (callsIn_wide.2 hso)).mono ?_; rintro e W2 ⟨rfl, hb2⟩; have bR2 : Boxed W2 (w.heap.size + 1) 4 (.bool false) := (hb2.block _ e3.lt).trans e3; have cR2 := bR2.cell; have fR2 := bR2.frozen)
      exact ⟨(Q2E hb2).trans ((KeepsOthers.setCell _ _ _).from _), ⟨rfl, HN.out, bR2.set _⟩, (hB.trans (hb2.mono hB.size)).setCell (p := ⟨w.heap.size + 1, 0, none⟩) (by simp) _⟩
    | true =>
      rw [hs] at hso
      cases h with
      | false =>
        have HY : Hid (Qcz (pre ++ [((x1, x2), d)]) = some (x2 == 1)) := by unfold Hid; rw [HRUN.out]; simp [Q4G, hs]
        clear HRUN
        gi_wp2_with (refine ⟨trivial, ?_⟩; gi_at_call 107; refine (CallsIn.inRound l (callsIn_wide.2 hso)).mono ?_; rintro e W2 ⟨rfl, hb2⟩; have bR2 : Boxed W2 (w.heap.size + 1) 4 (.bool false) := (hb2.block _ e3.lt).trans e3; have cR2 := bR2.cell; have fR2 := bR2.frozen; have bH2 : Boxed W2 (w.heap.size + 1 + 1) 4 _ := (hb2.block _ e2.lt).trans e2; have cH2 := bH2.cell; have fH2 := bH2.frozen; have hX2 := (hb2.block _ (Array.getElem?_eq_some_iff.1 hX).1).trans hX; have cX2 := Q0y hX2 1 _ rfl)
        exact ⟨(Q2E hb2).trans ((KeepsOthers.setCell _ _ _).from _), ⟨(hb2.mono hB.size).setCell (p := ⟨w.heap.size + 1 + 1, 0, none⟩) (by simp; omega) _, (Below.heap_setCell _ _ _ _ (by simp)).trans (hb2.block _ (by omega))⟩, ⟨⟨_, HY.out, bH2.set _⟩, (Below.heap_setCell _ _ _ _ (by simp)).trans bR2, (Below.heap_setCell _ _ _ _ (by simp; omega)).trans ((hb2.block _ (by omega)).trans e4), by have := hb2.size; simp; omega⟩, (hB.trans (hb2.mono hB.size)).setCell (p := ⟨w.heap.size + 1 + 1, 0, none⟩) (by simp; omega) _⟩
      | true =>
        by_cases hx : x2 = 0
        · subst hx
          have HN : Hid (Qcz (pre ++ [((x1, 0), d)]) = none) := by unfold Hid; rw [HRUN.out]; simp [Q4G, hs]
          clear HRUN
          gi_wp2_with (refine ⟨trivial, ?_⟩; gi_at_call 107; refine (CallsIn.inRound l (callsIn_wide.2 hso)).mono ?_; rintro e W2 ⟨rfl, hb2⟩; have bR2 : Boxed W2 (w.heap.size + 1) 4 (.bool false) := (hb2.block _ e3.lt).trans e3; have cR2 := bR2.cell; have fR2 := bR2.frozen; have bH2 : Boxed W2 (w.heap.size + 1 + 1) 4 _ := (hb2.block _ e2.lt).trans e2; have cH2 := bH2.cell; have fH2 := bH2.frozen; have hX2 := (hb2.block _ (Array.getElem?_eq_some_iff.1 hX).1).trans hX; have cX2 := Q0y hX2 1 _ rfl)
          exact ⟨(Q2E hb2).trans ((KeepsOthers.setCell _ _ _).from _), ⟨rfl, HN.out, bR2.set _⟩, (hB.trans (hb2.mono hB.size)).setCell (p := ⟨w.heap.size + 1, 0, none⟩) (by simp) _⟩
        · have hx' : (x2 == 0) = false := by simp [hx]
          have HY : Hid (Qcz (pre ++ [((x1, x2), d)]) = some (x2 == 1)) := by unfold Hid; rw [HRUN.out]; simp [Q4G, hs, hx]
          clear HRUN
          gi_wp2_with (refine ⟨trivial, ?_⟩; gi_at_call 107; refine (CallsIn.inRound l (callsIn_wide.2 hso)).mono ?_; rintro e W2 ⟨rfl, hb2⟩; have bR2 : Boxed W2 (w.heap.size + 1) 4 (.bool false) := (hb2.block _ e3.lt).trans e3; have cR2 := bR2.cell; have fR2 := bR2.frozen; have bH2 : Boxed W2 (w.heap.size + 1 + 1) 4 _ := (hb2.block _ e2.lt).trans e2; have cH2 := bH2.cell; have fH2 := bH2.frozen; have hX2 := (hb2.block _ (Array.getElem?_eq_some_iff.1 hX).1).trans hX; have cX2 := Q0y hX2 1 _ rfl)
          exact ⟨(Q2E hb2).trans ((KeepsOthers.setCell _ _ _).from _), ⟨(hb2.mono hB.size).setCell (p := ⟨w.heap.size + 1 + 1, 0, none⟩) (by simp; omega) _, (Below.heap_setCell _ _ _ _ (by simp)).trans (hb2.block _ (by omega))⟩, ⟨⟨_, HY.out, bH2.set _⟩, (Below.heap_setCell _ _ _ _ (by simp)).trans bR2, (Below.heap_setCell _ _ _ _ (by simp; omega)).trans ((hb2.block _ (by omega)).trans e4), by have := hb2.size; simp; omega⟩, (hB.trans (hb2.mono hB.size)).setCell (p := ⟨w.heap.size + 1 + 1, 0, none⟩) (by simp; omega) _⟩
  case done =>
    rintro D ys W hD rfl ⟨⟨⟨h, e1, e2⟩, e3, e4, e5⟩, hB⟩ hK
    have HE : Hid ((!h || Q2k a b f s len) = Q63 (Q2k a b f s len) g pl) := by unfold Hid Q63; rw [e1]
    have hop := Q4Q a b f s o len cap W hl;have cH := e2.cell;have cR := e3.cell;have fR := e3.frozen;have c0 := Q0y e4 0 _ rfl;have c1 := Q0y e4 1 _ rfl;have c2 := Q0y e4 2 _ rfl;have c3 := Q0y e4 3 _ rfl;have c4 := Q0y e4 4 _ rfl
    cases h with
    | false =>
      gi_wp2
      refine ⟨trivial, ?_⟩
      gi_wp2
      have hK' := (KeepsOthers.setCell W ⟨w.heap.size + 1, 0, none⟩ (.bool true)).same D _ hK rfl
      refine ⟨by simp, .inl ⟨_, _, rfl, run_takeDeferred hK', ?_⟩⟩
      have hc5 := cell_kept (World.cell?_setCell_same' W ⟨w.heap.size + 1, 0, none⟩ (.bool true) (by rw [cR]; rfl)) (grownBy_putObj' _ D (.deferred none)) (fun r e => by cases e; exact ⟨_, hK', rfl⟩)
      refine ⟨.bool true, ?_, Q0c HE.out, (hB.setCell (p := ⟨w.heap.size + 1, 0, none⟩) (by simp) _).trans (belowK_b (w := w) (Kaq _) _ D _ _ (by omega) hK' rfl rfl)⟩
      simp [results, Tryz.f58, go_sem, hc5]
    | true =>
      generalize hq : Q2k a b f s len = op at hop;have HQ : Hid (op = Q63 (Q2k a b f s len) g pl) := hq.symm.trans HE.out;clear hq
      gi_wp2_with (refine ⟨trivial, ?_⟩; gi_at_call 14; refine (callsIn_wide.2 hop).mono ?_; rintro e W2 ⟨rfl, hb2⟩; have bR2 : Boxed W2 (w.heap.size + 1) 4 (.bool false) := (hb2.block _ e3.lt).trans e3; have cR2 := bR2.cell; have fR2 := bR2.frozen)
      have hK2 := (hb2.block D (Array.getElem?_eq_some_iff.1 hK).1).trans hK
      have hB2 := hB.trans (hb2.mono hB.size);have hK' := (KeepsOthers.setCell W2 ⟨w.heap.size + 1, 0, none⟩ (.bool op)).same D _ hK2 rfl
      refine ⟨by simp, .inl ⟨_, _, rfl, run_takeDeferred hK', ?_⟩⟩
      have hc5 := cell_kept (World.cell?_setCell_same' W2 ⟨w.heap.size + 1, 0, none⟩ (.bool op) (by rw [cR2]; rfl)) (grownBy_putObj' _ D (.deferred none)) (fun r e => by cases e; exact ⟨_, hK', rfl⟩)
      refine ⟨.bool op, ?_, Q0c HQ.out, (hB2.setCell (p := ⟨w.heap.size + 1, 0, none⟩) (by simp) _).trans (belowK_b (w := w) (Kaq _) _ D _ _ (by omega) hK' rfl rfl)⟩
      simp [results, Tryz.f58, go_sem, hc5]
  case stop =>
    rintro D c pre W hD ⟨k, hk, rfl⟩ ⟨⟨rfl, hrun, bR⟩, hB⟩ hK
    have HE : Hid (false = Q63 (Q2k a b f s len) g pl) := by unfold Hid Q63; rw [Q7q _ k _ hrun hk]
    gi_wp2
    refine ⟨by simp, .inl ⟨_, _, rfl, run_takeDeferred hK, ?_⟩⟩
    have hc5 := cell_kept bR.cell (grownBy_putObj' _ D (.deferred none)) (fun r e => by cases e; exact ⟨_, hK, rfl⟩)
    refine ⟨.bool false, ?_, Q0c HE.out, hB.trans (belowK_b (w := w) (Kaq _) W D _ _ (by omega) hK rfl rfl)⟩
    simp [results, Tryz.f58, go_sem, hc5]
end Go.Proofs.YtpneolgdghbinaaGreat
namespace Go.Proofs.YtpneolgdghbinaaGreat
open Go.ChangeShapes Go.WideShapes Go.ChangeAt Go.RowKit Go.Joins
set_option linter.unusedVariables false
set_option linter.unusedSimpArgs false
set_option maxRecDepth 100000
set_option maxHeartbeats 40000000
def Q4y (o:Option Bool) (p:Int × Int):Option Bool:=Q4G o (p,false)
def Q6G (op:Bool):Option Bool→Bool
 |none=> false
 |some h=> !h||op
theorem Qbv:∀(l:List Qaz) (o:Option Bool),l.foldl Q4G o=(l.map (·.1)).foldl Q4y o
 |[],o=> rfl
 |x::l,o=> by simp only [List.foldl_cons,List.map_cons];rw [Qbv l];cases o <;> rfl
theorem QeX (g:List (Int × Int)) (pl:Int):(upto (Q2F g pl) g.length).map (·.1)=g:=by
 apply List.ext_getElem
 ·simp [upto]
 ·intro i h1 h2
  simp [upto,Q2F,h2]
theorem Q49 (l:List (Int × Int)):l.foldl Q4y none=none:=by induction l with
 |nil=> rfl
 |cons x l ih=> exact ih
theorem Q97 {x y:Int} (h:Q1K x y=true):y=0∨y=1:=by have:=Qct.1 h;omega
theorem Q7h:∀l:List (Int × Int),Q6G false (l.foldl Q4y (some true))=false
 |[]=> rfl
 |(x,y)::l=> by
  rw [List.foldl_cons]
  cases hs:Q1K x y with
  |false=> simp [Q4y,Q4G,hs,Q49,Q6G]
  |true=>
   rcases Q97 hs with h|h
   ·subst h;simp [Q4y,Q4G,Q49,Q6G]
   ·subst h
    have:Q4y (some true) (x,1)=some true:=by simp [Q4y,Q4G,hs]
    rw [this]
    exact Q7h l
theorem Q5P (op:Bool):∀(l:List (Int × Int)) (h:Bool),(h=true→op=true)→Q2b op (if h then 1 else 0) l=Q6G op (l.foldl Q4y (some h))
 |[],h,hh=> by cases h <;> cases op <;> simp_all [Q2b,Q6G]
 |(x,y)::l,h,hh=> by
  rw [List.foldl_cons]
  cases hs:Q1K x y with
  |false=> simp [Q2b,Q4y,Q4G,hs,Q49,Q6G]
  |true=>
   rcases Q97 hs with hy|hy
   ·subst hy
    cases h with
    |true=> simp [Q2b,Q4y,Q4G,Q49,Q6G]
    |false=>
     have e:Q4y (some false) (x,0)=some false:=by simp [Q4y,Q4G,hs]
     rw [e,←Q5P op l false (fun h=> by cases h)]
     simp [Q2b,hs]
   ·subst hy
    have e:Q4y (some h) (x,1)=some true:=by simp [Q4y,Q4G,hs]
    rw [e]
    cases op with
    |false=> rw [Q7h];simp [Q2b]
    |true=>
     rw [←Q5P true l true (fun _=> rfl)]
     cases h <;> simp [Q2b,hs]
theorem QeA (op:Bool) (g:List (Int × Int)) (pl:Int):Q63 op g pl=Q2b op 0 g:=by
 have h:=Q5P op g false (fun h=> by cases h)
 rw [show (if false=true then (1:Int) else 0)=0 from rfl] at h
 rw [h]
 unfold Q63 Qcz
 rw [Qbv,QeX]
 cases g.foldl Q4y (some false) <;> rfl
theorem QcO {a b f s:Int} {n:Nat} (h:Q0q a b f s n=true):Q2k a b f s n=Q59 f:=(Q5O h).symm
theorem Q3A (n:Int) (w:World):Calls Tryz.prog 56 #[.int .i64 n] w fun e w'=> e=.returned (.bool (decide (0≤n) && decide (n≤100000)))∧w=w':=by
 go_enter Tryz.func56,Tryz.ntmps56
 go_wp2
 all_goals go_ret
 all_goals refine ⟨?_,rfl⟩
 all_goals first|(simp [*];done)|(simp;omega)
theorem Q3r (a b f s:Int) (o og:Option Addr) (len cap cg:Nat) (g:List (Int × Int)) (pl st:Int) (w:World) (hl:len≤maxLen) (hgl:g.length≤maxLen) (hG:RdG w og g):
  Calls Tryz.prog 19 #[crr a b f s (.slice o len cap) (.slice og g.length cg) pl st] w fun e w'=> e=.returned (.bool (Q1F a b f s len g pl st))∧Below w.heap.size w w':=by
 have hgl':=hgl
 unfold maxLen at hgl'
 have hp:=fun w=> Q15 a b f s o len cap w hl
 have bx:=QfG w a b f s (.slice o len cap) (.slice og g.length cg) pl st 58
 have hz:w.heap.size < (w.alloc (.cells #[.int .i64 a,.int .i64 b,.int .i64 f,.int .i64 s,.slice o len cap,.slice og g.length cg,.int .i64 pl,.int .i64 st] 58)).heap.size:=by simp
 have hb0:Below w.heap.size w (w.alloc (.cells #[.int .i64 a,.int .i64 b,.int .i64 f,.int .i64 s,.slice o len cap,.slice og g.length cg,.int .i64 pl,.int .i64 st] 58)):=(Below.refl _ _).alloc (Kaq _) _
 by_cases h1:Q0q a b f s len=true
 ·rw [h1] at hp
  by_cases hst:0≤st∧st≤100000
  ·have hst':(decide (0≤st) && decide (st≤100000))=true:=by simp [hst]
   have hs:=fun w=> hst' ▸ Q3A st w
   by_cases h3:(g.length:Int)≤24
   ·by_cases h4:0≤pl
    ·by_cases h5:pl < (g.length:Int)
     ·have HY:=Q02 (Q4o (Q74.2 ⟨h1,show 1≤(g.length:Int) by omega,h3,h4,h5,hst.1,hst.2,trivial⟩))
      rcases hG with hG|⟨bb,off,rfl,hbb,hcell⟩
      ·subst hG;simp at h5;omega
      have hn3:¬(24 < (g.length:Int)):=by omega
      have hn5:¬((g.length:Int)≤pl):=by omega
      go_enter Tryz.func19,Tryz.ntmps19
      go_wp2_with fail
      generalize (w.alloc (.cells #[.int .i64 a,.int .i64 b,.int .i64 f,.int .i64 s,.slice o len cap,.slice (some ⟨bb,off,none⟩) g.length cg,.int .i64 pl,.int .i64 st] 58))=w0 at *
      refine (hp _).mono ?_
      rintro e w1 ⟨rfl,hb1⟩
      have bx1:=bx.kept hb1 hz;have HB1:=Q02 (hb0.trans (hb1.mono (Nat.le_of_lt hz)));clear hb0 hb1 hp hz bx;obtain ⟨x0,x1,x2,x3,x4,x5,x6,x7⟩:=bx1
      go_wp2_with (go_at_call 56;refine (hs _).mono ?_;rintro e w2 ⟨rfl,rfl⟩)
      refine (Qa8 a b f s o len cap bb off cg g pl st w1 hl (by omega) (Kbq hbb HB1.out.size) (fun i hi=> ⟨(HB1.out.cell (p:=⟨bb,off+i * 2,none⟩) hbb).trans (hcell i hi).1,(HB1.out.cell (p:=⟨bb,off+i * 2+1,none⟩) hbb).trans (hcell i hi).2⟩)).mono ?_
      rw [QcO h1,QeA]
      rintro e w3 ⟨rfl,hb3⟩
      clear hcell x0 x1 x2 x3 x4 x5 x6 x7
      go_wp2
      go_ret
      exact ⟨Q0c HY.out,HB1.out.trans (hb3.mono HB1.out.size)⟩
     ·have HN:=Q02 (Q1Y (a:=a) (b:=b) (f:=f) (s:=s) (n:=len) (g:=g) (pl:=pl) (st:=st) (fun q=> h5 q.2.2.2.2.1))
      have hn3:¬(24 < (g.length:Int)):=by omega
      go_enter Tryz.func19,Tryz.ntmps19
      go_wp2_with fail
      generalize (w.alloc (.cells #[.int .i64 a,.int .i64 b,.int .i64 f,.int .i64 s,.slice o len cap,.slice og g.length cg,.int .i64 pl,.int .i64 st] 58))=w0 at *
      refine (hp _).mono ?_
      rintro e w1 ⟨rfl,hb1⟩
      have bx1:=bx.kept hb1 hz;have HB1:=Q02 (hb0.trans (hb1.mono (Nat.le_of_lt hz)));clear hb0 hb1 hp hz bx hG;obtain ⟨x0,x1,x2,x3,x4,x5,x6,x7⟩:=bx1
      go_wp2_with (go_at_call 56;refine (hs _).mono ?_;rintro e w2 ⟨rfl,rfl⟩)
      go_ret
      exact ⟨Q0c HN.out,HB1.out⟩
    ·have HN:=Q02 (Q1Y (a:=a) (b:=b) (f:=f) (s:=s) (n:=len) (g:=g) (pl:=pl) (st:=st) (fun q=> h4 q.2.2.2.1))
     have hn3:¬(24 < (g.length:Int)):=by omega
     go_enter Tryz.func19,Tryz.ntmps19
     go_wp2_with fail
     generalize (w.alloc (.cells #[.int .i64 a,.int .i64 b,.int .i64 f,.int .i64 s,.slice o len cap,.slice og g.length cg,.int .i64 pl,.int .i64 st] 58))=w0 at *
     refine (hp _).mono ?_
     rintro e w1 ⟨rfl,hb1⟩
     have bx1:=bx.kept hb1 hz;have HB1:=Q02 (hb0.trans (hb1.mono (Nat.le_of_lt hz)));clear hb0 hb1 hp hz bx hG;obtain ⟨x0,x1,x2,x3,x4,x5,x6,x7⟩:=bx1
     go_wp2_with (go_at_call 56;refine (hs _).mono ?_;rintro e w2 ⟨rfl,rfl⟩)
     go_ret
     exact ⟨Q0c HN.out,HB1.out⟩
   ·have HN:=Q02 (Q1Y (a:=a) (b:=b) (f:=f) (s:=s) (n:=len) (g:=g) (pl:=pl) (st:=st) (fun q=> h3 q.2.2.1))
    have hn3:(24 < (g.length:Int)):=by omega
    go_enter Tryz.func19,Tryz.ntmps19
    go_wp2_with fail
    generalize (w.alloc (.cells #[.int .i64 a,.int .i64 b,.int .i64 f,.int .i64 s,.slice o len cap,.slice og g.length cg,.int .i64 pl,.int .i64 st] 58))=w0 at *
    refine (hp _).mono ?_
    rintro e w1 ⟨rfl,hb1⟩
    have bx1:=bx.kept hb1 hz;have HB1:=Q02 (hb0.trans (hb1.mono (Nat.le_of_lt hz)));clear hb0 hb1 hp hz bx hG;obtain ⟨x0,x1,x2,x3,x4,x5,x6,x7⟩:=bx1
    go_wp2_with (go_at_call 56;refine (hs _).mono ?_;rintro e w2 ⟨rfl,rfl⟩)
    go_ret
    exact ⟨Q0c HN.out,HB1.out⟩
  ·have hst':(decide (0≤st) && decide (st≤100000))=false:=by simpa using hst
   have hs:=fun w=> hst' ▸ Q3A st w
   have HN:=Q02 (Q1Y (a:=a) (b:=b) (f:=f) (s:=s) (n:=len) (g:=g) (pl:=pl) (st:=st) (fun q=> hst ⟨q.2.2.2.2.2.1,q.2.2.2.2.2.2.1⟩))
   go_enter Tryz.func19,Tryz.ntmps19
   go_wp2_with fail
   generalize (w.alloc (.cells #[.int .i64 a,.int .i64 b,.int .i64 f,.int .i64 s,.slice o len cap,.slice og g.length cg,.int .i64 pl,.int .i64 st] 58))=w0 at *
   refine (hp _).mono ?_
   rintro e w1 ⟨rfl,hb1⟩
   have bx1:=bx.kept hb1 hz;have HB1:=Q02 (hb0.trans (hb1.mono (Nat.le_of_lt hz)));clear hb0 hb1 hp hz bx hG;obtain ⟨x0,x1,x2,x3,x4,x5,x6,x7⟩:=bx1
   go_wp2_with (go_at_call 56;refine (hs _).mono ?_;rintro e w2 ⟨rfl,rfl⟩)
   go_ret
   exact ⟨Q0c HN.out,HB1.out⟩
 ·rw [Bool.eq_false_iff.2 h1] at hp
  have HN:=Q02 (Q1Y (a:=a) (b:=b) (f:=f) (s:=s) (n:=len) (g:=g) (pl:=pl) (st:=st) (fun q=> h1 q.1))
  go_enter Tryz.func19,Tryz.ntmps19
  go_wp2_with fail
  generalize (w.alloc (.cells #[.int .i64 a,.int .i64 b,.int .i64 f,.int .i64 s,.slice o len cap,.slice og g.length cg,.int .i64 pl,.int .i64 st] 58))=w0 at *
  refine (hp _).mono ?_
  rintro e w1 ⟨rfl,hb1⟩
  have HB1:=Q02 (hb0.trans (hb1.mono (Nat.le_of_lt hz)));clear hb0 hb1 hp hz bx hG
  go_wp2
  go_ret
  exact ⟨Q0c HN.out,HB1.out⟩
theorem put2 {w:World} {B:Nat} {u v q0 q1:Value} (h0:w.cell? ⟨B,0,none⟩=some q0) (h1:w.cell? ⟨B,1,none⟩=some q1):
  ((w.setCell ⟨B,0,none⟩ u).setCell ⟨B,1,none⟩ v).cell? ⟨B,0,none⟩=some u∧((w.setCell ⟨B,0,none⟩ u).setCell ⟨B,1,none⟩ v).cell? ⟨B,1,none⟩=some v:=
 ⟨(World.cell?_setCell_other _ _ _ _ (by simp)).trans (World.cell?_setCell_same _ _ _ h0),World.cell?_setCell_same _ _ _ ((World.cell?_setCell_other _ _ _ _ (by simp)).trans h1)⟩
end Go.Proofs.YtpneolgdghbinaaGreat
