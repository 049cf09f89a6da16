/- Several texts in one: SRoute, SCarr2, SHere. -/
import Derived.Test.YtpneolgdghbinaaGreatQLearnsL46
import Derived.Test.YtpneolgdghbinaaGreatQLearnsL47
namespace Go.Proofs.YtpneolgdghbinaaGreat
open Go.ChangeShapes Go.WideShapes Go.ChangeAt Go.RowKit Go.Joins Go.Shelf
set_option linter.unusedVariables false
set_option linter.unusedSimpArgs false
set_option maxRecDepth 100000
set_option maxHeartbeats 40000000
attribute [local go_sem] Oper.semAt_some
def Q55 (o : Option Bool) (x : QbS) : Option Bool :=
  match o with
  | none => none
  | some h => if Q2Q x.1.1 x.1.2 && !(h && x.1.2 == 0) then some (x.1.2 == 1) else none
def Qd7 (l : List QbS) : Option Bool := l.foldl Q55 (some false)
theorem Qb1 (l : List QbS) (x : QbS) : Qd7 (l ++ [x]) = Q55 (Qd7 l) x := by simp [Qd7]
theorem Q8j (q : Nat → QbS) (k m : Nat) (h : Qd7 (upto q k) = none) (hk : k ≤ m) : Qd7 (upto q m) = none := by
  induction m with
  | zero => have : k = 0 := by omega
            subst this; exact h
  | succ m ih =>
    rcases Nat.lt_succ_iff_lt_or_eq.1 (Nat.lt_succ_of_le hk) with h1 | h1
    · rw [Q5K, Qb1, ih (by omega)]; rfl
    · rw [← h1]; exact h
def Q6t (op : Bool) (g : List (Int × Int)) (pl : Int) : Bool :=
  match Qd7 (upto (Q35 g pl) g.length) with
  | none => false
  | some h => !h || op
theorem Q30 {B : Nat} {W W' : World} (h : Below W.heap.size W W') : KeepsFrom B W W' :=
  ⟨h.size, fun i o _ hi _ => (h.block i (Array.getElem?_eq_some_iff.1 hi).1).trans hi⟩
theorem Q0A {W : World} {B : Nat} {c : Array Value} {t : TypeId} (h : W.heap[B]? = some (.cells c t (0, 0))) (j : Nat) (u : Value) (a : c[j]? = some u) : W.cell? ⟨B, j, none⟩ = some u := by
  simp [World.cell?, h, a]
theorem QbO (a b f s : Int) (o : Option Addr) (len cap bb off v : Nat) (g : List (Int × Int)) (pl st : Int) (w : World) (hl : len ≤ maxLen) (aw : g.length ≤ 1048576) (aa : bb < w.heap.size)
    (ab : ∀ i, i < g.length → w.cell? ⟨bb, off + i * 2, none⟩ = some (.int .i64 (g.getD i (0, 0)).1) ∧ w.cell? ⟨bb, off + i * 2 + 1, none⟩ = some (.int .i64 (g.getD i (0, 0)).2)) :
    Calls Tryz.prog 58 #[crr a b f s (.slice o len cap) (.slice (some ⟨bb, off, none⟩) g.length v) pl st] w fun e w' => e = .returned (.bool (Q6t (Q2A a b f s len) g pl)) ∧ Below w.heap.size w w' := by
  refine (callsIn_wide (n := 4)).1 ?_;refine callsIn_of_wp_marks Tryz.func58 rfl trivial ?_ rfl;simp only [Tryz.ntmps58, List.size_toArray, List.length_cons, List.length_nil, Nat.reduceAdd, Nat.reduceSub, Array.replicate_succ, Array.replicate_zero, List.push_toArray, List.append_toArray, List.nil_append, List.cons_append]
  gi_wp2_with (refine ⟨trivial, ?_⟩; gi_at_call 99; refine (Qc9 Fence.wide (4 - 1) trivial rfl _ _ _ _ _ _ _ _ _).mono ?_; rintro e w' ⟨rfl, rfl⟩)
  have ae : ((((w.alloc (.cells (Q0y a b f s (.slice o len cap) (.slice (some ⟨bb, off, none⟩) g.length v) pl st) 58)).alloc (.cells #[.bool false] 4)).alloc (.cells #[.bool false] 4)).alloc (.cells (Q0y a b f s (.slice o len cap) (.slice (some ⟨bb, off, none⟩) g.length v) pl st) 58)).heap[w.heap.size]? = some (.cells (Q0y a b f s (.slice o len cap) (.slice (some ⟨bb, off, none⟩) g.length v) pl st) 58 (0, 0)) :=
    (Below.heap_alloc _ _ _ (by simp; omega)).trans ((Below.heap_alloc _ _ _ (by simp; omega)).trans ((Below.heap_alloc _ _ _ (by simp)).trans (World.alloc_heap_new w _)))
  have ag : Boxed ((((w.alloc (.cells (Q0y a b f s (.slice o len cap) (.slice (some ⟨bb, off, none⟩) g.length v) pl st) 58)).alloc (.cells #[.bool false] 4)).alloc (.cells #[.bool false] 4)).alloc (.cells (Q0y a b f s (.slice o len cap) (.slice (some ⟨bb, off, none⟩) g.length v) pl st) 58)) (w.heap.size + 1) 4 (.bool false) := by
    have := ((Boxed.new (w.alloc (.cells (Q0y a b f s (.slice o len cap) (.slice (some ⟨bb, off, none⟩) g.length v) pl st) 58)) 4 (.bool false)).alloc (.cells #[.bool false] 4)).alloc (.cells (Q0y a b f s (.slice o len cap) (.slice (some ⟨bb, off, none⟩) g.length v) pl st) 58)
    simpa only [World.size_alloc] using this
  have ak : Boxed ((((w.alloc (.cells (Q0y a b f s (.slice o len cap) (.slice (some ⟨bb, off, none⟩) g.length v) pl st) 58)).alloc (.cells #[.bool false] 4)).alloc (.cells #[.bool false] 4)).alloc (.cells (Q0y a b f s (.slice o len cap) (.slice (some ⟨bb, off, none⟩) g.length v) pl st) 58)) (w.heap.size + 1 + 1) 4 (.bool false) := by
    have := (Boxed.new ((w.alloc (.cells (Q0y a b f s (.slice o len cap) (.slice (some ⟨bb, off, none⟩) g.length v) pl st) 58)).alloc (.cells #[.bool false] 4)) 4 (.bool false)).alloc (.cells (Q0y a b f s (.slice o len cap) (.slice (some ⟨bb, off, none⟩) g.length v) pl st) 58)
    simpa only [World.size_alloc] using this
  have ac : ((((w.alloc (.cells (Q0y a b f s (.slice o len cap) (.slice (some ⟨bb, off, none⟩) g.length v) pl st) 58)).alloc (.cells #[.bool false] 4)).alloc (.cells #[.bool false] 4)).alloc (.cells (Q0y a b f s (.slice o len cap) (.slice (some ⟨bb, off, none⟩) g.length v) pl st) 58)).heap[w.heap.size + 1 + 1 + 1]? = some (.cells (Q0y a b f s (.slice o len cap) (.slice (some ⟨bb, off, none⟩) g.length v) pl st) 58 (0, 0)) := by
    have := World.alloc_heap_new (((w.alloc (.cells (Q0y a b f s (.slice o len cap) (.slice (some ⟨bb, off, none⟩) g.length v) pl st) 58)).alloc (.cells #[.bool false] 4)).alloc (.cells #[.bool false] 4)) (.cells (Q0y a b f s (.slice o len cap) (.slice (some ⟨bb, off, none⟩) g.length v) pl st) 58)
    simpa only [World.size_alloc] using this
  have U : Below w.heap.size w ((((w.alloc (.cells (Q0y a b f s (.slice o len cap) (.slice (some ⟨bb, off, none⟩) g.length v) pl st) 58)).alloc (.cells #[.bool false] 4)).alloc (.cells #[.bool false] 4)).alloc (.cells (Q0y a b f s (.slice o len cap) (.slice (some ⟨bb, off, none⟩) g.length v) pl st) 58)) :=
    ((((Below.refl _ w).alloc (Kaq _) _).alloc (by simp) _).alloc (by simp; omega) _).alloc (by simp; omega) _
  have au : ((((w.alloc (.cells (Q0y a b f s (.slice o len cap) (.slice (some ⟨bb, off, none⟩) g.length v) pl st) 58)).alloc (.cells #[.bool false] 4)).alloc (.cells #[.bool false] 4)).alloc (.cells (Q0y a b f s (.slice o len cap) (.slice (some ⟨bb, off, none⟩) g.length v) pl st) 58)).heap.size = w.heap.size + 4 := by simp
  obtain ⟨W0, ah⟩ : ∃ W0, (((w.alloc (.cells (Q0y a b f s (.slice o len cap) (.slice (some ⟨bb, off, none⟩) g.length v) pl st) 58)).alloc (.cells #[.bool false] 4)).alloc (.cells #[.bool false] 4)).alloc (.cells (Q0y a b f s (.slice o len cap) (.slice (some ⟨bb, off, none⟩) g.length v) pl st) 58) = W0 := ⟨_, rfl⟩;rw [ah] at ae ag ak ac U au ⊢;clear ah
  have T : ∀ j, j < g.length → W0.cell? ⟨bb, off + j * 2, none⟩ = some (.int .i64 (g[j]?.getD (0, 0)).1) ∧ W0.cell? ⟨bb, off + j * 2 + 1, none⟩ = some (.int .i64 (g[j]?.getD (0, 0)).2) := fun j hj => by
    have := ab j hj;rw [List.getD_eq_getElem?_getD] at this;exact ⟨(U.cell (p := ⟨bb, off + j * 2, none⟩) aa).trans this.1, (U.cell (p := ⟨bb, off + j * 2 + 1, none⟩) aa).trans this.2⟩
  refine wpIn_rangeFunc_ownH rfl (by decide) (gf := 148) (lb := #[.pointer (some ⟨w.heap.size + 1 + 1 + 1, 0, none⟩)]) rfl trivial (enters_of Tryz.func148 (by kernel_rfl) rfl)
    (Q7b Fence.wide (4 - 1) trivial rfl (by decide) (w.heap.size + 1 + 1 + 1) w.heap.size bb off v g pl aw W0 (by omega) aa (by omega) (Q0A ac 5 _ rfl) (Q0A ac 6 _ rfl) T)
    (fun h k => KpB.trans h k)
    (fun W l ob aj ap ai av ao => ⟨belowK_b (w := W0) (by omega) W l ob aj ap ai av ao, (grownBy_putObj' W l aj).block _ (by have := (Array.getElem?_eq_some_iff.1 ai).1; omega) (by simp; omega)⟩)
    (Below.refl _ _) (fun _ => rfl)
    (fun y W => ((∃ h, Qd7 y = some h ∧ Boxed W (w.heap.size + 1 + 1) 4 (.bool h)) ∧ Boxed W (w.heap.size + 1) 4 (.bool false) ∧ W.heap[w.heap.size]? = some (.cells (Q0y a b f s (.slice o len cap) (.slice (some ⟨bb, off, none⟩) g.length v) pl st) 58 (0, 0)) ∧ w.heap.size + 4 ≤ W.heap.size) ∧ Below w.heap.size w W)
    (fun c y W => (c = .ret ∧ Qd7 y = none ∧ Boxed W (w.heap.size + 1) 4 (.bool false)) ∧ Below w.heap.size w W)
    (OwnFrom.and (Own.from (fun q A B row hs Z hr => by obtain ⟨⟨h, M, F⟩, E, J, e5⟩ := hs; exact ⟨⟨h, M, Q2O F Z hr⟩, Q2O E Z hr, Q2O J Z hr, Kdq e5 Z.size⟩) _) (ownFrom_below (Kaq _) (by omega)))
    (fun c => OwnFrom.and (Own.from (fun q A B row hs Z hr => by obtain ⟨e0, M, F⟩ := hs; exact ⟨e0, M, Q2O F Z hr⟩) _) (ownFrom_below (Kaq _) (by omega)))
    ⟨⟨⟨false, rfl, ak⟩, ag, ae, by omega⟩, U⟩
    (fun x a' W => ∃ Bx, w.heap.size + 1 + 1 + 1 < Bx ∧ W.heap[Bx]? = some (.cells #[.int .i64 x.1.1, .int .i64 x.1.2] 50 (0, 0)) ∧ a' = { tmps := #[crr a b f s (.slice o len cap) (.slice (some ⟨bb, off, none⟩) g.length v) pl st, .pointer (some ⟨w.heap.size, 0, none⟩), .pointer (some ⟨w.heap.size + 1, 0, none⟩), .pointer (some ⟨w.heap.size + 1 + 1, 0, none⟩), .pointer (some ⟨Bx, 0, none⟩), .agg #[.int .i64 a, .int .i64 b, .int .i64 f, .int .i64 s, .slice o len cap, .slice (some ⟨bb, off, none⟩) g.length v, .int .i64 pl, .int .i64 st], .func (.func 148) #[] #[.pointer (some ⟨w.heap.size + 1 + 1 + 1, 0, none⟩)], seg x.1.1 x.1.2, .bool x.2, undef, undef, undef, undef, undef, undef, undef, undef, undef, undef, undef, undef, undef, undef, undef, undef, undef, undef, undef, undef, undef], defers := [] })
    (fun x a' _ X Y row hs Z hr => by obtain ⟨Bx, M, F, E⟩ := hs; exact ⟨Bx, M, Q2O F Z (fun r e => (hr r e).2), E⟩)
    ?assign ?body ?done ?stop
  case assign =>
    rintro l y x W K ⟨⟨⟨h, M, F⟩, E, J, e5⟩, C⟩ hK
    gi_wp2
    refine hK _ _ ((KeepsOthers.alloc _ _).from _) ⟨(Below.refl _ W).alloc C.size _, heap_alloc_old W _ _ (by omega)⟩ ⟨⟨⟨h, M, F.alloc _⟩, E.alloc _, (heap_alloc_old W _ _ (by omega)).trans J, Kdq e5 (by simp)⟩, C.alloc C.size _⟩ ⟨W.heap.size, by omega, World.alloc_heap_new W _, rfl⟩
  case body =>
    rintro l y ⟨⟨x1, P⟩, d⟩ a' W hl ⟨r, hr⟩ ⟨⟨⟨h, M, F⟩, E, J, e5⟩, C⟩ ⟨Bx, aA, R, rfl⟩ ay;dsimp only at R;have az := Q0A R 0 _ rfl;have ax := Q0A R 1 _ rfl;have I := Q9g x1 P W;have u := Q01 (Qb1 y ((x1, P), d));rw [M] at u
    cases hs : Q2Q x1 P with
    | false =>
      rw [hs] at I
      have HN : Hid (Qd7 (y ++ [((x1, P), d)]) = none) := by unfold Hid; rw [u.out]; simp [Q55, hs]
      clear u
      gi_wp2_with (refine ⟨trivial, ?_⟩; gi_at_call 107; refine (CallsIn.inRound l (callsIn_wide.2 I)).mono ?_; rintro e H ⟨rfl, m⟩; have t : Boxed H (w.heap.size + 1) 4 (.bool false) := (m.block _ E.lt).trans E; have O := t.cell; have V := t.frozen)
      exact ⟨(Q30 m).trans ((KeepsOthers.setCell _ _ _).from _), ⟨rfl, HN.out, t.set _⟩, (C.trans (m.mono C.size)).setCell (p := ⟨w.heap.size + 1, 0, none⟩) (by simp) _⟩
    | true =>
      rw [hs] at I
      cases h with
      | false =>
        have HY : Hid (Qd7 (y ++ [((x1, P), d)]) = some (P == 1)) := by unfold Hid; rw [u.out]; simp [Q55, hs]
        clear u
        gi_wp2_with (refine ⟨trivial, ?_⟩; gi_at_call 107; refine (CallsIn.inRound l (callsIn_wide.2 I)).mono ?_; rintro e H ⟨rfl, m⟩; have t : Boxed H (w.heap.size + 1) 4 (.bool false) := (m.block _ E.lt).trans E; have O := t.cell; have V := t.frozen; have z : Boxed H (w.heap.size + 1 + 1) 4 _ := (m.block _ F.lt).trans F; have ad := z.cell; have an := z.frozen; have N := (m.block _ (Array.getElem?_eq_some_iff.1 R).1).trans R; have af := Q0A N 1 _ rfl)
        exact ⟨(Q30 m).trans ((KeepsOthers.setCell _ _ _).from _), ⟨(m.mono C.size).setCell (p := ⟨w.heap.size + 1 + 1, 0, none⟩) (by simp; omega) _, (Below.heap_setCell _ _ _ _ (by simp)).trans (m.block _ (by omega))⟩, ⟨⟨_, HY.out, z.set _⟩, (Below.heap_setCell _ _ _ _ (by simp)).trans t, (Below.heap_setCell _ _ _ _ (by simp; omega)).trans ((m.block _ (by omega)).trans J), by have := m.size; simp; omega⟩, (C.trans (m.mono C.size)).setCell (p := ⟨w.heap.size + 1 + 1, 0, none⟩) (by simp; omega) _⟩
      | true =>
        by_cases hx : P = 0
        · subst hx
          have HN : Hid (Qd7 (y ++ [((x1, 0), d)]) = none) := by unfold Hid; rw [u.out]; simp [Q55, hs]
          clear u
          gi_wp2_with (refine ⟨trivial, ?_⟩; gi_at_call 107; refine (CallsIn.inRound l (callsIn_wide.2 I)).mono ?_; rintro e H ⟨rfl, m⟩; have t : Boxed H (w.heap.size + 1) 4 (.bool false) := (m.block _ E.lt).trans E; have O := t.cell; have V := t.frozen; have z : Boxed H (w.heap.size + 1 + 1) 4 _ := (m.block _ F.lt).trans F; have ad := z.cell; have an := z.frozen; have N := (m.block _ (Array.getElem?_eq_some_iff.1 R).1).trans R; have af := Q0A N 1 _ rfl)
          exact ⟨(Q30 m).trans ((KeepsOthers.setCell _ _ _).from _), ⟨rfl, HN.out, t.set _⟩, (C.trans (m.mono C.size)).setCell (p := ⟨w.heap.size + 1, 0, none⟩) (by simp) _⟩
        · have aB : (P == 0) = false := by simp [hx]
          have HY : Hid (Qd7 (y ++ [((x1, P), d)]) = some (P == 1)) := by unfold Hid; rw [u.out]; simp [Q55, hs, hx]
          clear u
          gi_wp2_with (refine ⟨trivial, ?_⟩; gi_at_call 107; refine (CallsIn.inRound l (callsIn_wide.2 I)).mono ?_; rintro e H ⟨rfl, m⟩; have t : Boxed H (w.heap.size + 1) 4 (.bool false) := (m.block _ E.lt).trans E; have O := t.cell; have V := t.frozen; have z : Boxed H (w.heap.size + 1 + 1) 4 _ := (m.block _ F.lt).trans F; have ad := z.cell; have an := z.frozen; have N := (m.block _ (Array.getElem?_eq_some_iff.1 R).1).trans R; have af := Q0A N 1 _ rfl)
          exact ⟨(Q30 m).trans ((KeepsOthers.setCell _ _ _).from _), ⟨(m.mono C.size).setCell (p := ⟨w.heap.size + 1 + 1, 0, none⟩) (by simp; omega) _, (Below.heap_setCell _ _ _ _ (by simp)).trans (m.block _ (by omega))⟩, ⟨⟨_, HY.out, z.set _⟩, (Below.heap_setCell _ _ _ _ (by simp)).trans t, (Below.heap_setCell _ _ _ _ (by simp; omega)).trans ((m.block _ (by omega)).trans J), by have := m.size; simp; omega⟩, (C.trans (m.mono C.size)).setCell (p := ⟨w.heap.size + 1 + 1, 0, none⟩) (by simp; omega) _⟩
  case done =>
    rintro D ys W hD rfl ⟨⟨⟨h, M, F⟩, E, J, e5⟩, C⟩ hK
    have HE : Hid ((!h || Q2A a b f s len) = Q6t (Q2A a b f s len) g pl) := by unfold Hid Q6t; rw [M]
    have al := Q5P a b f s o len cap W hl;have cH := F.cell;have cR := E.cell;have fR := E.frozen;have c0 := Q0A J 0 _ rfl;have c1 := Q0A J 1 _ rfl;have c2 := Q0A J 2 _ rfl;have c3 := Q0A J 3 _ rfl;have c4 := Q0A J 4 _ rfl
    cases h with
    | false =>
      gi_wp2
      refine ⟨trivial, ?_⟩
      gi_wp2
      have G := (KeepsOthers.setCell W ⟨w.heap.size + 1, 0, none⟩ (.bool true)).same D _ hK rfl;refine ⟨by simp, .inl ⟨_, _, rfl, run_takeDeferred G, ?_⟩⟩;have L := cell_kept (World.cell?_setCell_same' W ⟨w.heap.size + 1, 0, none⟩ (.bool true) (by rw [cR]; rfl)) (grownBy_putObj' _ D (.deferred none)) (fun r e => by cases e; exact ⟨_, G, rfl⟩);refine ⟨.bool true, ?_, Q0d HE.out, (C.setCell (p := ⟨w.heap.size + 1, 0, none⟩) (by simp) _).trans (belowK_b (w := w) (Kaq _) _ D _ _ (by omega) G rfl rfl)⟩;simp [results, Tryz.f58, go_sem, L]
    | true =>
      generalize hq : Q2A a b f s len = op at al;have HQ : Hid (op = Q6t (Q2A a b f s len) g pl) := hq.symm.trans HE.out;clear hq
      gi_wp2_with (refine ⟨trivial, ?_⟩; gi_at_call 14; refine (callsIn_wide.2 al).mono ?_; rintro e H ⟨rfl, m⟩; have t : Boxed H (w.heap.size + 1) 4 (.bool false) := (m.block _ E.lt).trans E; have O := t.cell; have V := t.frozen)
      have ar := (m.block D (Array.getElem?_eq_some_iff.1 hK).1).trans hK;have aq := C.trans (m.mono C.size);have G := (KeepsOthers.setCell H ⟨w.heap.size + 1, 0, none⟩ (.bool op)).same D _ ar rfl;refine ⟨by simp, .inl ⟨_, _, rfl, run_takeDeferred G, ?_⟩⟩;have L := cell_kept (World.cell?_setCell_same' H ⟨w.heap.size + 1, 0, none⟩ (.bool op) (by rw [O]; rfl)) (grownBy_putObj' _ D (.deferred none)) (fun r e => by cases e; exact ⟨_, G, rfl⟩)
      refine ⟨.bool op, ?_, Q0d HQ.out, (aq.setCell (p := ⟨w.heap.size + 1, 0, none⟩) (by simp) _).trans (belowK_b (w := w) (Kaq _) _ D _ _ (by omega) G rfl rfl)⟩;simp [results, Tryz.f58, go_sem, L]
  case stop =>
    rintro D c y W hD ⟨k, hk, rfl⟩ ⟨⟨rfl, am, bR⟩, C⟩ hK
    have HE : Hid (false = Q6t (Q2A a b f s len) g pl) := by unfold Hid Q6t; rw [Q8j _ k _ am hk]
    gi_wp2
    refine ⟨by simp, .inl ⟨_, _, rfl, run_takeDeferred hK, ?_⟩⟩;have L := cell_kept bR.cell (grownBy_putObj' _ D (.deferred none)) (fun r e => by cases e; exact ⟨_, hK, rfl⟩);refine ⟨.bool false, ?_, Q0d HE.out, C.trans (belowK_b (w := w) (Kaq _) W D _ _ (by omega) hK rfl rfl)⟩;simp [results, Tryz.f58, go_sem, L]
end Go.Proofs.YtpneolgdghbinaaGreat
namespace Go.Proofs.YtpneolgdghbinaaGreat
open Go.ChangeShapes Go.WideShapes Go.ChangeAt Go.RowKit Go.Joins
set_option linter.unusedVariables false
set_option linter.unusedSimpArgs false
set_option maxRecDepth 100000
set_option maxHeartbeats 40000000
def Q57 (o:Option Bool) (p:Int × Int):Option Bool:=Q55 o (p,false)
def Q7F (op:Bool):Option Bool→Bool
 |none=> false
 |some h=> !h||op
theorem Qcz:∀(l:List QbS) (o:Option Bool),l.foldl Q55 o=(l.map (·.1)).foldl Q57 o
 |[],o=> rfl
 |x::l,o=> by simp only [List.foldl_cons,List.map_cons];rw [Qcz l];cases o <;> rfl
theorem Qgi (g:List (Int × Int)) (pl:Int):(upto (Q35 g pl) g.length).map (·.1)=g:=by
 apply List.ext_getElem
 ·simp [upto]
 ·intro i h1 h2
  simp [upto,Q35,h2]
theorem Q4N (l:List (Int × Int)):l.foldl Q57 none=none:=by induction l with
 |nil=> rfl
 |cons x l ih=> exact ih
theorem Qad {x y:Int} (h:Q2Q x y=true):y=0∨y=1:=by have:=QdH.1 h;omega
theorem Q7W:∀l:List (Int × Int),Q7F false (l.foldl Q57 (some true))=false
 |[]=> rfl
 |(x,y)::l=> by
  rw [List.foldl_cons]
  cases hs:Q2Q x y with
  |false=> simp [Q57,Q55,hs,Q4N,Q7F]
  |true=>
   rcases Qad hs with h|h
   ·subst h;simp [Q57,Q55,Q4N,Q7F]
   ·subst h
    have:Q57 (some true) (x,1)=some true:=by simp [Q57,Q55,hs]
    rw [this];exact Q7W l
theorem Q5V (a:Bool):∀(l:List (Int × Int)) (h:Bool),(h=true→a=true)→Q4v a (if h then 1 else 0) l=Q7F a (l.foldl Q57 (some h))
 |[],h,hh=> by cases h <;> cases a <;> simp_all [Q4v,Q7F]
 |(x,y)::l,h,hh=> by
  rw [List.foldl_cons]
  cases hs:Q2Q x y with
  |false=> simp [Q4v,Q57,Q55,hs,Q4N,Q7F]
  |true=>
   rcases Qad hs with b|b
   ·subst b
    cases h with
    |true=> simp [Q4v,Q57,Q55,Q4N,Q7F]
    |false=>
     have e:Q57 (some false) (x,0)=some false:=by simp [Q57,Q55,hs]
     rw [e,←Q5V a l false (fun h=> by cases h)];simp [Q4v,hs]
   ·subst b
    have e:Q57 (some h) (x,1)=some true:=by simp [Q57,Q55,hs]
    rw [e]
    cases a with
    |false=> rw [Q7W];simp [Q4v]
    |true=>
     rw [←Q5V true l true (fun _=> rfl)]
     cases h <;> simp [Q4v,hs]
theorem QfX (a:Bool) (g:List (Int × Int)) (pl:Int):Q6t a g pl=Q4v a 0 g:=by
 have h:=Q5V a g false (fun h=> by cases h);rw [show (if false=true then (1:Int) else 0)=0 from rfl] at h;rw [h];unfold Q6t Qd7;rw [Qcz,Qgi]
 cases g.foldl Q57 (some false) <;> rfl
theorem QfN {a b f s:Int} {n:Nat} (h:Q0B a b f s n=true):Q2A a b f s n=Q7B f:=(Q5Z h).symm
theorem Q31 (n:Int) (w:World):Calls Tryz.prog 56 #[.int .i64 n] w fun e a=> e=.returned (.bool (decide (0≤n) && decide (n≤100000)))∧w=a:=by
 go_enter Tryz.func56,Tryz.ntmps56;go_wp2
 all_goals go_ret
 all_goals refine ⟨?_,rfl⟩
 all_goals first|(simp [*];done)|(simp;omega)
theorem Q6n (a b f s:Int) (o v:Option Addr) (len cap u:Nat) (g:List (Int × Int)) (pl st:Int) (w:World) (P:len≤maxLen) (N:g.length≤maxLen) (y:RdG w v g):
  Calls Tryz.prog 19 #[crr a b f s (.slice o len cap) (.slice v g.length u) pl st] w fun e R=> e=.returned (.bool (Q2o a b f s len g pl st))∧Below w.heap.size w R:=by
 have J:=N;unfold maxLen at J
 have m:=fun w=> Q1A a b f s o len cap w P
 have t:=Qge w a b f s (.slice o len cap) (.slice v g.length u) pl st 58
 have k:w.heap.size < (w.alloc (.cells #[.int .i64 a,.int .i64 b,.int .i64 f,.int .i64 s,.slice o len cap,.slice v g.length u,.int .i64 pl,.int .i64 st] 58)).heap.size:=by simp
 have h:Below w.heap.size w (w.alloc (.cells #[.int .i64 a,.int .i64 b,.int .i64 f,.int .i64 s,.slice o len cap,.slice v g.length u,.int .i64 pl,.int .i64 st] 58)):=(Below.refl _ _).alloc (Kaq _) _
 by_cases h1:Q0B a b f s len=true
 ·rw [h1] at m
  by_cases hst:0≤st∧st≤100000
  ·have r:(decide (0≤st) && decide (st≤100000))=true:=by simp [hst]
   have hs:=fun w=> r ▸ Q31 st w
   by_cases h3:(g.length:Int)≤24
   ·by_cases h4:0≤pl
    ·by_cases h5:pl < (g.length:Int)
     ·have T:=Q01 (Q89 (QaM.2 ⟨h1,show 1≤(g.length:Int) by omega,h3,h4,h5,hst.1,hst.2,trivial⟩))
      rcases y with y|⟨bb,off,rfl,z,l⟩
      ·subst y;simp at h5;omega
      have A:¬(24 < (g.length:Int)):=by omega
      have U:¬((g.length:Int)≤pl):=by omega
      go_enter Tryz.func19,Tryz.ntmps19;go_wp2_with fail;generalize (w.alloc (.cells #[.int .i64 a,.int .i64 b,.int .i64 f,.int .i64 s,.slice o len cap,.slice (some ⟨bb,off,none⟩) g.length u,.int .i64 pl,.int .i64 st] 58))=w0 at *;refine (m _).mono ?_;rintro e B ⟨rfl,c⟩;have j:=t.kept c k;have d:=Q01 (h.trans (c.mono (Nat.le_of_lt k)));clear h c m k t;obtain ⟨L,F,I,D,G,H,E,C⟩:=j;go_wp2_with (go_at_call 56;refine (hs _).mono ?_;rintro e M ⟨rfl,rfl⟩)
      refine (QbO a b f s o len cap bb off u g pl st B P (by omega) (Kbq z d.out.size) (fun i hi=> ⟨(d.out.cell (p:=⟨bb,off+i * 2,none⟩) z).trans (l i hi).1,(d.out.cell (p:=⟨bb,off+i * 2+1,none⟩) z).trans (l i hi).2⟩)).mono ?_;rw [QfN h1,QfX];rintro e V ⟨rfl,O⟩;clear l L F I D G H E C;go_wp2;go_ret;exact ⟨Q0d T.out,d.out.trans (O.mono d.out.size)⟩
     ·have x:=Q01 (Q25 (a:=a) (b:=b) (f:=f) (s:=s) (n:=len) (g:=g) (pl:=pl) (st:=st) (fun q=> h5 q.2.2.2.2.1))
      have A:¬(24 < (g.length:Int)):=by omega
      go_enter Tryz.func19,Tryz.ntmps19;go_wp2_with fail;generalize (w.alloc (.cells #[.int .i64 a,.int .i64 b,.int .i64 f,.int .i64 s,.slice o len cap,.slice v g.length u,.int .i64 pl,.int .i64 st] 58))=w0 at *;refine (m _).mono ?_;rintro e B ⟨rfl,c⟩;have j:=t.kept c k;have d:=Q01 (h.trans (c.mono (Nat.le_of_lt k)));clear h c m k t y;obtain ⟨L,F,I,D,G,H,E,C⟩:=j;go_wp2_with (go_at_call 56;refine (hs _).mono ?_;rintro e M ⟨rfl,rfl⟩);go_ret;exact ⟨Q0d x.out,d.out⟩
    ·have x:=Q01 (Q25 (a:=a) (b:=b) (f:=f) (s:=s) (n:=len) (g:=g) (pl:=pl) (st:=st) (fun q=> h4 q.2.2.2.1))
     have A:¬(24 < (g.length:Int)):=by omega
     go_enter Tryz.func19,Tryz.ntmps19;go_wp2_with fail;generalize (w.alloc (.cells #[.int .i64 a,.int .i64 b,.int .i64 f,.int .i64 s,.slice o len cap,.slice v g.length u,.int .i64 pl,.int .i64 st] 58))=w0 at *;refine (m _).mono ?_;rintro e B ⟨rfl,c⟩;have j:=t.kept c k;have d:=Q01 (h.trans (c.mono (Nat.le_of_lt k)));clear h c m k t y;obtain ⟨L,F,I,D,G,H,E,C⟩:=j;go_wp2_with (go_at_call 56;refine (hs _).mono ?_;rintro e M ⟨rfl,rfl⟩);go_ret;exact ⟨Q0d x.out,d.out⟩
   ·have x:=Q01 (Q25 (a:=a) (b:=b) (f:=f) (s:=s) (n:=len) (g:=g) (pl:=pl) (st:=st) (fun q=> h3 q.2.2.1))
    have A:(24 < (g.length:Int)):=by omega
    go_enter Tryz.func19,Tryz.ntmps19;go_wp2_with fail;generalize (w.alloc (.cells #[.int .i64 a,.int .i64 b,.int .i64 f,.int .i64 s,.slice o len cap,.slice v g.length u,.int .i64 pl,.int .i64 st] 58))=w0 at *;refine (m _).mono ?_;rintro e B ⟨rfl,c⟩;have j:=t.kept c k;have d:=Q01 (h.trans (c.mono (Nat.le_of_lt k)));clear h c m k t y;obtain ⟨L,F,I,D,G,H,E,C⟩:=j;go_wp2_with (go_at_call 56;refine (hs _).mono ?_;rintro e M ⟨rfl,rfl⟩);go_ret;exact ⟨Q0d x.out,d.out⟩
  ·have r:(decide (0≤st) && decide (st≤100000))=false:=by simpa using hst
   have hs:=fun w=> r ▸ Q31 st w
   have x:=Q01 (Q25 (a:=a) (b:=b) (f:=f) (s:=s) (n:=len) (g:=g) (pl:=pl) (st:=st) (fun q=> hst ⟨q.2.2.2.2.2.1,q.2.2.2.2.2.2.1⟩));go_enter Tryz.func19,Tryz.ntmps19;go_wp2_with fail;generalize (w.alloc (.cells #[.int .i64 a,.int .i64 b,.int .i64 f,.int .i64 s,.slice o len cap,.slice v g.length u,.int .i64 pl,.int .i64 st] 58))=w0 at *;refine (m _).mono ?_;rintro e B ⟨rfl,c⟩;have j:=t.kept c k;have d:=Q01 (h.trans (c.mono (Nat.le_of_lt k)));clear h c m k t y;obtain ⟨L,F,I,D,G,H,E,C⟩:=j;go_wp2_with (go_at_call 56;refine (hs _).mono ?_;rintro e M ⟨rfl,rfl⟩)
   go_ret;exact ⟨Q0d x.out,d.out⟩
 ·rw [Bool.eq_false_iff.2 h1] at m
  have x:=Q01 (Q25 (a:=a) (b:=b) (f:=f) (s:=s) (n:=len) (g:=g) (pl:=pl) (st:=st) (fun q=> h1 q.1));go_enter Tryz.func19,Tryz.ntmps19;go_wp2_with fail;generalize (w.alloc (.cells #[.int .i64 a,.int .i64 b,.int .i64 f,.int .i64 s,.slice o len cap,.slice v g.length u,.int .i64 pl,.int .i64 st] 58))=w0 at *;refine (m _).mono ?_;rintro e B ⟨rfl,c⟩;have d:=Q01 (h.trans (c.mono (Nat.le_of_lt k)));clear h c m k t y;go_wp2;go_ret;exact ⟨Q0d x.out,d.out⟩
theorem put2 {w:World} {B:Nat} {u v a c:Value} (b:w.cell? ⟨B,0,none⟩=some a) (d:w.cell? ⟨B,1,none⟩=some c):
  ((w.setCell ⟨B,0,none⟩ u).setCell ⟨B,1,none⟩ v).cell? ⟨B,0,none⟩=some u∧((w.setCell ⟨B,0,none⟩ u).setCell ⟨B,1,none⟩ v).cell? ⟨B,1,none⟩=some v:=
 ⟨(World.cell?_setCell_other _ _ _ _ (by simp)).trans (World.cell?_setCell_same _ _ _ b),World.cell?_setCell_same _ _ _ ((World.cell?_setCell_other _ _ _ _ (by simp)).trans d)⟩
end Go.Proofs.YtpneolgdghbinaaGreat
