/- Several texts in one: SRoute, SCarr2, SHere. -/
import Derived.Test.YtpneolgdghbinaaGreatQCrashesL40
import Derived.Test.YtpneolgdghbinaaGreatQCrashesL41
namespace Go.Proofs.YtpneolgdghbinaaGreat
open Go.ChangeShapes Go.WideShapes Go.ChangeAt Go.RowKit Go.Joins Go.Shelf
set_option linter.unusedVariables false
set_option linter.unusedSimpArgs false
set_option maxRecDepth 100000
set_option maxHeartbeats 40000000
attribute [local go_sem] Oper.semAt_some
def Q5d (o : Option Bool) (x : Qbp) : Option Bool :=
  match o with
  | none =>none
  | some h =>if Q2Y x.1.1 x.1.2 && !(h && x.1.2 == 0)then some (x.1.2 == 1)else none
def QcL (l : List Qbp) : Option Bool := l.foldl Q5d (some false)
theorem QaP (l : List Qbp) (x : Qbp) : QcL (l ++ [x]) = Q5d (QcL l) x := by simp[QcL]
theorem Q8f (q : Nat -> Qbp) (k m : Nat) (h : QcL (upto q k) = none) (hk : k <= m) : QcL (upto q m) = none := by
  induction m with
  | zero => have : k = 0 := by omega
            subst this; exact h
  | succ m ih =>
    rcases Nat.lt_succ_iff_lt_or_eq.1 (Nat.lt_succ_of_le hk)with h1 | h1
    · rw[Q5I, QaP, ih (by omega)]; rfl
    · rw[<- h1]; exact h
def Q6v (op : Bool) (g : List (Int × Int)) (pl : Int) : Bool :=
  match QcL (upto (Q2U g pl) g.length)with
  | none =>false
  | some h => !h || op
theorem Q2J {B : Nat} {W W' : World} (h : Below W.heap.size W W') : KeepsFrom B W W' :=
  ⟨h.size, fun i o _ hi _ =>(h.block i (KEq hi)).trans hi⟩
theorem Q0B {W : World} {B : Nat} {c : Array Value} {t : TypeId} (h : W.heap[B]? = some (.cells c t (0, 0))) (j : Nat) (u : Value) (a : c[j]? = some u) : W.cell? ⟨B, j, none⟩ = some u := by
  simp[World.cell?, h, a]
theorem QaX (a b f s : Int) (o : Option Addr) (len cap bb off v : Nat) (g : List (Int × Int)) (pl st : Int) (w : World) (hl : len <= maxLen) (aq : g.length <= 1048576) (ab : bb < w.heap.size)
    (ac : ∀ i, i < g.length -> w.cell? ⟨bb, off + i * 2, none⟩ = some (.int .i64 (g.getD i (0, 0)).1) /\ w.cell? ⟨bb, off + i * 2 + 1, none⟩ = some (.int .i64 (g.getD i (0, 0)).2)) :
    Calls Tryz.prog 58 #[crr a b f s (.slice o len cap) (.slice (some ⟨bb, off, none⟩) g.length v) pl st] w fun e w' =>e = .returned (.bool (Q6v (Q2t a b f s len) g pl)) /\ Below w.heap.size w w' := by
  refine(callsIn_wide (n := 4)).1 ?_;refine callsIn_of_wp_marks Tryz.func58 rfl trivial ?_ rfl;simp only[Tryz.ntmps58, List.size_toArray, List.length_cons, List.length_nil, Nat.reduceAdd, Nat.reduceSub, Array.replicate_succ, Array.replicate_zero, List.push_toArray, List.append_toArray, List.nil_append, List.cons_append]
  gi_wp2_with (refine⟨trivial, ?_⟩; gi_at_call 99; refine(Qcs Fence.wide (4 - 1) trivial rfl _ _ _ _ _ _ _ _ _).mono ?_; rintro e w' ⟨rfl, rfl⟩)
  have ai : ((((w.alloc (.cells (Q0z a b f s (.slice o len cap) (.slice (some ⟨bb, off, none⟩) g.length v) pl st) 58)).alloc (.cells #[.bool false] 4)).alloc (.cells #[.bool false] 4)).alloc (.cells (Q0z a b f s (.slice o len cap) (.slice (some ⟨bb, off, none⟩) g.length v) pl st) 58)).heap[w.heap.size]? = some (.cells (Q0z a b f s (.slice o len cap) (.slice (some ⟨bb, off, none⟩) g.length v) pl st) 58 (0, 0)) :=
    (Below.heap_alloc _ _ _ (by simp; omega)).trans ((Below.heap_alloc _ _ _ (by simp; omega)).trans ((Below.heap_alloc _ _ _ (by simp)).trans (World.alloc_heap_new w _)))
  have ae : Boxed ((((w.alloc (.cells (Q0z a b f s (.slice o len cap) (.slice (some ⟨bb, off, none⟩) g.length v) pl st) 58)).alloc (.cells #[.bool false] 4)).alloc (.cells #[.bool false] 4)).alloc (.cells (Q0z a b f s (.slice o len cap) (.slice (some ⟨bb, off, none⟩) g.length v) pl st) 58)) (w.heap.size + 1) 4 (.bool false) := by
    have := ((Boxed.new (w.alloc (.cells (Q0z a b f s (.slice o len cap) (.slice (some ⟨bb, off, none⟩) g.length v) pl st) 58)) 4 (.bool false)).alloc (.cells #[.bool false] 4)).alloc (.cells (Q0z a b f s (.slice o len cap) (.slice (some ⟨bb, off, none⟩) g.length v) pl st) 58)
    simpa only[World.size_alloc]using this
  have ad : Boxed ((((w.alloc (.cells (Q0z a b f s (.slice o len cap) (.slice (some ⟨bb, off, none⟩) g.length v) pl st) 58)).alloc (.cells #[.bool false] 4)).alloc (.cells #[.bool false] 4)).alloc (.cells (Q0z a b f s (.slice o len cap) (.slice (some ⟨bb, off, none⟩) g.length v) pl st) 58)) (w.heap.size + 1 + 1) 4 (.bool false) := by
    have := (Boxed.new ((w.alloc (.cells (Q0z a b f s (.slice o len cap) (.slice (some ⟨bb, off, none⟩) g.length v) pl st) 58)).alloc (.cells #[.bool false] 4)) 4 (.bool false)).alloc (.cells (Q0z a b f s (.slice o len cap) (.slice (some ⟨bb, off, none⟩) g.length v) pl st) 58)
    simpa only[World.size_alloc]using this
  have aa : ((((w.alloc (.cells (Q0z a b f s (.slice o len cap) (.slice (some ⟨bb, off, none⟩) g.length v) pl st) 58)).alloc (.cells #[.bool false] 4)).alloc (.cells #[.bool false] 4)).alloc (.cells (Q0z a b f s (.slice o len cap) (.slice (some ⟨bb, off, none⟩) g.length v) pl st) 58)).heap[w.heap.size + 1 + 1 + 1]? = some (.cells (Q0z a b f s (.slice o len cap) (.slice (some ⟨bb, off, none⟩) g.length v) pl st) 58 (0, 0)) := by
    have := World.alloc_heap_new (((w.alloc (.cells (Q0z a b f s (.slice o len cap) (.slice (some ⟨bb, off, none⟩) g.length v) pl st) 58)).alloc (.cells #[.bool false] 4)).alloc (.cells #[.bool false] 4)) (.cells (Q0z a b f s (.slice o len cap) (.slice (some ⟨bb, off, none⟩) g.length v) pl st) 58)
    simpa only[World.size_alloc]using this
  have T : Below w.heap.size w ((((w.alloc (.cells (Q0z a b f s (.slice o len cap) (.slice (some ⟨bb, off, none⟩) g.length v) pl st) 58)).alloc (.cells #[.bool false] 4)).alloc (.cells #[.bool false] 4)).alloc (.cells (Q0z a b f s (.slice o len cap) (.slice (some ⟨bb, off, none⟩) g.length v) pl st) 58)) :=
    ((((Below.refl _ w).alloc (Kaq _) _).alloc (by simp) _).alloc (by simp; omega) _).alloc (by simp; omega) _
  have aw : ((((w.alloc (.cells (Q0z a b f s (.slice o len cap) (.slice (some ⟨bb, off, none⟩) g.length v) pl st) 58)).alloc (.cells #[.bool false] 4)).alloc (.cells #[.bool false] 4)).alloc (.cells (Q0z a b f s (.slice o len cap) (.slice (some ⟨bb, off, none⟩) g.length v) pl st) 58)).heap.size = w.heap.size + 4 := by simp
  obtain⟨W0, aj⟩ : ∃ W0, (((w.alloc (.cells (Q0z a b f s (.slice o len cap) (.slice (some ⟨bb, off, none⟩) g.length v) pl st) 58)).alloc (.cells #[.bool false] 4)).alloc (.cells #[.bool false] 4)).alloc (.cells (Q0z a b f s (.slice o len cap) (.slice (some ⟨bb, off, none⟩) g.length v) pl st) 58) = W0 := ⟨_, rfl⟩;rw[aj]at ai ae ad aa T aw ⊢;clear aj
  have V : ∀ j, j < g.length -> W0.cell? ⟨bb, off + j * 2, none⟩ = some (.int .i64 (g[j]?.getD (0, 0)).1) /\ W0.cell? ⟨bb, off + j * 2 + 1, none⟩ = some (.int .i64 (g[j]?.getD (0, 0)).2) := fun j hj =>by
    have := ac j hj;rw[KFq]at this;exact⟨(T.cell (p := ⟨bb, off + j * 2, none⟩) ab).trans this.1, (T.cell (p := ⟨bb, off + j * 2 + 1, none⟩) ab).trans this.2⟩
  refine wpIn_rangeFunc_ownH rfl (by decide) (gf := 148) (lb := #[.pointer (some ⟨w.heap.size + 1 + 1 + 1, 0, none⟩)]) rfl trivial (enters_of Tryz.func148 (by kernel_rfl) rfl)
    (Q7U Fence.wide (4 - 1) trivial rfl (by decide) (w.heap.size + 1 + 1 + 1) w.heap.size bb off v g pl aq W0 (by omega) ab (by omega) (Q0B aa 5 _ rfl) (Q0B aa 6 _ rfl) V)
    (fun h k =>KpB.trans h k)
    (fun W l ob an ar am au av =>⟨belowK_b (w := W0) (by omega) W l ob an ar am au av, (grownBy_putObj' W l an).block _ (by have := (KEq am); omega) (by simp; omega)⟩)
    KBq (fun _ =>rfl)
    (fun y W =>((∃ h, QcL y = some h /\ Boxed W (w.heap.size + 1 + 1) 4 (.bool h)) /\ Boxed W (w.heap.size + 1) 4 (.bool false) /\ W.heap[w.heap.size]? = some (.cells (Q0z a b f s (.slice o len cap) (.slice (some ⟨bb, off, none⟩) g.length v) pl st) 58 (0, 0)) /\ w.heap.size + 4 <= W.heap.size) /\ Below w.heap.size w W)
    (fun c y W =>(c = .ret /\ QcL y = none /\ Boxed W (w.heap.size + 1) 4 (.bool false)) /\ Below w.heap.size w W)
    (OwnFrom.and (Own.from (fun q A B row hs Z hr =>by obtain⟨⟨h, M, F⟩, E, J, e5⟩ := hs; exact⟨⟨h, M, Q2E F Z hr⟩, Q2E E Z hr, Q2E J Z hr, Kdq e5 Z.size⟩) _) (ownFrom_below (Kaq _) (by omega)))
    (fun c =>OwnFrom.and (Own.from (fun q A B row hs Z hr =>by obtain⟨e0, M, F⟩ := hs; exact⟨e0, M, Q2E F Z hr⟩) _) (ownFrom_below (Kaq _) (by omega)))
    ⟨⟨⟨false, rfl, ad⟩, ae, ai, by omega⟩, T⟩
    (fun x a' W => ∃ Bx, w.heap.size + 1 + 1 + 1 < Bx /\ W.heap[Bx]? = some (.cells #[.int .i64 x.1.1, .int .i64 x.1.2] 50 (0, 0)) /\ a' = { tmps := #[crr a b f s (.slice o len cap) (.slice (some ⟨bb, off, none⟩) g.length v) pl st, .pointer (some ⟨w.heap.size, 0, none⟩), .pointer (some ⟨w.heap.size + 1, 0, none⟩), .pointer (some ⟨w.heap.size + 1 + 1, 0, none⟩), .pointer (some ⟨Bx, 0, none⟩), .agg #[.int .i64 a, .int .i64 b, .int .i64 f, .int .i64 s, .slice o len cap, .slice (some ⟨bb, off, none⟩) g.length v, .int .i64 pl, .int .i64 st], .func (.func 148) #[] #[.pointer (some ⟨w.heap.size + 1 + 1 + 1, 0, none⟩)], seg x.1.1 x.1.2, .bool x.2, undef, undef, undef, undef, undef, undef, undef, undef, undef, undef, undef, undef, undef, undef, undef, undef, undef, undef, undef, undef, undef], defers := [] })
    (fun x a' _ X Y row hs Z hr =>by obtain⟨Bx, M, F, E⟩ := hs; exact⟨Bx, M, Q2E F Z (fun r e =>(hr r e).2), E⟩)
    ?assign ?body ?done ?stop
  case assign =>
    rintro l y x W K ⟨⟨⟨h, M, F⟩, E, J, e5⟩, C⟩ hK
    gi_wp2
    refine hK _ _ ((KeepsOthers.alloc _ _).from _) ⟨(Below.refl _ W).alloc C.size _, heap_alloc_old W _ _ (by omega)⟩ ⟨⟨⟨h, M, F.alloc _⟩, E.alloc _, (heap_alloc_old W _ _ (by omega)).trans J, Kdq e5 (by simp)⟩, C.alloc C.size _⟩ ⟨W.heap.size, by omega, World.alloc_heap_new W _, rfl⟩
  case body =>
    rintro l y ⟨⟨x1, P⟩, d⟩ a' W hl ⟨r, hr⟩ ⟨⟨⟨h, M, F⟩, E, J, e5⟩, C⟩ ⟨Bx, az, U, rfl⟩ aA;dsimp only at U;have ax := Q0B U 0 _ rfl;have ay := Q0B U 1 _ rfl;have I := Q9f x1 P W;have u := Q02 (QaP y ((x1, P), d));rw[M]at u
    cases hs : Q2Y x1 P with
    | false =>
      rw[hs]at I
      have HN : Hid (QcL (y ++ [((x1, P), d)]) = none) := by unfold Hid; rw[u.out]; simp[Q5d, hs]
      clear u
      gi_wp2_with (refine⟨trivial, ?_⟩; gi_at_call 107; refine(CallsIn.inRound l (callsIn_wide.2 I)).mono ?_; rintro e H ⟨rfl, m⟩; have t : Boxed H (w.heap.size + 1) 4 (.bool false) := (m.block _ E.lt).trans E; have L := t.cell; have R := t.frozen)
      exact⟨(Q2J m).trans ((KeepsOthers.setCell _ _ _).from _), ⟨rfl, HN.out, t.set _⟩, (C.trans (m.mono C.size)).setCell (p := ⟨w.heap.size + 1, 0, none⟩) (by simp) _⟩
    | true =>
      rw[hs]at I
      cases h with
      | false =>
        have HY : Hid (QcL (y ++ [((x1, P), d)]) = some (P == 1)) := by unfold Hid; rw[u.out]; simp[Q5d, hs]
        clear u
        gi_wp2_with (refine⟨trivial, ?_⟩; gi_at_call 107; refine(CallsIn.inRound l (callsIn_wide.2 I)).mono ?_; rintro e H ⟨rfl, m⟩; have t : Boxed H (w.heap.size + 1) 4 (.bool false) := (m.block _ E.lt).trans E; have L := t.cell; have R := t.frozen; have z : Boxed H (w.heap.size + 1 + 1) 4 _ := (m.block _ F.lt).trans F; have af := z.cell; have ah := z.frozen; have N := (m.block _ (KEq U)).trans U; have ag := Q0B N 1 _ rfl)
        exact⟨(Q2J m).trans ((KeepsOthers.setCell _ _ _).from _), ⟨(m.mono C.size).setCell (p := ⟨w.heap.size + 1 + 1, 0, none⟩) (by simp; omega) _, (Below.heap_setCell _ _ _ _ (by simp)).trans (m.block _ (by omega))⟩, ⟨⟨_, HY.out, z.set _⟩, (Below.heap_setCell _ _ _ _ (by simp)).trans t, (Below.heap_setCell _ _ _ _ (by simp; omega)).trans ((m.block _ (by omega)).trans J), by have := m.size; simp; omega⟩, (C.trans (m.mono C.size)).setCell (p := ⟨w.heap.size + 1 + 1, 0, none⟩) (by simp; omega) _⟩
      | true =>
        by_cases hx : P = 0
        · subst hx
          have HN : Hid (QcL (y ++ [((x1, 0), d)]) = none) := by unfold Hid; rw[u.out]; simp[Q5d, hs]
          clear u
          gi_wp2_with (refine⟨trivial, ?_⟩; gi_at_call 107; refine(CallsIn.inRound l (callsIn_wide.2 I)).mono ?_; rintro e H ⟨rfl, m⟩; have t : Boxed H (w.heap.size + 1) 4 (.bool false) := (m.block _ E.lt).trans E; have L := t.cell; have R := t.frozen; have z : Boxed H (w.heap.size + 1 + 1) 4 _ := (m.block _ F.lt).trans F; have af := z.cell; have ah := z.frozen; have N := (m.block _ (KEq U)).trans U; have ag := Q0B N 1 _ rfl)
          exact⟨(Q2J m).trans ((KeepsOthers.setCell _ _ _).from _), ⟨rfl, HN.out, t.set _⟩, (C.trans (m.mono C.size)).setCell (p := ⟨w.heap.size + 1, 0, none⟩) (by simp) _⟩
        · have aB : (P == 0) = false := by simp[hx]
          have HY : Hid (QcL (y ++ [((x1, P), d)]) = some (P == 1)) := by unfold Hid; rw[u.out]; simp[Q5d, hs, hx]
          clear u
          gi_wp2_with (refine⟨trivial, ?_⟩; gi_at_call 107; refine(CallsIn.inRound l (callsIn_wide.2 I)).mono ?_; rintro e H ⟨rfl, m⟩; have t : Boxed H (w.heap.size + 1) 4 (.bool false) := (m.block _ E.lt).trans E; have L := t.cell; have R := t.frozen; have z : Boxed H (w.heap.size + 1 + 1) 4 _ := (m.block _ F.lt).trans F; have af := z.cell; have ah := z.frozen; have N := (m.block _ (KEq U)).trans U; have ag := Q0B N 1 _ rfl)
          exact⟨(Q2J m).trans ((KeepsOthers.setCell _ _ _).from _), ⟨(m.mono C.size).setCell (p := ⟨w.heap.size + 1 + 1, 0, none⟩) (by simp; omega) _, (Below.heap_setCell _ _ _ _ (by simp)).trans (m.block _ (by omega))⟩, ⟨⟨_, HY.out, z.set _⟩, (Below.heap_setCell _ _ _ _ (by simp)).trans t, (Below.heap_setCell _ _ _ _ (by simp; omega)).trans ((m.block _ (by omega)).trans J), by have := m.size; simp; omega⟩, (C.trans (m.mono C.size)).setCell (p := ⟨w.heap.size + 1 + 1, 0, none⟩) (by simp; omega) _⟩
  case done =>
    rintro D ys W hD rfl ⟨⟨⟨h, M, F⟩, E, J, e5⟩, C⟩ hK
    have HE : Hid ((!h || Q2t a b f s len) = Q6v (Q2t a b f s len) g pl) := by unfold Hid Q6v; rw[M]
    have ak := Q5F a b f s o len cap W hl;have cH := F.cell;have cR := E.cell;have fR := E.frozen;have c0 := Q0B J 0 _ rfl;have c1 := Q0B J 1 _ rfl;have c2 := Q0B J 2 _ rfl;have c3 := Q0B J 3 _ rfl;have c4 := Q0B J 4 _ rfl
    cases h with
    | false =>
      gi_wp2
      refine⟨trivial, ?_⟩
      gi_wp2
      have G := (KeepsOthers.setCell W ⟨w.heap.size + 1, 0, none⟩ (.bool true)).same D _ hK rfl;refine⟨by simp, .inl ⟨_, _, rfl, run_takeDeferred G, ?_⟩⟩;have O := cell_kept (World.cell?_setCell_same' W ⟨w.heap.size + 1, 0, none⟩ (.bool true) (by rw[cR]; rfl)) (grownBy_putObj' _ D (.deferred none)) (fun r e =>by cases e; exact⟨_, G, rfl⟩);refine⟨.bool true, ?_, Q08 HE.out, (C.setCell (p := ⟨w.heap.size + 1, 0, none⟩) (by simp) _).trans (belowK_b (w := w) (Kaq _) _ D _ _ (by omega) G rfl rfl)⟩;simp[results, Tryz.f58, go_sem, O]
    | true =>
      generalize hq : Q2t a b f s len = op at ak;have HQ : Hid (op = Q6v (Q2t a b f s len) g pl) := hq.symm.trans HE.out;clear hq
      gi_wp2_with (refine⟨trivial, ?_⟩; gi_at_call 14; refine(callsIn_wide.2 ak).mono ?_; rintro e H ⟨rfl, m⟩; have t : Boxed H (w.heap.size + 1) 4 (.bool false) := (m.block _ E.lt).trans E; have L := t.cell; have R := t.frozen)
      have ap := (m.block D (KEq hK)).trans hK;have ao := C.trans (m.mono C.size);have G := (KeepsOthers.setCell H ⟨w.heap.size + 1, 0, none⟩ (.bool op)).same D _ ap rfl;refine⟨by simp, .inl ⟨_, _, rfl, run_takeDeferred G, ?_⟩⟩;have O := cell_kept (World.cell?_setCell_same' H ⟨w.heap.size + 1, 0, none⟩ (.bool op) (by rw[L]; rfl)) (grownBy_putObj' _ D (.deferred none)) (fun r e =>by cases e; exact⟨_, G, rfl⟩)
      refine⟨.bool op, ?_, Q08 HQ.out, (ao.setCell (p := ⟨w.heap.size + 1, 0, none⟩) (by simp) _).trans (belowK_b (w := w) (Kaq _) _ D _ _ (by omega) G rfl rfl)⟩;simp[results, Tryz.f58, go_sem, O]
  case stop =>
    rintro D c y W hD ⟨k, hk, rfl⟩ ⟨⟨rfl, al, bR⟩, C⟩ hK
    have HE : Hid (false = Q6v (Q2t a b f s len) g pl) := by unfold Hid Q6v; rw[Q8f _ k _ al hk]
    gi_wp2
    refine⟨by simp, .inl ⟨_, _, rfl, run_takeDeferred hK, ?_⟩⟩;have O := cell_kept bR.cell (grownBy_putObj' _ D (.deferred none)) (fun r e =>by cases e; exact⟨_, hK, rfl⟩);refine⟨.bool false, ?_, Q08 HE.out, C.trans (belowK_b (w := w) (Kaq _) W D _ _ (by omega) hK rfl rfl)⟩;simp[results, Tryz.f58, go_sem, O]
end Go.Proofs.YtpneolgdghbinaaGreat
namespace Go.Proofs.YtpneolgdghbinaaGreat
open Go.ChangeShapes Go.WideShapes Go.ChangeAt Go.RowKit Go.Joins
set_option linter.unusedVariables false
set_option linter.unusedSimpArgs false
set_option maxRecDepth 100000
set_option maxHeartbeats 40000000
def Q53 (o:Option Bool) (p:Int × Int):Option Bool:=Q5d o (p,false)
def Q7w (op:Bool):Option Bool->Bool
 |none=>false
 |some h=> !h||op
theorem Qcv:∀(l:List Qbp) (o:Option Bool),l.foldl Q5d o=(l.map (·.1)).foldl Q53 o
 |[],o=>rfl
 |x::l,o=>by simp only[List.foldl_cons,List.map_cons];rw[Qcv l];cases o <;> rfl
theorem QgE (g:List (Int × Int)) (pl:Int):(upto (Q2U g pl) g.length).map (·.1)=g:=by
 apply List.ext_getElem
 ·simp[upto]
 ·intro i h1 h2
  simp[upto,Q2U,h2]
theorem Q4D (l:List (Int × Int)):l.foldl Q53 none=none:=by induction l with
 |nil=>rfl
 |cons x l ih=>exact ih
theorem QaL {x y:Int} (h:Q2Y x y=true):y=0\/y=1:=by have:=Qd5.1 h;omega
theorem Q7l:∀l:List (Int × Int),Q7w false (l.foldl Q53 (some true))=false
 |[]=>rfl
 |(x,y)::l=>by
  rw[List.foldl_cons]
  cases hs:Q2Y x y with
  |false=>simp[Q53,Q5d,hs,Q4D,Q7w]
  |true=>
   rcases QaL hs with h|h
   ·subst h;simp[Q53,Q5d,Q4D,Q7w]
   ·subst h
    have:Q53 (some true) (x,1)=some true:=by simp[Q53,Q5d,hs]
    rw[this];exact Q7l l
theorem Q5X (a:Bool):∀(l:List (Int × Int)) (h:Bool),(h=true->a=true)->Q4h a (if h then 1 else 0) l=Q7w a (l.foldl Q53 (some h))
 |[],h,hh=>by cases h <;> cases a <;> simp_all [Q4h,Q7w]
 |(x,y)::l,h,hh=>by
  rw[List.foldl_cons]
  cases hs:Q2Y x y with
  |false=>simp[Q4h,Q53,Q5d,hs,Q4D,Q7w]
  |true=>
   rcases QaL hs with b|b
   ·subst b
    cases h with
    |true=>simp[Q4h,Q53,Q5d,Q4D,Q7w]
    |false=>
     have e:Q53 (some false) (x,0)=some false:=by simp[Q53,Q5d,hs]
     rw[e,<-Q5X a l false (fun h=>by cases h)];simp[Q4h,hs]
   ·subst b
    have e:Q53 (some h) (x,1)=some true:=by simp[Q53,Q5d,hs]
    rw[e]
    cases a with
    |false=>rw[Q7l];simp[Q4h]
    |true=>
     rw[<-Q5X true l true (fun _=>rfl)]
     cases h <;> simp[Q4h,hs]
theorem Qf6 (a:Bool) (g:List (Int × Int)) (pl:Int):Q6v a g pl=Q4h a 0 g:=by
 have h:=Q5X a g false (fun h=>by cases h);rw[show(if false=true then(1:Int)else 0)=0 from rfl]at h;rw[h];unfold Q6v QcL;rw[Qcv,QgE]
 cases g.foldl Q53 (some false) <;> rfl
theorem Qeg {a b f s:Int} {n:Nat} (h:Q0D a b f s n=true):Q2t a b f s n=Q83 f:=(Q62 h).symm
theorem Q2I (n:Int) (w:World):Calls Tryz.prog 56 #[.int .i64 n] w fun e a=>e=.returned (.bool (decide (0<=n) && decide (n<=100000)))/\w=a:=by
 go_enter Tryz.func56,Tryz.ntmps56;go_wp2
 all_goals go_ret
 all_goals refine⟨?_,rfl⟩
 all_goals first|(simp[*];done)|(simp;omega)
theorem Q5R (a b f s:Int) (o v:Option Addr) (len cap t:Nat) (g:List (Int × Int)) (pl st:Int) (w:World) (P:len<=maxLen) (O:g.length<=maxLen) (y:RdG w v g):
  Calls Tryz.prog 19 #[crr a b f s (.slice o len cap) (.slice v g.length t) pl st] w fun e U=>e=.returned (.bool (Q2e a b f s len g pl st))/\Below w.heap.size w U:=by
 have C:=O;unfold maxLen at C
 have m:=fun w=>Q1o a b f s o len cap w P
 have r:=Qgk w a b f s (.slice o len cap) (.slice v g.length t) pl st 58
 have k:w.heap.size < (w.alloc (.cells #[.int .i64 a,.int .i64 b,.int .i64 f,.int .i64 s,.slice o len cap,.slice v g.length t,.int .i64 pl,.int .i64 st] 58)).heap.size:=by simp
 have h:Below w.heap.size w (w.alloc (.cells #[.int .i64 a,.int .i64 b,.int .i64 f,.int .i64 s,.slice o len cap,.slice v g.length t,.int .i64 pl,.int .i64 st] 58)):=KBq.alloc (Kaq _) _
 by_cases h1:Q0D a b f s len=true
 ·rw[h1]at m
  by_cases hst:0<=st/\st<=100000
  ·have u:(decide (0<=st) && decide (st<=100000))=true:=by simp[hst]
   have hs:=fun w=>u ▸ Q2I st w
   by_cases h3:(g.length:Int)<=24
   ·by_cases h4:0<=pl
    ·by_cases h5:pl < (g.length:Int)
     ·have R:=Q02 (Q8r (QaE.2 ⟨h1,show 1<=(g.length:Int)by omega,h3,h4,h5,hst.1,hst.2,trivial⟩))
      rcases y with y|⟨bb,off,rfl,z,l⟩
      ·subst y;simp at h5;omega
      have A:¬(24 < (g.length:Int)):=by omega
      have T:¬((g.length:Int)<=pl):=by omega
      go_enter Tryz.func19,Tryz.ntmps19;go_wp2_with fail;generalize (w.alloc (.cells #[.int .i64 a,.int .i64 b,.int .i64 f,.int .i64 s,.slice o len cap,.slice (some ⟨bb,off,none⟩) g.length t,.int .i64 pl,.int .i64 st] 58))=w0 at *;refine(m _).mono ?_;rintro e B ⟨rfl,c⟩;have j:=r.kept c k;have d:=Q02 (h.trans (c.mono (KIq k)));clear h c m k r;obtain⟨D,E,F,G,H,I,J,L⟩:=j;go_wp2_with (go_at_call 56;refine(hs _).mono ?_;rintro e M ⟨rfl,rfl⟩)
      refine(QaX a b f s o len cap bb off t g pl st B P (by omega) (Kbq z d.out.size) (fun i hi=>⟨(d.out.cell (p:=⟨bb,off+i * 2,none⟩) z).trans (l i hi).1,(d.out.cell (p:=⟨bb,off+i * 2+1,none⟩) z).trans (l i hi).2⟩)).mono ?_;rw[Qeg h1,Qf6];rintro e V ⟨rfl,N⟩;clear l D E F G H I J L;go_wp2;go_ret;exact⟨Q08 R.out,d.out.trans (N.mono d.out.size)⟩
     ·have x:=Q02 (Q24 (a:=a) (b:=b) (f:=f) (s:=s) (n:=len) (g:=g) (pl:=pl) (st:=st) (fun q=>h5 q.2.2.2.2.1))
      have A:¬(24 < (g.length:Int)):=by omega
      go_enter Tryz.func19,Tryz.ntmps19;go_wp2_with fail;generalize (w.alloc (.cells #[.int .i64 a,.int .i64 b,.int .i64 f,.int .i64 s,.slice o len cap,.slice v g.length t,.int .i64 pl,.int .i64 st] 58))=w0 at *;refine(m _).mono ?_;rintro e B ⟨rfl,c⟩;have j:=r.kept c k;have d:=Q02 (h.trans (c.mono (KIq k)));clear h c m k r y;obtain⟨D,E,F,G,H,I,J,L⟩:=j;go_wp2_with (go_at_call 56;refine(hs _).mono ?_;rintro e M ⟨rfl,rfl⟩);go_ret;exact⟨Q08 x.out,d.out⟩
    ·have x:=Q02 (Q24 (a:=a) (b:=b) (f:=f) (s:=s) (n:=len) (g:=g) (pl:=pl) (st:=st) (fun q=>h4 q.2.2.2.1))
     have A:¬(24 < (g.length:Int)):=by omega
     go_enter Tryz.func19,Tryz.ntmps19;go_wp2_with fail;generalize (w.alloc (.cells #[.int .i64 a,.int .i64 b,.int .i64 f,.int .i64 s,.slice o len cap,.slice v g.length t,.int .i64 pl,.int .i64 st] 58))=w0 at *;refine(m _).mono ?_;rintro e B ⟨rfl,c⟩;have j:=r.kept c k;have d:=Q02 (h.trans (c.mono (KIq k)));clear h c m k r y;obtain⟨D,E,F,G,H,I,J,L⟩:=j;go_wp2_with (go_at_call 56;refine(hs _).mono ?_;rintro e M ⟨rfl,rfl⟩);go_ret;exact⟨Q08 x.out,d.out⟩
   ·have x:=Q02 (Q24 (a:=a) (b:=b) (f:=f) (s:=s) (n:=len) (g:=g) (pl:=pl) (st:=st) (fun q=>h3 q.2.2.1))
    have A:(24 < (g.length:Int)):=by omega
    go_enter Tryz.func19,Tryz.ntmps19;go_wp2_with fail;generalize (w.alloc (.cells #[.int .i64 a,.int .i64 b,.int .i64 f,.int .i64 s,.slice o len cap,.slice v g.length t,.int .i64 pl,.int .i64 st] 58))=w0 at *;refine(m _).mono ?_;rintro e B ⟨rfl,c⟩;have j:=r.kept c k;have d:=Q02 (h.trans (c.mono (KIq k)));clear h c m k r y;obtain⟨D,E,F,G,H,I,J,L⟩:=j;go_wp2_with (go_at_call 56;refine(hs _).mono ?_;rintro e M ⟨rfl,rfl⟩);go_ret;exact⟨Q08 x.out,d.out⟩
  ·have u:(decide (0<=st) && decide (st<=100000))=false:=by simpa using hst
   have hs:=fun w=>u ▸ Q2I st w
   have x:=Q02 (Q24 (a:=a) (b:=b) (f:=f) (s:=s) (n:=len) (g:=g) (pl:=pl) (st:=st) (fun q=>hst ⟨q.2.2.2.2.2.1,q.2.2.2.2.2.2.1⟩));go_enter Tryz.func19,Tryz.ntmps19;go_wp2_with fail;generalize (w.alloc (.cells #[.int .i64 a,.int .i64 b,.int .i64 f,.int .i64 s,.slice o len cap,.slice v g.length t,.int .i64 pl,.int .i64 st] 58))=w0 at *;refine(m _).mono ?_;rintro e B ⟨rfl,c⟩;have j:=r.kept c k;have d:=Q02 (h.trans (c.mono (KIq k)));clear h c m k r y;obtain⟨D,E,F,G,H,I,J,L⟩:=j;go_wp2_with (go_at_call 56;refine(hs _).mono ?_;rintro e M ⟨rfl,rfl⟩)
   go_ret;exact⟨Q08 x.out,d.out⟩
 ·rw[Bool.eq_false_iff.2 h1]at m
  have x:=Q02 (Q24 (a:=a) (b:=b) (f:=f) (s:=s) (n:=len) (g:=g) (pl:=pl) (st:=st) (fun q=>h1 q.1));go_enter Tryz.func19,Tryz.ntmps19;go_wp2_with fail;generalize (w.alloc (.cells #[.int .i64 a,.int .i64 b,.int .i64 f,.int .i64 s,.slice o len cap,.slice v g.length t,.int .i64 pl,.int .i64 st] 58))=w0 at *;refine(m _).mono ?_;rintro e B ⟨rfl,c⟩;have d:=Q02 (h.trans (c.mono (KIq k)));clear h c m k r y;go_wp2;go_ret;exact⟨Q08 x.out,d.out⟩
theorem put2 {w:World} {B:Nat} {u v c d:Value} (a:w.cell? ⟨B,0,none⟩=some c) (b:w.cell? ⟨B,1,none⟩=some d):
  ((w.setCell ⟨B,0,none⟩ u).setCell ⟨B,1,none⟩ v).cell? ⟨B,0,none⟩=some u/\((w.setCell ⟨B,0,none⟩ u).setCell ⟨B,1,none⟩ v).cell? ⟨B,1,none⟩=some v:=
 ⟨(World.cell?_setCell_other _ _ _ _ (by simp)).trans (World.cell?_setCell_same _ _ _ a),World.cell?_setCell_same _ _ _ ((World.cell?_setCell_other _ _ _ _ (by simp)).trans b)⟩
end Go.Proofs.YtpneolgdghbinaaGreat
