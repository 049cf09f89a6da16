/- Several texts in one: SRoute, SCarr2, SHere. -/
import Derived.Test.YteffhdcankkfkaaGreatQListed21
import Derived.Test.YteffhdcankkfkaaGreatQListed22
namespace Go.Proofs.YteffhdcankkfkaaGreat
open Go.ChangeShapes Go.WideShapes Go.ChangeAt Go.RowKit Go.Joins Go.Shelf
set_option linter.unusedVariables false
set_option linter.unusedSimpArgs false
set_option maxRecDepth 100000
set_option maxHeartbeats 40000000
attribute [local go_sem] Oper.semAt_some
def Q4f (o : Option Bool) (x : QfH) : Option Bool :=
  match o with
  | none =>none
  | some h =>if Q1s x.1.1 x.1.2 && !(h && x.1.2 == 0)then some (x.1.2 == 1)else none
def Qdu (l : List QfH) : Option Bool := l.foldl Q4f (some false)
theorem Q9N (l : List QfH) (x : QfH) : Qdu (l ++ [x]) = Q4f (Qdu l) x := by simp[Qdu]
theorem Q7E (q : Nat -> QfH) (k m : Nat) (h : Qdu (upto q k) = none) (hk : k <= m) : Qdu (upto q m) = none := by
  induction m with
  | zero => have : k = 0 := by omega
            subst this; exact h
  | succ m ih =>
    rcases Nat.lt_succ_iff_lt_or_eq.1 (Nat.lt_succ_of_le hk)with h1 | h1
    · rw[Q7c, Q9N, ih (by omega)]; rfl
    · rw[<- h1]; exact h
def Q5E (op : Bool) (g : List (Int × Int)) (pl : Int) : Bool :=
  match Qdu (upto (Q3r g pl) g.length)with
  | none =>false
  | some h => !h || op
theorem Q37 {B : Nat} {W W' : World} (h : Below W.heap.size W W') : KeepsFrom B W W' :=
  ⟨h.size, fun i o _ hi _ =>(h.block i (KEq hi)).trans hi⟩
theorem Q01 {W : World} {B : Nat} {c : Array Value} {t : TypeId} (h : W.heap[B]? = some (.cells c t (0, 0))) (j : Nat) (u : Value) (a : c[j]? = some u) : W.cell? ⟨B, j, none⟩ = some u := by
  simp[World.cell?, h, a]
theorem Qby (a b f s : Int) (o : Option Addr) (len cap bb t y : Nat) (g : List (Int × Int)) (pl st : Int) (w : World) (hl : len <= maxLen) (aq : g.length <= 1048576) (ab : bb < w.heap.size)
    (ac : ∀ i, i < g.length -> w.cell? ⟨bb, t + i * 2, none⟩ = some (.int .i64 (g.getD i (0, 0)).1) /\ w.cell? ⟨bb, t + i * 2 + 1, none⟩ = some (.int .i64 (g.getD i (0, 0)).2)) :
    Calls Tryz.prog 252 #[crr a b f s (.slice o len cap) (.slice (some ⟨bb, t, none⟩) g.length y) pl st] w fun e w' =>e = .returned (.bool (Q5E (Q26 a b f s len) g pl)) /\ Below w.heap.size w w' := by
  refine(callsIn_wide (n := 4)).1 ?_;refine callsIn_of_wp_marks Tryz.func252 rfl trivial ?_ rfl;simp only[Tryz.ntmps252, List.size_toArray, List.length_cons, List.length_nil, Nat.reduceAdd, Nat.reduceSub, Array.replicate_succ, Array.replicate_zero, List.push_toArray, List.append_toArray, List.nil_append, List.cons_append]
  gi_wp2_with (refine⟨trivial, ?_⟩; gi_at_call 261; refine(QfE Fence.wide (4 - 1) trivial rfl _ _ _ _ _ _ _ _ _).mono ?_; rintro e w' ⟨rfl, rfl⟩)
  have ai : ((((w.alloc (.cells (Q0z a b f s (.slice o len cap) (.slice (some ⟨bb, t, none⟩) g.length y) pl st) 111)).alloc (.cells #[.bool false] 4)).alloc (.cells #[.bool false] 4)).alloc (.cells (Q0z a b f s (.slice o len cap) (.slice (some ⟨bb, t, none⟩) g.length y) pl st) 111)).heap[w.heap.size]? = some (.cells (Q0z a b f s (.slice o len cap) (.slice (some ⟨bb, t, none⟩) g.length y) pl st) 111 (0, 0)) :=
    (Below.heap_alloc _ _ _ (by simp; omega)).trans ((Below.heap_alloc _ _ _ (by simp; omega)).trans ((Below.heap_alloc _ _ _ (by simp)).trans (World.alloc_heap_new w _)))
  have ae : Boxed ((((w.alloc (.cells (Q0z a b f s (.slice o len cap) (.slice (some ⟨bb, t, none⟩) g.length y) pl st) 111)).alloc (.cells #[.bool false] 4)).alloc (.cells #[.bool false] 4)).alloc (.cells (Q0z a b f s (.slice o len cap) (.slice (some ⟨bb, t, none⟩) g.length y) pl st) 111)) (w.heap.size + 1) 4 (.bool false) := by
    have := ((Boxed.new (w.alloc (.cells (Q0z a b f s (.slice o len cap) (.slice (some ⟨bb, t, none⟩) g.length y) pl st) 111)) 4 (.bool false)).alloc (.cells #[.bool false] 4)).alloc (.cells (Q0z a b f s (.slice o len cap) (.slice (some ⟨bb, t, none⟩) g.length y) pl st) 111)
    simpa only[World.size_alloc]using this
  have ad : Boxed ((((w.alloc (.cells (Q0z a b f s (.slice o len cap) (.slice (some ⟨bb, t, none⟩) g.length y) pl st) 111)).alloc (.cells #[.bool false] 4)).alloc (.cells #[.bool false] 4)).alloc (.cells (Q0z a b f s (.slice o len cap) (.slice (some ⟨bb, t, none⟩) g.length y) pl st) 111)) (w.heap.size + 1 + 1) 4 (.bool false) := by
    have := (Boxed.new ((w.alloc (.cells (Q0z a b f s (.slice o len cap) (.slice (some ⟨bb, t, none⟩) g.length y) pl st) 111)).alloc (.cells #[.bool false] 4)) 4 (.bool false)).alloc (.cells (Q0z a b f s (.slice o len cap) (.slice (some ⟨bb, t, none⟩) g.length y) pl st) 111)
    simpa only[World.size_alloc]using this
  have aa : ((((w.alloc (.cells (Q0z a b f s (.slice o len cap) (.slice (some ⟨bb, t, none⟩) g.length y) pl st) 111)).alloc (.cells #[.bool false] 4)).alloc (.cells #[.bool false] 4)).alloc (.cells (Q0z a b f s (.slice o len cap) (.slice (some ⟨bb, t, none⟩) g.length y) pl st) 111)).heap[w.heap.size + 1 + 1 + 1]? = some (.cells (Q0z a b f s (.slice o len cap) (.slice (some ⟨bb, t, none⟩) g.length y) pl st) 111 (0, 0)) := by
    have := World.alloc_heap_new (((w.alloc (.cells (Q0z a b f s (.slice o len cap) (.slice (some ⟨bb, t, none⟩) g.length y) pl st) 111)).alloc (.cells #[.bool false] 4)).alloc (.cells #[.bool false] 4)) (.cells (Q0z a b f s (.slice o len cap) (.slice (some ⟨bb, t, none⟩) g.length y) pl st) 111)
    simpa only[World.size_alloc]using this
  have U : Below w.heap.size w ((((w.alloc (.cells (Q0z a b f s (.slice o len cap) (.slice (some ⟨bb, t, none⟩) g.length y) pl st) 111)).alloc (.cells #[.bool false] 4)).alloc (.cells #[.bool false] 4)).alloc (.cells (Q0z a b f s (.slice o len cap) (.slice (some ⟨bb, t, none⟩) g.length y) pl st) 111)) :=
    ((((Below.refl _ w).alloc (Kaq _) _).alloc (by simp) _).alloc (by simp; omega) _).alloc (by simp; omega) _
  have aw : ((((w.alloc (.cells (Q0z a b f s (.slice o len cap) (.slice (some ⟨bb, t, none⟩) g.length y) pl st) 111)).alloc (.cells #[.bool false] 4)).alloc (.cells #[.bool false] 4)).alloc (.cells (Q0z a b f s (.slice o len cap) (.slice (some ⟨bb, t, none⟩) g.length y) pl st) 111)).heap.size = w.heap.size + 4 := by simp
  obtain⟨W0, aj⟩ : ∃ W0, (((w.alloc (.cells (Q0z a b f s (.slice o len cap) (.slice (some ⟨bb, t, none⟩) g.length y) pl st) 111)).alloc (.cells #[.bool false] 4)).alloc (.cells #[.bool false] 4)).alloc (.cells (Q0z a b f s (.slice o len cap) (.slice (some ⟨bb, t, none⟩) g.length y) pl st) 111) = W0 := ⟨_, rfl⟩;rw[aj]at ai ae ad aa U aw ⊢;clear aj
  have Z : ∀ j, j < g.length -> W0.cell? ⟨bb, t + j * 2, none⟩ = some (.int .i64 (g[j]?.getD (0, 0)).1) /\ W0.cell? ⟨bb, t + j * 2 + 1, none⟩ = some (.int .i64 (g[j]?.getD (0, 0)).2) := fun j hj =>by
    have := ac j hj;rw[KFq]at this;exact⟨(U.cell (p := ⟨bb, t + j * 2, none⟩) ab).trans this.1, (U.cell (p := ⟨bb, t + j * 2 + 1, none⟩) ab).trans this.2⟩
  refine wpIn_rangeFunc_ownH rfl (by decide) (gf := 270) (lb := #[.pointer (some ⟨w.heap.size + 1 + 1 + 1, 0, none⟩)]) rfl trivial (enters_of Tryz.func270 (by kernel_rfl) rfl)
    (Qb4 Fence.wide (4 - 1) trivial rfl (by decide) (w.heap.size + 1 + 1 + 1) w.heap.size bb t y g pl aq W0 (by omega) ab (by omega) (Q01 aa 5 _ rfl) (Q01 aa 6 _ rfl) Z)
    (fun h k =>KpB.trans h k)
    (fun W l ob an ar am au av =>⟨belowK_b (w := W0) (by omega) W l ob an ar am au av, (grownBy_putObj' W l an).block _ (by have := (KEq am); omega) (by simp; omega)⟩)
    KBq (fun _ =>rfl)
    (fun z W =>((∃ h, Qdu z = some h /\ Boxed W (w.heap.size + 1 + 1) 4 (.bool h)) /\ Boxed W (w.heap.size + 1) 4 (.bool false) /\ W.heap[w.heap.size]? = some (.cells (Q0z a b f s (.slice o len cap) (.slice (some ⟨bb, t, none⟩) g.length y) pl st) 111 (0, 0)) /\ w.heap.size + 4 <= W.heap.size) /\ Below w.heap.size w W)
    (fun c z W =>(c = .ret /\ Qdu z = none /\ Boxed W (w.heap.size + 1) 4 (.bool false)) /\ Below w.heap.size w W)
    (OwnFrom.and (Own.from (fun q A B row hs hg hr =>by obtain⟨⟨h, N, G⟩, F, L, e5⟩ := hs; exact⟨⟨h, N, Q3y G hg hr⟩, Q3y F hg hr, Q3y L hg hr, Kdq e5 hg.size⟩) _) (ownFrom_below (Kaq _) (by omega)))
    (fun c =>OwnFrom.and (Own.from (fun q A B row hs hg hr =>by obtain⟨e0, N, G⟩ := hs; exact⟨e0, N, Q3y G hg hr⟩) _) (ownFrom_below (Kaq _) (by omega)))
    ⟨⟨⟨false, rfl, ad⟩, ae, ai, by omega⟩, U⟩
    (fun x a' W => ∃ Bx, w.heap.size + 1 + 1 + 1 < Bx /\ W.heap[Bx]? = some (.cells #[.int .i64 x.1.1, .int .i64 x.1.2] 136 (0, 0)) /\ a' = { tmps := #[crr a b f s (.slice o len cap) (.slice (some ⟨bb, t, none⟩) g.length y) pl st, .pointer (some ⟨w.heap.size, 0, none⟩), .pointer (some ⟨w.heap.size + 1, 0, none⟩), .pointer (some ⟨w.heap.size + 1 + 1, 0, none⟩), .pointer (some ⟨Bx, 0, none⟩), .agg #[.int .i64 a, .int .i64 b, .int .i64 f, .int .i64 s, .slice o len cap, .slice (some ⟨bb, t, none⟩) g.length y, .int .i64 pl, .int .i64 st], .func (.func 270) #[] #[.pointer (some ⟨w.heap.size + 1 + 1 + 1, 0, none⟩)], seg x.1.1 x.1.2, .bool x.2, undef, undef, undef, undef, undef, undef, undef, undef, undef, undef, undef, undef, undef, undef, undef, undef, undef, undef, undef, undef, undef], defers := [] })
    (fun x a' _ X Y row hs hg hr =>by obtain⟨Bx, N, G, F⟩ := hs; exact⟨Bx, N, Q3y G hg (fun r e =>(hr r e).2), F⟩)
    ?assign ?body ?done ?stop
  case assign =>
    rintro l z x W K ⟨⟨⟨h, N, G⟩, F, L, e5⟩, E⟩ hK
    gi_wp2
    refine hK _ _ ((KeepsOthers.alloc _ _).from _) ⟨(Below.refl _ W).alloc E.size _, heap_alloc_old W _ _ (by omega)⟩ ⟨⟨⟨h, N, G.alloc _⟩, F.alloc _, (heap_alloc_old W _ _ (by omega)).trans L, Kdq e5 (by simp)⟩, E.alloc E.size _⟩ ⟨W.heap.size, by omega, World.alloc_heap_new W _, rfl⟩
  case body =>
    rintro l z ⟨⟨x1, R⟩, d⟩ a' W hl ⟨r, hr⟩ ⟨⟨⟨h, N, G⟩, F, L, e5⟩, E⟩ ⟨Bx, az, V, rfl⟩ aA;dsimp only at V;have ax := Q01 V 0 _ rfl;have ay := Q01 V 1 _ rfl;have J := Q8k x1 R W;have v := Q00 (Q9N z ((x1, R), d));rw[N]at v
    cases hs : Q1s x1 R with
    | false =>
      rw[hs]at J
      have HN : Hid (Qdu (z ++ [((x1, R), d)]) = none) := by unfold Hid; rw[v.out]; simp[Q4f, hs]
      clear v
      gi_wp2_with (refine⟨trivial, ?_⟩; gi_at_call 262; refine(CallsIn.inRound l (callsIn_wide.2 J)).mono ?_; rintro e I ⟨rfl, m⟩; have u : Boxed I (w.heap.size + 1) 4 (.bool false) := (m.block _ F.lt).trans F; have M := u.cell; have T := u.frozen)
      exact⟨(Q37 m).trans ((KeepsOthers.setCell _ _ _).from _), ⟨rfl, HN.out, u.set _⟩, (E.trans (m.mono E.size)).setCell (p := ⟨w.heap.size + 1, 0, none⟩) (by simp) _⟩
    | true =>
      rw[hs]at J
      cases h with
      | false =>
        have HY : Hid (Qdu (z ++ [((x1, R), d)]) = some (R == 1)) := by unfold Hid; rw[v.out]; simp[Q4f, hs]
        clear v
        gi_wp2_with (refine⟨trivial, ?_⟩; gi_at_call 262; refine(CallsIn.inRound l (callsIn_wide.2 J)).mono ?_; rintro e I ⟨rfl, m⟩; have u : Boxed I (w.heap.size + 1) 4 (.bool false) := (m.block _ F.lt).trans F; have M := u.cell; have T := u.frozen; have C : Boxed I (w.heap.size + 1 + 1) 4 _ := (m.block _ G.lt).trans G; have af := C.cell; have ah := C.frozen; have O := (m.block _ (KEq V)).trans V; have ag := Q01 O 1 _ rfl)
        exact⟨(Q37 m).trans ((KeepsOthers.setCell _ _ _).from _), ⟨(m.mono E.size).setCell (p := ⟨w.heap.size + 1 + 1, 0, none⟩) (by simp; omega) _, (Below.heap_setCell _ _ _ _ (by simp)).trans (m.block _ (by omega))⟩, ⟨⟨_, HY.out, C.set _⟩, (Below.heap_setCell _ _ _ _ (by simp)).trans u, (Below.heap_setCell _ _ _ _ (by simp; omega)).trans ((m.block _ (by omega)).trans L), by have := m.size; simp; omega⟩, (E.trans (m.mono E.size)).setCell (p := ⟨w.heap.size + 1 + 1, 0, none⟩) (by simp; omega) _⟩
      | true =>
        by_cases hx : R = 0
        · subst hx
          have HN : Hid (Qdu (z ++ [((x1, 0), d)]) = none) := by unfold Hid; rw[v.out]; simp[Q4f, hs]
          clear v
          gi_wp2_with (refine⟨trivial, ?_⟩; gi_at_call 262; refine(CallsIn.inRound l (callsIn_wide.2 J)).mono ?_; rintro e I ⟨rfl, m⟩; have u : Boxed I (w.heap.size + 1) 4 (.bool false) := (m.block _ F.lt).trans F; have M := u.cell; have T := u.frozen; have C : Boxed I (w.heap.size + 1 + 1) 4 _ := (m.block _ G.lt).trans G; have af := C.cell; have ah := C.frozen; have O := (m.block _ (KEq V)).trans V; have ag := Q01 O 1 _ rfl)
          exact⟨(Q37 m).trans ((KeepsOthers.setCell _ _ _).from _), ⟨rfl, HN.out, u.set _⟩, (E.trans (m.mono E.size)).setCell (p := ⟨w.heap.size + 1, 0, none⟩) (by simp) _⟩
        · have aB : (R == 0) = false := by simp[hx]
          have HY : Hid (Qdu (z ++ [((x1, R), d)]) = some (R == 1)) := by unfold Hid; rw[v.out]; simp[Q4f, hs, hx]
          clear v
          gi_wp2_with (refine⟨trivial, ?_⟩; gi_at_call 262; refine(CallsIn.inRound l (callsIn_wide.2 J)).mono ?_; rintro e I ⟨rfl, m⟩; have u : Boxed I (w.heap.size + 1) 4 (.bool false) := (m.block _ F.lt).trans F; have M := u.cell; have T := u.frozen; have C : Boxed I (w.heap.size + 1 + 1) 4 _ := (m.block _ G.lt).trans G; have af := C.cell; have ah := C.frozen; have O := (m.block _ (KEq V)).trans V; have ag := Q01 O 1 _ rfl)
          exact⟨(Q37 m).trans ((KeepsOthers.setCell _ _ _).from _), ⟨(m.mono E.size).setCell (p := ⟨w.heap.size + 1 + 1, 0, none⟩) (by simp; omega) _, (Below.heap_setCell _ _ _ _ (by simp)).trans (m.block _ (by omega))⟩, ⟨⟨_, HY.out, C.set _⟩, (Below.heap_setCell _ _ _ _ (by simp)).trans u, (Below.heap_setCell _ _ _ _ (by simp; omega)).trans ((m.block _ (by omega)).trans L), by have := m.size; simp; omega⟩, (E.trans (m.mono E.size)).setCell (p := ⟨w.heap.size + 1 + 1, 0, none⟩) (by simp; omega) _⟩
  case done =>
    rintro D ys W hD rfl ⟨⟨⟨h, N, G⟩, F, L, e5⟩, E⟩ hK
    have HE : Hid ((!h || Q26 a b f s len) = Q5E (Q26 a b f s len) g pl) := by unfold Hid Q5E; rw[N]
    have ak := Q4u a b f s o len cap W hl;have cH := G.cell;have cR := F.cell;have fR := F.frozen;have c0 := Q01 L 0 _ rfl;have c1 := Q01 L 1 _ rfl;have c2 := Q01 L 2 _ rfl;have c3 := Q01 L 3 _ rfl;have c4 := Q01 L 4 _ rfl
    cases h with
    | false =>
      gi_wp2
      refine⟨trivial, ?_⟩
      gi_wp2
      have H := (KeepsOthers.setCell W ⟨w.heap.size + 1, 0, none⟩ (.bool true)).same D _ hK rfl;refine⟨by simp, .inl ⟨_, _, rfl, run_takeDeferred H, ?_⟩⟩;have P := cell_kept (World.cell?_setCell_same' W ⟨w.heap.size + 1, 0, none⟩ (.bool true) (by rw[cR]; rfl)) (grownBy_putObj' _ D (.deferred none)) (fun r e =>by cases e; exact⟨_, H, rfl⟩);refine⟨.bool true, ?_, Q03 HE.out, (E.setCell (p := ⟨w.heap.size + 1, 0, none⟩) (by simp) _).trans (belowK_b (w := w) (Kaq _) _ D _ _ (by omega) H rfl rfl)⟩;simp[results, Tryz.f252, go_sem, P]
    | true =>
      generalize hq : Q26 a b f s len = op at ak;have HQ : Hid (op = Q5E (Q26 a b f s len) g pl) := hq.symm.trans HE.out;clear hq
      gi_wp2_with (refine⟨trivial, ?_⟩; gi_at_call 174; refine(callsIn_wide.2 ak).mono ?_; rintro e I ⟨rfl, m⟩; have u : Boxed I (w.heap.size + 1) 4 (.bool false) := (m.block _ F.lt).trans F; have M := u.cell; have T := u.frozen)
      have ap := (m.block D (KEq hK)).trans hK;have ao := E.trans (m.mono E.size);have H := (KeepsOthers.setCell I ⟨w.heap.size + 1, 0, none⟩ (.bool op)).same D _ ap rfl;refine⟨by simp, .inl ⟨_, _, rfl, run_takeDeferred H, ?_⟩⟩;have P := cell_kept (World.cell?_setCell_same' I ⟨w.heap.size + 1, 0, none⟩ (.bool op) (by rw[M]; rfl)) (grownBy_putObj' _ D (.deferred none)) (fun r e =>by cases e; exact⟨_, H, rfl⟩)
      refine⟨.bool op, ?_, Q03 HQ.out, (ao.setCell (p := ⟨w.heap.size + 1, 0, none⟩) (by simp) _).trans (belowK_b (w := w) (Kaq _) _ D _ _ (by omega) H rfl rfl)⟩;simp[results, Tryz.f252, go_sem, P]
  case stop =>
    rintro D c z W hD ⟨k, hk, rfl⟩ ⟨⟨rfl, al, bR⟩, E⟩ hK
    have HE : Hid (false = Q5E (Q26 a b f s len) g pl) := by unfold Hid Q5E; rw[Q7E _ k _ al hk]
    gi_wp2
    refine⟨by simp, .inl ⟨_, _, rfl, run_takeDeferred hK, ?_⟩⟩;have P := cell_kept bR.cell (grownBy_putObj' _ D (.deferred none)) (fun r e =>by cases e; exact⟨_, hK, rfl⟩);refine⟨.bool false, ?_, Q03 HE.out, E.trans (belowK_b (w := w) (Kaq _) W D _ _ (by omega) hK rfl rfl)⟩;simp[results, Tryz.f252, go_sem, P]
end Go.Proofs.YteffhdcankkfkaaGreat
namespace Go.Proofs.YteffhdcankkfkaaGreat
open Go.ChangeShapes Go.WideShapes Go.ChangeAt Go.RowKit Go.Joins
set_option linter.unusedVariables false
set_option linter.unusedSimpArgs false
set_option maxRecDepth 100000
set_option maxHeartbeats 40000000
def Q4a (o:Option Bool) (p:Int × Int):Option Bool:=Q4f o (p,false)
def Q6p (op:Bool):Option Bool->Bool
 |none=>false
 |some h=> !h||op
theorem Qci:∀(l:List QfH) (o:Option Bool),l.foldl Q4f o=(l.map (·.1)).foldl Q4a o
 |[],o=>rfl
 |x::l,o=>by simp only[List.foldl_cons,List.map_cons];rw[Qci l];cases o <;> rfl
theorem QfS (g:List (Int × Int)) (pl:Int):(upto (Q3r g pl) g.length).map (·.1)=g:=by
 apply List.ext_getElem
 ·simp[upto]
 ·intro i h1 h2
  simp[upto,Q3r,h2]
theorem Q3Q (l:List (Int × Int)):l.foldl Q4a none=none:=by induction l with
 |nil=>rfl
 |cons x l ih=>exact ih
theorem Q9q {x y:Int} (h:Q1s x y=true):y=0\/y=1:=by have:=Q7M.1 h;omega
theorem Q6u:∀l:List (Int × Int),Q6p false (l.foldl Q4a (some true))=false
 |[]=>rfl
 |(x,y)::l=>by
  rw[List.foldl_cons]
  cases hs:Q1s x y with
  |false=>simp[Q4a,Q4f,hs,Q3Q,Q6p]
  |true=>
   rcases Q9q hs with h|h
   ·subst h;simp[Q4a,Q4f,Q3Q,Q6p]
   ·subst h
    have:Q4a (some true) (x,1)=some true:=by simp[Q4a,Q4f,hs]
    rw[this];exact Q6u l
theorem Q50 (a:Bool):∀(l:List (Int × Int)) (h:Bool),(h=true->a=true)->Q1d a (if h then 1 else 0) l=Q6p a (l.foldl Q4a (some h))
 |[],h,hh=>by cases h <;> cases a <;> simp_all [Q1d,Q6p]
 |(x,y)::l,h,hh=>by
  rw[List.foldl_cons]
  cases hs:Q1s x y with
  |false=>simp[Q1d,Q4a,Q4f,hs,Q3Q,Q6p]
  |true=>
   rcases Q9q hs with b|b
   ·subst b
    cases h with
    |true=>simp[Q1d,Q4a,Q4f,Q3Q,Q6p]
    |false=>
     have e:Q4a (some false) (x,0)=some false:=by simp[Q4a,Q4f,hs]
     rw[e,<-Q50 a l false (fun h=>by cases h)];simp[Q1d,hs]
   ·subst b
    have e:Q4a (some h) (x,1)=some true:=by simp[Q4a,Q4f,hs]
    rw[e]
    cases a with
    |false=>rw[Q6u];simp[Q1d]
    |true=>
     rw[<-Q50 true l true (fun _=>rfl)]
     cases h <;> simp[Q1d,hs]
theorem Qel (a:Bool) (g:List (Int × Int)) (pl:Int):Q5E a g pl=Q1d a 0 g:=by
 have h:=Q50 a g false (fun h=>by cases h);rw[show(if false=true then(1:Int)else 0)=0 from rfl]at h;rw[h];unfold Q5E Qdu;rw[Qci,QfS]
 cases g.foldl Q4a (some false) <;> rfl
theorem Qed {a b f s:Int} {n:Nat} (h:Q0l a b f s n=true):Q26 a b f s n=Q1H f:=(Q5f h).symm
theorem Q6X (n:Int) (w:World):Calls Tryz.prog 251 #[.int .i64 n] w fun e a=>e=.returned (.bool (decide (0<=n) && decide (n<=100000)))/\w=a:=by
 go_enter Tryz.func251,Tryz.ntmps251;go_wp2
 all_goals go_ret
 all_goals refine⟨?_,rfl⟩
 all_goals first|(simp[*];done)|(simp;omega)
theorem Q5n (a b f s:Int) (o v:Option Addr) (len cap t:Nat) (g:List (Int × Int)) (pl st:Int) (w:World) (R:len<=maxLen) (P:g.length<=maxLen) (z:RdG w v g):
  Calls Tryz.prog 235 #[crr a b f s (.slice o len cap) (.slice v g.length t) pl st] w fun e V=>e=.returned (.bool (Q19 a b f s len g pl st))/\Below w.heap.size w V:=by
 have D:=P;unfold maxLen at D
 have m:=fun w=>Q1v a b f s o len cap w R
 have r:=Q9d w a b f s (.slice o len cap) (.slice v g.length t) pl st 111
 have k:w.heap.size < (w.alloc (.cells #[.int .i64 a,.int .i64 b,.int .i64 f,.int .i64 s,.slice o len cap,.slice v g.length t,.int .i64 pl,.int .i64 st] 111)).heap.size:=by simp
 have h:Below w.heap.size w (w.alloc (.cells #[.int .i64 a,.int .i64 b,.int .i64 f,.int .i64 s,.slice o len cap,.slice v g.length t,.int .i64 pl,.int .i64 st] 111)):=KBq.alloc (Kaq _) _
 by_cases h1:Q0l a b f s len=true
 ·rw[h1]at m
  by_cases hst:0<=st/\st<=100000
  ·have u:(decide (0<=st) && decide (st<=100000))=true:=by simp[hst]
   have hs:=fun w=>u ▸ Q6X st w
   by_cases h3:(g.length:Int)<=24
   ·by_cases h4:0<=pl
    ·by_cases h5:pl < (g.length:Int)
     ·have T:=Q00 (Q42 (Q6z.2 ⟨h1,show 1<=(g.length:Int)by omega,h3,h4,h5,hst.1,hst.2,trivial⟩))
      rcases z with z|⟨bb,y,rfl,A,l⟩
      ·subst z;simp at h5;omega
      have B:¬(24 < (g.length:Int)):=by omega
      have U:¬((g.length:Int)<=pl):=by omega
      go_enter Tryz.func235,Tryz.ntmps235;go_wp2_with fail;generalize (w.alloc (.cells #[.int .i64 a,.int .i64 b,.int .i64 f,.int .i64 s,.slice o len cap,.slice (some ⟨bb,y,none⟩) g.length t,.int .i64 pl,.int .i64 st] 111))=w0 at *;refine(m _).mono ?_;rintro e C ⟨rfl,c⟩;have j:=r.kept c k;have d:=Q00 (h.trans (c.mono (KIq k)));clear h c m k r;obtain⟨E,F,G,H,I,J,L,M⟩:=j;go_wp2_with (go_at_call 251;refine(hs _).mono ?_;rintro e N ⟨rfl,rfl⟩)
      refine(Qby a b f s o len cap bb y t g pl st C R (by omega) (Kbq A d.out.size) (fun i hi=>⟨(d.out.cell (p:=⟨bb,y+i * 2,none⟩) A).trans (l i hi).1,(d.out.cell (p:=⟨bb,y+i * 2+1,none⟩) A).trans (l i hi).2⟩)).mono ?_;rw[Qed h1,Qel];rintro e X ⟨rfl,O⟩;clear l E F G H I J L M;go_wp2;go_ret;exact⟨Q03 T.out,d.out.trans (O.mono d.out.size)⟩
     ·have x:=Q00 (Q0w (a:=a) (b:=b) (f:=f) (s:=s) (n:=len) (g:=g) (pl:=pl) (st:=st) (fun q=>h5 q.2.2.2.2.1))
      have B:¬(24 < (g.length:Int)):=by omega
      go_enter Tryz.func235,Tryz.ntmps235;go_wp2_with fail;generalize (w.alloc (.cells #[.int .i64 a,.int .i64 b,.int .i64 f,.int .i64 s,.slice o len cap,.slice v g.length t,.int .i64 pl,.int .i64 st] 111))=w0 at *;refine(m _).mono ?_;rintro e C ⟨rfl,c⟩;have j:=r.kept c k;have d:=Q00 (h.trans (c.mono (KIq k)));clear h c m k r z;obtain⟨E,F,G,H,I,J,L,M⟩:=j;go_wp2_with (go_at_call 251;refine(hs _).mono ?_;rintro e N ⟨rfl,rfl⟩);go_ret;exact⟨Q03 x.out,d.out⟩
    ·have x:=Q00 (Q0w (a:=a) (b:=b) (f:=f) (s:=s) (n:=len) (g:=g) (pl:=pl) (st:=st) (fun q=>h4 q.2.2.2.1))
     have B:¬(24 < (g.length:Int)):=by omega
     go_enter Tryz.func235,Tryz.ntmps235;go_wp2_with fail;generalize (w.alloc (.cells #[.int .i64 a,.int .i64 b,.int .i64 f,.int .i64 s,.slice o len cap,.slice v g.length t,.int .i64 pl,.int .i64 st] 111))=w0 at *;refine(m _).mono ?_;rintro e C ⟨rfl,c⟩;have j:=r.kept c k;have d:=Q00 (h.trans (c.mono (KIq k)));clear h c m k r z;obtain⟨E,F,G,H,I,J,L,M⟩:=j;go_wp2_with (go_at_call 251;refine(hs _).mono ?_;rintro e N ⟨rfl,rfl⟩);go_ret;exact⟨Q03 x.out,d.out⟩
   ·have x:=Q00 (Q0w (a:=a) (b:=b) (f:=f) (s:=s) (n:=len) (g:=g) (pl:=pl) (st:=st) (fun q=>h3 q.2.2.1))
    have B:(24 < (g.length:Int)):=by omega
    go_enter Tryz.func235,Tryz.ntmps235;go_wp2_with fail;generalize (w.alloc (.cells #[.int .i64 a,.int .i64 b,.int .i64 f,.int .i64 s,.slice o len cap,.slice v g.length t,.int .i64 pl,.int .i64 st] 111))=w0 at *;refine(m _).mono ?_;rintro e C ⟨rfl,c⟩;have j:=r.kept c k;have d:=Q00 (h.trans (c.mono (KIq k)));clear h c m k r z;obtain⟨E,F,G,H,I,J,L,M⟩:=j;go_wp2_with (go_at_call 251;refine(hs _).mono ?_;rintro e N ⟨rfl,rfl⟩);go_ret;exact⟨Q03 x.out,d.out⟩
  ·have u:(decide (0<=st) && decide (st<=100000))=false:=by simpa using hst
   have hs:=fun w=>u ▸ Q6X st w
   have x:=Q00 (Q0w (a:=a) (b:=b) (f:=f) (s:=s) (n:=len) (g:=g) (pl:=pl) (st:=st) (fun q=>hst ⟨q.2.2.2.2.2.1,q.2.2.2.2.2.2.1⟩));go_enter Tryz.func235,Tryz.ntmps235;go_wp2_with fail;generalize (w.alloc (.cells #[.int .i64 a,.int .i64 b,.int .i64 f,.int .i64 s,.slice o len cap,.slice v g.length t,.int .i64 pl,.int .i64 st] 111))=w0 at *;refine(m _).mono ?_;rintro e C ⟨rfl,c⟩;have j:=r.kept c k;have d:=Q00 (h.trans (c.mono (KIq k)));clear h c m k r z;obtain⟨E,F,G,H,I,J,L,M⟩:=j
   go_wp2_with (go_at_call 251;refine(hs _).mono ?_;rintro e N ⟨rfl,rfl⟩);go_ret;exact⟨Q03 x.out,d.out⟩
 ·rw[Bool.eq_false_iff.2 h1]at m
  have x:=Q00 (Q0w (a:=a) (b:=b) (f:=f) (s:=s) (n:=len) (g:=g) (pl:=pl) (st:=st) (fun q=>h1 q.1));go_enter Tryz.func235,Tryz.ntmps235;go_wp2_with fail;generalize (w.alloc (.cells #[.int .i64 a,.int .i64 b,.int .i64 f,.int .i64 s,.slice o len cap,.slice v g.length t,.int .i64 pl,.int .i64 st] 111))=w0 at *;refine(m _).mono ?_;rintro e C ⟨rfl,c⟩;have d:=Q00 (h.trans (c.mono (KIq k)));clear h c m k r z;go_wp2;go_ret;exact⟨Q03 x.out,d.out⟩
theorem put2 {w:World} {B:Nat} {u v c d:Value} (a:w.cell? ⟨B,0,none⟩=some c) (b:w.cell? ⟨B,1,none⟩=some d):
  ((w.setCell ⟨B,0,none⟩ u).setCell ⟨B,1,none⟩ v).cell? ⟨B,0,none⟩=some u/\((w.setCell ⟨B,0,none⟩ u).setCell ⟨B,1,none⟩ v).cell? ⟨B,1,none⟩=some v:=
 ⟨(World.cell?_setCell_other _ _ _ _ (by simp)).trans (World.cell?_setCell_same _ _ _ a),World.cell?_setCell_same _ _ _ ((World.cell?_setCell_other _ _ _ _ (by simp)).trans b)⟩
theorem Q09 {W:World} {B:Nat} {c:Array Value} {t:TypeId} (h:W.heap[B]? =some (.cells c t (0,0))) (j:Nat):W.frozen? ⟨B,j,none⟩=false:=by
 simp[World.frozen?,h]
end Go.Proofs.YteffhdcankkfkaaGreat
