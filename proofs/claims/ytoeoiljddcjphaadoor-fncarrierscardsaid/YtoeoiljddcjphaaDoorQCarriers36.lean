/- What is carried, as text: the program's. -/
import Derived.Deep.RegionLaw
import Derived.Test.YtoeoiljddcjphaaDoorQCarriers34
import Derived.Test.YtoeoiljddcjphaaDoorQCarriers20
import Derived.Test.YtoeoiljddcjphaaDoorQCarriers35
namespace Go.Proofs.YtoeoiljddcjphaaDoor
open Go.ChangeShapes Go.WideShapes Go.ChangeAt Go.RowKit Go.Joins Go.Shelf
set_option linter.unusedVariables false
set_option linter.unusedSimpArgs false

attribute [local go_sem] Oper.semAt_some

/-- What text leaves that a variable at P holds: below base nothing has turned, and no row but one of bytes has, nor any other variable. -/
structure TxP (base P : Nat) (w w' : World) : Prop where
 bel : Below base w w'
 oth : Go.Lib.OthersKept 5 (some P) w w'
theorem TxP.refl (base P : Nat) (w : World) : TxP base P w w := ⟨Below.refl _ _, Go.Lib.OthersKept.refl _ _ _⟩
theorem TxP.trans {base P : Nat} {a b c : World} (h : TxP base P a b) (k : TxP base P b c) : TxP base P a c := ⟨h.bel.trans k.bel, fun i o hi hn ho => k.oth i o (h.oth i o hi hn ho) hn ho⟩
theorem TxP.of {base P : Nat} {w w' : World} (h : TxS base w w') : TxP base P w w' := ⟨h.bel, fun i o hi _ ho => h.oth i o hi (by simp) ho⟩
theorem TxP.set {base P : Nat} (w : World) (hP : base ≤ P) (u : Value) : TxP base P w (w.setCell ⟨P, 0, none⟩ u) := ⟨Below.setCell (p := ⟨P, 0, none⟩) (Below.refl _ _) hP u, fun i o hi hn _ => (Below.heap_setCell w ⟨P, 0, none⟩ u i (fun e => hn (by rw [e]))).trans hi⟩
theorem TxP.box {base P k : Nat} {w w' : World} {cs : Array Value} {T : TypeId} {fr : Nat × Nat} (h : TxP base P w w') (hb : w.heap[k]? = some (.cells cs T fr)) (hk : k ≠ P) (hT : T ≠ 5) : w'.heap[k]? = some (.cells cs T fr) :=
 h.oth k _ hb (by simp [hk]) (fun c fz e => by cases e; exact hT rfl)
theorem TxP.keeps {base P : Nat} {w w' : World} {cs : Array Value} {T : TypeId} {fr : Nat × Nat} (h : TxP base P w w') (hb : w.heap[P]? = some (.cells cs T fr)) : KeepsOthers w w' :=
 ⟨h.bel.size, fun k o hk ho => h.oth k o hk (fun e => by cases e; rw [hb] at hk; cases hk; cases ho) (fun c fz e => by subst e; cases ho)⟩
theorem frozT {W : World} {B : Nat} {c : Array Value} {t : TypeId} (h : W.heap[B]? = some (.cells c t (0, 0))) (j : Nat) : W.frozen? ⟨B, j, none⟩ = false := by
 simp [World.frozen?, h]
theorem box_alT {P : Nat} {W : World} {X : Obj} (h : W.heap[P]? = some X) (O : Obj) : (W.alloc O).heap[P]? = some X := (Below.heap_alloc W O P (Array.getElem?_eq_some_iff.1 h).1).trans h
theorem box_setT (w : World) (k j : Nat) (cs : Array Value) (t : TypeId) (v : Value) (h : w.heap[k]? = some (.cells cs t (0, 0))) : (w.setCell ⟨k, j, none⟩ v).heap[k]? = some (.cells (cs.setIfInBounds j v) t (0, 0)) := by
 simp [World.setCell, Array.getElem?_modify, h]
/-- Text that has grown is laid into its variable. -/
theorem TxP.store {base P : Nat} {W y y' : World} {v v' : Value} {K : List Int} (tx : TxP base P W y) (b : y.heap[P]? = some (.cells #[v] 22 (0, 0))) (st : TxS base y y') (ho : ownB y' base v' K) (hP : base ≤ P) :
  TxP base P W (y'.setCell ⟨P, 0, none⟩ v') ∧ (y'.setCell ⟨P, 0, none⟩ v').heap[P]? = some (.cells #[v'] 22 (0, 0)) ∧ ownB (y'.setCell ⟨P, 0, none⟩ v') base v' K ∧ y'.heap[P]? = some (.cells #[v] 22 (0, 0)) := by
 have b' := st.box b (by decide)
 refine ⟨(tx.trans (TxP.of st)).trans (TxP.set y' hP v'), ?_, ?_, b'⟩
 ·have := box_setT y' P 0 #[v] _ v' b'
  simpa using this
 ·exact World.ownsRow.kept ho (grownBy_setCell' y' P v') (by
   rcases ho.2 with ⟨rfl, _⟩ | ⟨gq, cq, cur, rfl, _, hgb, _⟩
   ·exact .inl rfl
   ·right
    intro e
    simp [Value.ownBlock] at e
    subst e
    rw [hgb] at b'
    cases b')
theorem shapeT {w : World} {base : Nat} {v : Value} {l : List Int} (h : ownB w base v l) : ∃ o c, v = .slice o l.length c := by
 obtain ⟨o, c, e, _⟩ := h.open
 exact ⟨o, c, e⟩
/-- One byte, laid anew, behind a row of the call's own, inside a fence. -/
theorem wpListIn_append_one {F : Fence} {n : Nat} {w : World} {ops : Array Oper} {rest : List Oper} {o : Oper} {a : Act} {Q : Exit → Act → World → Prop} (y : Int) (hgd : o.guard = none) (s x : Operand)
  (ho : o.op = .call { callee := .builtin .append, args := #[s, x], argTypes := #[22, 22] }) (base : Nat) (v : Value) (l0 : List Int) (hs : a.eval s = v) (hown : ownB w base v l0)
  (hx : a.eval x = .slice (some ⟨w.heap.size, 0, none⟩) 1 1) (hlen : l0.length ≤ 1000000000) (hbase : base ≤ w.heap.size)
  (h : ∀ v' w', ownB w' base v' (l0 ++ [y]) → TxS base w w' → wpListIn F n Tryd.prog ops Q rest (a.put o.dst v') w') : wpListIn F n Tryd.prog ops Q (o :: rest) a (w.alloc (.cells #[.int .u8 y] 5)) := by
 obtain ⟨i0, hi, hz0, hz1, hz2⟩ := info_parts infoU8
 have hoa : ownB (w.alloc (.cells #[.int .u8 y] 5)) base v l0 := hown.alloc _
 refine wpListIn_append_own _ hgd s x 22 ho base 5 i0 (.int .u8 0) 1 1 Tryd.underlying22 hi hz0 hz1 hz2 rfl (by decide) v _ _ hs hoa ⟨w.heap.size, 0, none⟩ 1 1 [.int .u8 y] hx rfl ?_ ?_ (by unfold maxLen; omega) (by omega) (by simp; omega) ?_
 ·intro j u hj
  have : j = 0 := by
   have := (List.getElem?_eq_some_iff.1 hj).1
   simp at this; omega
  subst this
  simp at hj
  subst hj
  simp [Addr.add]
 ·simp [Value.oneCell']
 ·intro v' w' h1 h2 _
  refine h v' w' ?_ (((TxS.refl base w).alloc hbase _).trans (TxS.grown h2 hoa (by simp; omega)))
  unfold ownB
  simpa using h1


set_option maxRecDepth 100000 in
set_option maxHeartbeats 8000000 in
theorem implCarrT_yes (a b f s : Int) (o : Option Addr) (len cap bb off cg : Nat) (g : List (Int × Int)) (pl st : Int) (w : World) (hl : len ≤ maxLen) (hbb : bb < w.heap.size)
  (hcell : ∀ i, i < g.length → w.cell? ⟨bb, off + i * 2, none⟩ = some (.int .i64 (g.getD i (0, 0)).1) ∧ w.cell? ⟨bb, off + i * 2 + 1, none⟩ = some (.int .i64 (g.getD i (0, 0)).2)) (hok : carrierOkB a b f s len g pl st = true) (hT : PTab w.heap.size w) :
  Calls Tryd.prog 9 #[crr a b f s (.slice o len cap) (.slice (some ⟨bb, off, none⟩) g.length cg) pl st] w fun e w' => ∃ v, e = .returned v ∧ ownB w' w.heap.size v (carrTL a b f s len g pl) ∧ Below w.heap.size w w' := by
 obtain ⟨_, h2, h3, h4, h5, _, _⟩ := carrierOkB_head hok
 have HSEG := hide (fun k => stop_seg hok k)
 have HSTL := hide (fun pre => stT_len hok pre)
 have hpl := pktT_le a b f s len
 refine (callsIn_wide (n := 4)).1 ?_
 refine callsIn_of_wp_marks Tryd.func9 rfl trivial ?_ rfl
 simp only [Tryd.ntmps9, List.size_toArray, List.length_cons, List.length_nil, Nat.reduceAdd, Nat.reduceSub, Array.replicate_succ, Array.replicate_zero, List.push_toArray, List.append_toArray, List.nil_append, List.cons_append]
 have hb0 : Below w.heap.size w (w.alloc (.cells (crrCells a b f s (.slice o len cap) (.slice (some ⟨bb, off, none⟩) g.length cg) pl st) 29)) := (Below.refl _ _).alloc (Nat.le_refl _) _
 have hc := implCarrierOk_any a b f s o (some ⟨bb, off, none⟩) len cap cg g pl st (w.alloc (.cells (crrCells a b f s (.slice o len cap) (.slice (some ⟨bb, off, none⟩) g.length cg) pl st) 29)) hl (by unfold maxLen; omega) (RdG.kept (.inr ⟨bb, off, rfl, hbb, hcell⟩) hb0)
 rw [hok] at hc
 have hx0 := World.alloc_heap_new w (.cells (crrCells a b f s (.slice o len cap) (.slice (some ⟨bb, off, none⟩) g.length cg) pl st) 29)
 have Hb0 := hide hb0
 have Hx0 := hide hx0
 clear hb0 hx0 hok
 gi_wp2_with (refine ⟨trivial, ?_⟩; gi_at_call 8; refine (callsIn_wide.2 hc).mono ?_; rintro e w1 ⟨rfl, hb1⟩; have hx1 := (hb1.block w.heap.size (by simp)).trans Hx0.out; have x0 := cellT hx1 0 _ rfl; have x1 := cellT hx1 1 _ rfl; have x2 := cellT hx1 2 _ rfl; have x3 := cellT hx1 3 _ rfl; have x4 := cellT hx1 4 _ rfl; have Hx1 := hide hx1; clear hx1; have hz1 : w.heap.size < w1.heap.size := (by have h := hb1.size; simp at h; omega); have Hb1 := hide (Hb0.out.trans (hb1.mono (by simp))); clear hb1)
 refine ⟨trivial, ?_⟩
 clear x0 x1 x2 x3 x4 Hb0 Hx0 hc
 have hpt := implPacketText_any w.heap.size a b f s o len cap w1 hl (Nat.le_of_lt hz1) (hT.on Hb1.out (Nat.le_refl _))
 refine (callsIn_wide.2 hpt).mono ?_
 rintro e w2 ⟨v2, rfl, ho2, st2⟩
 obtain ⟨T0, hT0⟩ : ∃ q, pktT a b f s len = q := ⟨_, rfl⟩
 have HT0 := hide hT0
 rw [hT0] at ho2 hpl
 clear hT0 hpt
 obtain ⟨ov, cv, e2⟩ := shapeT ho2
 subst e2
 have hx2 := st2.box Hx1.out (by decide)
 have hB2 : Below w.heap.size w w2 := Hb1.out.trans st2.bel
 have hs2 : w.heap.size < w2.heap.size := Nat.lt_of_lt_of_le hz1 st2.bel.size
 have hT2 := hT.on hB2 (Nat.le_refl _)
 have hx2a : (w2.alloc (.cells #[.slice ov T0.length cv] 22)).heap[w.heap.size]? = some (.cells (crrCells a b f s (.slice o len cap) (.slice (some ⟨bb, off, none⟩) g.length cg) pl st) 29 (0, 0)) := (Below.heap_alloc w2 _ _ hs2).trans hx2
 have s0 := cellT hx2a 0 _ rfl
 have s1 := cellT hx2a 1 _ rfl
 have s2 := cellT hx2a 2 _ rfl
 have s3 := cellT hx2a 3 _ rfl
 have s4 := cellT hx2a 4 _ rfl
 have s5 := cellT hx2a 5 _ rfl
 have s6 := cellT hx2a 6 _ rfl
 have s7 := cellT hx2a 7 _ rfl
 have HM := hide (And.intro ho2 hB2)
 clear hx2 hx2a Hx1 Hb1 st2 ho2 hB2 hz1
 gi_wp2
 refine ⟨trivial, ?_⟩
 refine (stops_in Fence.wide (4 - 1) trivial rfl _ _ _ _ _ _ _ _ _).mono ?_
 rintro e w' ⟨rfl, rfl⟩
 clear s0 s1 s2 s3 s4 s5 s6 s7
 obtain ⟨ho2, hB2⟩ := HM.out
 have bP0 : Boxed ((w2.alloc (.cells #[.slice ov T0.length cv] 22)).alloc (.cells (crrCells a b f s (.slice o len cap) (.slice (some ⟨bb, off, none⟩) g.length cg) pl st) 29)) w2.heap.size 22 (.slice ov T0.length cv) := (Boxed.new w2 22 (.slice ov T0.length cv)).alloc _
 have oP0 := World.ownsRow.alloc (World.ownsRow.alloc ho2 (.cells #[.slice ov T0.length cv] 22)) (.cells (crrCells a b f s (.slice o len cap) (.slice (some ⟨bb, off, none⟩) g.length cg) pl st) 29)
 have hS0 : ((w2.alloc (.cells #[.slice ov T0.length cv] 22)).alloc (.cells (crrCells a b f s (.slice o len cap) (.slice (some ⟨bb, off, none⟩) g.length cg) pl st) 29)).heap[w2.heap.size + 1]? = some (.cells (crrCells a b f s (.slice o len cap) (.slice (some ⟨bb, off, none⟩) g.length cg) pl st) 29 (0, 0)) := by
  have := World.alloc_heap_new (w2.alloc (.cells #[.slice ov T0.length cv] 22)) (.cells (crrCells a b f s (.slice o len cap) (.slice (some ⟨bb, off, none⟩) g.length cg) pl st) 29)
  simpa only [World.size_alloc] using this
 have hB0 : Below w.heap.size w ((w2.alloc (.cells #[.slice ov T0.length cv] 22)).alloc (.cells (crrCells a b f s (.slice o len cap) (.slice (some ⟨bb, off, none⟩) g.length cg) pl st) 29)) := (hB2.alloc hB2.size _).alloc (by have := hB2.size; simp; omega) _
 have hsz : ((w2.alloc (.cells #[.slice ov T0.length cv] 22)).alloc (.cells (crrCells a b f s (.slice o len cap) (.slice (some ⟨bb, off, none⟩) g.length cg) pl st) 29)).heap.size = w2.heap.size + 2 := by simp
 gi_wp2
 generalize ((w2.alloc (.cells #[.slice ov T0.length cv] 22)).alloc (.cells (crrCells a b f s (.slice o len cap) (.slice (some ⟨bb, off, none⟩) g.length cg) pl st) 29)) = W0 at *
 have hcellW : ∀ j, j < g.length → W0.cell? ⟨bb, off + j * 2, none⟩ = some (.int .i64 (g[j]?.getD (0, 0)).1) ∧ W0.cell? ⟨bb, off + j * 2 + 1, none⟩ = some (.int .i64 (g[j]?.getD (0, 0)).2) := fun j hj => by
  have := hcell j hj
  rw [List.getD_eq_getElem?_getD] at this
  exact ⟨(hB0.cell (p := ⟨bb, off + j * 2, none⟩) hbb).trans this.1, (hB0.cell (p := ⟨bb, off + j * 2 + 1, none⟩) hbb).trans this.2⟩
 refine wpIn_rangeFunc_ownH rfl (by decide) (gf := 57) (lb := #[.pointer (some ⟨w2.heap.size + 1, 0, none⟩)]) rfl trivial (enters_of Tryd.func57 (by kernel_rfl) rfl)
  (stopsN_stops Fence.wide (4 - 1) trivial rfl (by decide) (w2.heap.size + 1) w.heap.size bb off cg g pl (by omega) W0 (by omega) hbb (by omega) (cellT hS0 5 _ rfl) (cellT hS0 6 _ rfl) hcellW)
  (fun h k => KpB.trans h k)
  (fun W l ob ob' hl' hw' hn1 hn2 => ⟨belowK_b (w := W0) (by omega) W l ob ob' hl' hw' hn1 hn2, (grownBy_putObj' W l ob').block _ (by have := (Array.getElem?_eq_some_iff.1 hw').1; omega) (by simp; omega)⟩)
  (Below.refl _ _) (fun _ => rfl)
  (fun pre W => ((∃ v, Boxed W w2.heap.size 22 v ∧ W.ownsRow w.heap.size 5 1 v (T0 ++ stT g pl pre).length ((T0 ++ stT g pl pre).map (Value.int .u8)) ∧ True) ∧ W.heap[w2.heap.size + 1]? = some (.cells (crrCells a b f s (.slice o len cap) (.slice (some ⟨bb, off, none⟩) g.length cg) pl st) 29 (0, 0)) ∧ w2.heap.size + 2 ≤ W.heap.size) ∧ Below w.heap.size w W)
  (fun c pre W => False ∧ Below w.heap.size w W)
  (OwnFrom.and (Own.from (fun q A B row hs hg hr => by obtain ⟨e1, e4, e5⟩ := hs; exact ⟨holdsRow_own w.heap.size w2.heap.size 22 5 1 (fun pre => (T0 ++ stT g pl pre).length) (fun pre => (T0 ++ stT g pl pre).map (Value.int .u8)) (fun _ _ => True) q A B row e1 hg hr, block_own e4 hg hr, Nat.le_trans e5 hg.size⟩) _) (ownFrom_below (Nat.le_refl _) (by omega)))
  (fun c => OwnFrom.and (Own.from (fun q A B row hs hg hr => hs) _) (ownFrom_below (Nat.le_refl _) (by omega)))
  ⟨⟨⟨_, bP0, by simpa [stT] using oP0, trivial⟩, hS0, by omega⟩, hB0⟩
  (fun x a' W => ∃ Bx, w2.heap.size + 1 < Bx ∧ W.heap[Bx]? = some (.cells #[.int .i64 (stopAt g pl x).1.1, .int .i64 (stopAt g pl x).1.2] 62 (0, 0)) ∧ a' = { tmps := #[crr a b f s (.slice o len cap) (.slice (some ⟨bb, off, none⟩) g.length cg) pl st, .pointer (some ⟨w.heap.size, 0, none⟩), .slice none 0 0, .pointer (some ⟨w2.heap.size, 0, none⟩), .pointer (some ⟨Bx, 0, none⟩), .bool (stopAt g pl x).2, .agg #[.int .i64 a, .int .i64 b, .int .i64 f, .int .i64 s, .slice o len cap, .slice (some ⟨bb, off, none⟩) g.length cg, .int .i64 pl, .int .i64 st], .bool true, .bool false, .pointer (some ⟨w.heap.size, 0, none⟩), .agg #[.int .i64 a, .int .i64 b, .int .i64 f, .int .i64 s, .slice o len cap], .slice ov T0.length cv, .agg #[.int .i64 a, .int .i64 b, .int .i64 f, .int .i64 s, .slice o len cap, .slice (some ⟨bb, off, none⟩) g.length cg, .int .i64 pl, .int .i64 st], .func (.func 57) #[] #[.pointer (some ⟨w2.heap.size + 1, 0, none⟩)], seg (stopAt g pl x).1.1 (stopAt g pl x).1.2, .bool (stopAt g pl x).2, undef, undef, undef, undef, undef, undef, undef, undef, undef, undef, undef, undef, undef, undef, undef, undef, undef], defers := [] })
  (fun x a' _ X Y row hs hg hr => by obtain ⟨Bx, e1, e2, e3⟩ := hs; exact ⟨Bx, e1, block_own e2 hg (fun r e => (hr r e).2), e3⟩)
  ?assign ?body ?done ?stop
 case assign =>
  rintro l pre x W K ⟨⟨⟨v, e1, e2, _⟩, e4, e5⟩, hB⟩ hK
  gi_wp2
  refine hK _ _ ((KeepsOthers.alloc _ _).from _) ⟨(Below.refl _ W).alloc hB.size _, Below.heap_alloc W _ _ (by omega)⟩ ⟨⟨⟨v, e1.alloc _, World.ownsRow.alloc e2 _, trivial⟩, (Below.heap_alloc W _ _ (by omega)).trans e4, Nat.le_trans e5 (by simp)⟩, hB.alloc hB.size _⟩ ⟨W.heap.size, by omega, World.alloc_heap_new W _, rfl⟩
 case body =>
  rintro l pre x a' W hl' ⟨r, hr⟩ ⟨⟨⟨v, e1, e2, _⟩, e4, e5⟩, hB⟩ ⟨Bx, hBx, hX, rfl⟩ hlt
  have hsg := HSEG.out x
  have HN := hide (stT_snoc g pl pre x)
  have hsl := HSTL.out pre
  generalize stopAt g pl x = sk at *
  obtain ⟨⟨x1, y⟩, h⟩ := sk
  dsimp only at hX hsg ⊢
  obtain ⟨⟨hx0, hx1⟩, hy⟩ := hsg
  obtain ⟨n1, rfl⟩ := Int.eq_ofNat_of_zero_le hx0
  obtain ⟨K, hK⟩ : ∃ q, T0 ++ stT g pl pre = q := ⟨_, rfl⟩
  have hKl : K.length ≤ 400000 := by rw [← hK, List.length_append]; omega
  rw [hK] at e2
  have HK := hide hK
  have hld := digL_len n1
  replace e2 : ownB W w.heap.size v K := e2
  obtain ⟨oq, cq, hve⟩ := shapeT e2
  subst hve
  have hP : w.heap.size ≤ w2.heap.size := Nat.le_of_lt hs2
  have hsW : w.heap.size ≤ W.heap.size := hB.size
  replace e1 : W.heap[w2.heap.size]? = some (.cells #[.slice oq K.length cq] 22 (0, 0)) := e1
  have HTW := hide (hT.on hB (Nat.le_refl _))
  have HFIN : Hid (∀ (W' : World) (v' : Value), TxP w.heap.size w2.heap.size W W' → W'.heap[w2.heap.size]? = some (.cells #[v'] 22 (0, 0)) → ownB W' w.heap.size v' (K ++ segT (((n1 : Int), y), h)) → (KeepsFrom W0.heap.size W W' ∧ KpB w.heap.size (w2.heap.size + 1) W W' ∧ (((∃ v, Boxed W' w2.heap.size 22 v ∧ W'.ownsRow w.heap.size 5 1 v (T0 ++ stT g pl (pre ++ [x])).length ((T0 ++ stT g pl (pre ++ [x])).map (Value.int .u8)) ∧ True) ∧ W'.heap[w2.heap.size + 1]? = some (.cells (crrCells a b f s (.slice o len cap) (.slice (some ⟨bb, off, none⟩) g.length cg) pl st) 29 (0, 0)) ∧ w2.heap.size + 2 ≤ W'.heap.size) ∧ Below w.heap.size w W'))) := by
   intro W' v' tx hb ho
   have hS' := tx.box e4 (by omega) (by decide)
   refine ⟨(tx.keeps e1).from _, ⟨tx.bel, hS'.trans e4.symm⟩, ⟨⟨v', hb, ?_, trivial⟩, hS', Nat.le_trans e5 tx.bel.size⟩, hB.trans tx.bel⟩
   rw [HN.out, ← List.append_assoc, HK.out]
   exact ho
  have cP := cellT e1 0 _ rfl
  have tx0 := TxP.refl w.heap.size w2.heap.size W
  clear hK e4 e5 hB hl' hr hlt HN HK hT hx0
  gi_wp2_with (refine wpListIn_append_one 32 rfl _ _ rfl w.heap.size _ K rfl e2 rfl ?c3 hsW ?_)
  case c3 => omega
  intro x3 y3 ho3 st3
  obtain ⟨o3, c3, e3⟩ := shapeT ho3
  subst e3
  obtain ⟨tx3, b3, ow3, b3'⟩ := tx0.store e1 st3 ho3 hP
  have cP3 := cellT b3' 0 _ rfl
  have fP3 : y3.frozen? ⟨w2.heap.size, 0, none⟩ = false := frozT b3' 0
  have hX3 := tx3.box hX (by omega) (by decide)
  have hs3 : w.heap.size ≤ (y3.setCell ⟨w2.heap.size, 0, none⟩ (.slice o3 (K ++ [32]).length c3)).heap.size := Nat.le_trans hsW tx3.bel.size
  obtain ⟨K3, hK3⟩ : ∃ q, K ++ [32] = q := ⟨_, rfl⟩
  have hKl3 : K3.length ≤ 400001 := by rw [← hK3, List.length_append]; simp only [List.length_cons, List.length_nil]; omega
  rw [hK3] at tx3 b3 ow3 hX3 hs3 ⊢
  obtain ⟨W3, hW3⟩ : ∃ W3, y3.setCell ⟨w2.heap.size, 0, none⟩ (.slice o3 K3.length c3) = W3 := ⟨_, rfl⟩
  rw [hW3] at tx3 b3 ow3 hX3 hs3
  have HK3 := hide hK3
  have HS3 := hide (And.intro tx3 (And.intro b3 (And.intro ow3 (And.intro hX3 hs3))))
  clear hK3 tx3 b3 ow3 hX3 hs3 ho3 st3 e2 cP tx0
  cases h with
  | true =>
   obtain ⟨tx3, b3, ow3, hX3, hs3⟩ := HS3.out
   have cP4 : W3.cell? ⟨w2.heap.size, 0, none⟩ = some (.slice o3 K3.length c3) := cellT b3 0 _ rfl
   gi_wp2_with (refine wpListIn_append_one 62 rfl _ _ rfl w.heap.size _ K3 rfl ow3 rfl ?c4 hs3 ?_)
   case c4 => omega
   intro x4 y4 ho4 st4
   obtain ⟨o4, c4, e4⟩ := shapeT ho4
   subst e4
   obtain ⟨K4, hK4⟩ : ∃ q, K3 ++ [62] = q := ⟨_, rfl⟩
   have hKl4 : K4.length ≤ 400002 := by rw [← hK4, List.length_append]; simp only [List.length_cons, List.length_nil]; omega
   rw [hK4] at ho4 ⊢
   have HK4 := hide hK4
   obtain ⟨txW, bW, owW, bW'⟩ := tx3.store b3 st4 ho4 hP
   have cP5 := cellT bW' 0 _ rfl
   have fP5 : y4.frozen? ⟨w2.heap.size, 0, none⟩ = false := frozT bW' 0
   have hXW := txW.box hX (by omega) (by decide)
   have hsW_ : w.heap.size ≤ (y4.setCell ⟨w2.heap.size, 0, none⟩ (.slice o4 K4.length c4)).heap.size := Nat.le_trans hsW txW.bel.size
   obtain ⟨W4, hW4⟩ : ∃ W4, y4.setCell ⟨w2.heap.size, 0, none⟩ (.slice o4 K4.length c4) = W4 := ⟨_, rfl⟩
   rw [hW4] at txW bW owW hXW hsW_
   have HS4 := hide (And.intro txW (And.intro bW (And.intro owW (And.intro hXW hsW_))))
   clear hK4 tx3 b3 ow3 hX3 hs3 ho4 st4 txW bW owW bW' hXW hsW_ cP4 HS3
   gi_wp2
   obtain ⟨txW, bW, owW, hXW, hsW_⟩ := HS4.out
   clear HS4 cP5 fP5 cP3 fP3 hW4 hW3
   rcases hy with hy | hy
   ·subst hy
    have k0 : W4.cell? ⟨w2.heap.size, 0, none⟩ = some (.slice o4 K4.length c4) := cellT bW 0 _ rfl
    have k1 : W4.cell? ⟨Bx, 0, none⟩ = some (.int .i64 (n1 : Int)) := cellT hXW 0 _ rfl
    have k2 : W4.cell? ⟨Bx, 1, none⟩ = some (.int .i64 0) := cellT hXW 1 _ rfl
    have bA := box_alT bW (.cells #[.int .u8 111] 5)
    have xA := box_alT hXW (.cells #[.int .u8 111] 5)
    have kA0 : (W4.alloc (.cells #[.int .u8 111] 5)).cell? ⟨w2.heap.size, 0, none⟩ = some (.slice o4 K4.length c4) := cellT bA 0 _ rfl
    gi_wp2
    refine wpIn_region_round (S := fun w' => w'.cell? ⟨Bx, 0, none⟩ = some (.int .i64 (n1 : Int)) ∧ w'.cell? ⟨Bx, 1, none⟩ = some (.int .i64 0)) (by kernel_rfl) (by kernel_rfl) ⟨k1, k2⟩ (fun hHeld => ?_)
    refine wpAnyH_take (i := 1) (oi := _) (v := .pointer (some ⟨Bx, 1, none⟩)) rfl (by kernel_rfl) (by kernel_rfl) (by kernel_rfl) (fun _ _ _ h => h) (Or.inl ⟨by rfl, fun w hSw => by obtain ⟨hSb, hSc⟩ := hSw; go_simp; (try rfl)⟩) hHeld ?_
    try simp only [Act.put, List.setIfInBounds_toArray, List.set_cons_zero, List.set_cons_succ]
    refine wpAnyH_take (i := 6) (oi := _) (v := .pointer (some ⟨Bx, 0, none⟩)) rfl (by kernel_rfl) (by kernel_rfl) (by kernel_rfl) (fun _ _ _ h => h) (Or.inl ⟨by rfl, fun w hSw => by obtain ⟨hSb, hSc⟩ := hSw; go_simp; (try rfl)⟩) hHeld ?_
    try simp only [Act.put, List.setIfInBounds_toArray, List.set_cons_zero, List.set_cons_succ]
    refine wpAnyH_take (i := 2) (oi := _) (v := .int .i64 0) rfl (by kernel_rfl) (by kernel_rfl) (by kernel_rfl) (fun _ _ _ h => h) (Or.inl ⟨by rfl, fun w hSw => by obtain ⟨hSb, hSc⟩ := hSw; go_simp; (try rfl)⟩) hHeld ?_
    try simp only [Act.put, List.setIfInBounds_toArray, List.set_cons_zero, List.set_cons_succ]
    refine wpAnyH_take (i := 7) (oi := _) (v := .int .i64 (n1 : Int)) rfl (by kernel_rfl) (by kernel_rfl) (by kernel_rfl) (fun _ _ _ h => h) (Or.inl ⟨by rfl, fun w hSw => by obtain ⟨hSb, hSc⟩ := hSw; go_simp; (try rfl)⟩) hHeld ?_
    try simp only [Act.put, List.setIfInBounds_toArray, List.set_cons_zero, List.set_cons_succ]
    refine wpAnyH_take (i := 3) (oi := _) (v := .int .u8 111) rfl (by kernel_rfl) (by kernel_rfl) (by kernel_rfl) (fun _ _ _ h => h) (Or.inl ⟨by rfl, fun w hSw => by obtain ⟨hSb, hSc⟩ := hSw; go_simp; (try rfl)⟩) hHeld ?_
    try simp only [Act.put, List.setIfInBounds_toArray, List.set_cons_zero, List.set_cons_succ]
    refine wpAnyH_ready (rs := [0, 4]) (by kernel_rfl) (by simp) ?_
    refine AllReadyH.cons rfl (fun K0 hK => ?_) (AllReadyH.cons rfl (fun K0 hK => ?_) AllReadyH.nil)
    ·go_simp
     refine hK.out _ _ ⟨k1, k2⟩ (fun hHeld => ?_)
     clear hK K0
     try simp only [Act.put, List.setIfInBounds_toArray, List.set_cons_zero, List.set_cons_succ]
     refine wpAnyH_ready (rs := [4]) (by kernel_rfl) (by simp) ?_
     refine AllReadyH.cons rfl (fun K0 hK => ?_) AllReadyH.nil
     go_simp
     refine hK.out _ _ ⟨cellT xA 0 _ rfl, cellT xA 1 _ rfl⟩ (fun hHeld => ?_)
     clear hK K0
     try simp only [Act.put, List.setIfInBounds_toArray, List.set_cons_zero, List.set_cons_succ]
     refine wpAnyH_ready (rs := [5]) (by kernel_rfl) (by simp) ?_
     refine AllReadyH.cons rfl (fun K0 hK => ?_) AllReadyH.nil
     refine step_append_txt rfl (.tmp 23) (.tmp 27) rfl w.heap.size (.slice o4 K4.length c4) K4 rfl (owW.alloc _).drew (some ⟨W4.heap.size, 0, none⟩) 1 [111] 1 rfl rfl (by intro e; cases e) (rd_built W4 111) (by simp; omega) (by simp; omega) ?_
     intro va wa hoa sa _
     have sA : TxS w.heap.size W4 wa := ((TxS.refl w.heap.size W4).alloc hsW_ _).drew.trans sa
     have bA2 := sA.box bW (by decide)
     have xA2 := sA.box hXW (by decide)
     have zA := sA.sz hsW_
     refine hK.out _ _ ⟨cellT xA2 0 _ rfl, cellT xA2 1 _ rfl⟩ (fun hHeld => ?_)
     clear hK K0
     try simp only [Act.put, List.setIfInBounds_toArray, List.set_cons_zero, List.set_cons_succ]
     refine wpAnyH_ready (rs := [8]) (by kernel_rfl) (by simp) ?_
     refine AllReadyH.cons rfl (fun K0 hK => ?_) AllReadyH.nil
     go_simp
     go_at_call 35
     have TA := (HTW.out.on txW.bel (Nat.le_refl _)).tx sA (Nat.le_refl _)
     refine (appendInt_any w.heap.size va _ n1 wa hoa zA TA (by omega) (by simp only [List.length_append, List.length_cons, List.length_nil]; omega)).mono ?_
     rintro e wb ⟨vb, rfl, hob, sb⟩
     obtain ⟨ob, cb, eb⟩ := shapeT hob
     subst eb
     obtain ⟨nb, hnb⟩ : ∃ n, (K4 ++ [111] ++ digL n1).length = n := ⟨_, rfl⟩
     rw [hnb] at hob ⊢
     clear hnb
     obtain ⟨txb, bb2, owb, bb3⟩ := txW.store bW (sA.trans sb) hob hP
     have xB := (sA.trans sb).box hXW (by decide)
     have xE := txb.box hX (by omega) (by decide)
     have cPb := cellT bb3 0 _ rfl
     have fPb : wb.frozen? ⟨w2.heap.size, 0, none⟩ = false := frozT bb3 0
     refine hK.out _ _ ⟨cellT xB 0 _ rfl, cellT xB 1 _ rfl⟩ (fun hHeld => ?_)
     clear hK K0
     try simp only [Act.put, List.setIfInBounds_toArray, List.set_cons_zero, List.set_cons_succ]
     refine wpAnyH_ready (rs := [9]) (by kernel_rfl) (by simp) ?_
     refine AllReadyH.cons rfl (fun K0 hK => ?_) AllReadyH.nil
     go_simp
     refine hK.out _ _ ⟨cellT xE 0 _ rfl, cellT xE 1 _ rfl⟩ (fun hHeld => ?_)
     clear hK K0
     try simp only [Act.put, List.setIfInBounds_toArray, List.set_cons_zero, List.set_cons_succ]
     refine wpAnyH_done (by kernel_rfl) ?_ _
     refine ⟨fun h => (by cases h), ?_⟩
     have HO : Hid (ownB (wb.setCell ⟨w2.heap.size, 0, none⟩ (.slice ob nb cb)) w.heap.size (.slice ob nb cb) (K ++ segT (((n1 : Int), 0), true))) := by unfold Hid; rw [← segT_eq, HK3.out, show hereT true = [62] from rfl, HK4.out, show letFn 0 = 111 from rfl]; exact owb
     have HT9 := hide txb
     have HB9 := hide bb2
     clear txb bb2 owb bb3 xB xE cPb fPb hob sb sA bA2 xA2 zA hoa sa TA bA xA k0 k1 k2 kA0 hHeld
     gi_wp2
     exact HFIN.out _ _ HT9.out HB9.out HO.out
    ·go_simp
     refine hK.out _ _ ⟨cellT xA 0 _ rfl, cellT xA 1 _ rfl⟩ (fun hHeld => ?_)
     clear hK K0
     try simp only [Act.put, List.setIfInBounds_toArray, List.set_cons_zero, List.set_cons_succ]
     refine wpAnyH_ready (rs := [0]) (by kernel_rfl) (by simp) ?_
     refine AllReadyH.cons rfl (fun K0 hK => ?_) AllReadyH.nil
     go_simp
     refine hK.out _ _ ⟨cellT xA 0 _ rfl, cellT xA 1 _ rfl⟩ (fun hHeld => ?_)
     clear hK K0
     try simp only [Act.put, List.setIfInBounds_toArray, List.set_cons_zero, List.set_cons_succ]
     refine wpAnyH_ready (rs := [5]) (by kernel_rfl) (by simp) ?_
     refine AllReadyH.cons rfl (fun K0 hK => ?_) AllReadyH.nil
     refine step_append_txt rfl (.tmp 23) (.tmp 27) rfl w.heap.size (.slice o4 K4.length c4) K4 rfl (owW.alloc _).drew (some ⟨W4.heap.size, 0, none⟩) 1 [111] 1 rfl rfl (by intro e; cases e) (rd_built W4 111) (by simp; omega) (by simp; omega) ?_
     intro va wa hoa sa _
     have sA : TxS w.heap.size W4 wa := ((TxS.refl w.heap.size W4).alloc hsW_ _).drew.trans sa
     have bA2 := sA.box bW (by decide)
     have xA2 := sA.box hXW (by decide)
     have zA := sA.sz hsW_
     refine hK.out _ _ ⟨cellT xA2 0 _ rfl, cellT xA2 1 _ rfl⟩ (fun hHeld => ?_)
     clear hK K0
     try simp only [Act.put, List.setIfInBounds_toArray, List.set_cons_zero, List.set_cons_succ]
     refine wpAnyH_ready (rs := [8]) (by kernel_rfl) (by simp) ?_
     refine AllReadyH.cons rfl (fun K0 hK => ?_) AllReadyH.nil
     go_simp
     go_at_call 35
     have TA := (HTW.out.on txW.bel (Nat.le_refl _)).tx sA (Nat.le_refl _)
     refine (appendInt_any w.heap.size va _ n1 wa hoa zA TA (by omega) (by simp only [List.length_append, List.length_cons, List.length_nil]; omega)).mono ?_
     rintro e wb ⟨vb, rfl, hob, sb⟩
     obtain ⟨ob, cb, eb⟩ := shapeT hob
     subst eb
     obtain ⟨nb, hnb⟩ : ∃ n, (K4 ++ [111] ++ digL n1).length = n := ⟨_, rfl⟩
     rw [hnb] at hob ⊢
     clear hnb
     obtain ⟨txb, bb2, owb, bb3⟩ := txW.store bW (sA.trans sb) hob hP
     have xB := (sA.trans sb).box hXW (by decide)
     have xE := txb.box hX (by omega) (by decide)
     have cPb := cellT bb3 0 _ rfl
     have fPb : wb.frozen? ⟨w2.heap.size, 0, none⟩ = false := frozT bb3 0
     refine hK.out _ _ ⟨cellT xB 0 _ rfl, cellT xB 1 _ rfl⟩ (fun hHeld => ?_)
     clear hK K0
     try simp only [Act.put, List.setIfInBounds_toArray, List.set_cons_zero, List.set_cons_succ]
     refine wpAnyH_ready (rs := [9]) (by kernel_rfl) (by simp) ?_
     refine AllReadyH.cons rfl (fun K0 hK => ?_) AllReadyH.nil
     go_simp
     refine hK.out _ _ ⟨cellT xE 0 _ rfl, cellT xE 1 _ rfl⟩ (fun hHeld => ?_)
     clear hK K0
     try simp only [Act.put, List.setIfInBounds_toArray, List.set_cons_zero, List.set_cons_succ]
     refine wpAnyH_done (by kernel_rfl) ?_ _
     refine ⟨fun h => (by cases h), ?_⟩
     have HO : Hid (ownB (wb.setCell ⟨w2.heap.size, 0, none⟩ (.slice ob nb cb)) w.heap.size (.slice ob nb cb) (K ++ segT (((n1 : Int), 0), true))) := by unfold Hid; rw [← segT_eq, HK3.out, show hereT true = [62] from rfl, HK4.out, show letFn 0 = 111 from rfl]; exact owb
     have HT9 := hide txb
     have HB9 := hide bb2
     clear txb bb2 owb bb3 xB xE cPb fPb hob sb sA bA2 xA2 zA hoa sa TA bA xA k0 k1 k2 kA0 hHeld
     gi_wp2
     exact HFIN.out _ _ HT9.out HB9.out HO.out
   ·subst hy
    have k0 : W4.cell? ⟨w2.heap.size, 0, none⟩ = some (.slice o4 K4.length c4) := cellT bW 0 _ rfl
    have k1 : W4.cell? ⟨Bx, 0, none⟩ = some (.int .i64 (n1 : Int)) := cellT hXW 0 _ rfl
    have k2 : W4.cell? ⟨Bx, 1, none⟩ = some (.int .i64 1) := cellT hXW 1 _ rfl
    have bA := box_alT bW (.cells #[.int .u8 104] 5)
    have xA := box_alT hXW (.cells #[.int .u8 104] 5)
    have kA0 : (W4.alloc (.cells #[.int .u8 104] 5)).cell? ⟨w2.heap.size, 0, none⟩ = some (.slice o4 K4.length c4) := cellT bA 0 _ rfl
    gi_wp2
    refine wpIn_region_round (S := fun w' => w'.cell? ⟨Bx, 0, none⟩ = some (.int .i64 (n1 : Int)) ∧ w'.cell? ⟨Bx, 1, none⟩ = some (.int .i64 1)) (by kernel_rfl) (by kernel_rfl) ⟨k1, k2⟩ (fun hHeld => ?_)
    refine wpAnyH_take (i := 1) (oi := _) (v := .pointer (some ⟨Bx, 1, none⟩)) rfl (by kernel_rfl) (by kernel_rfl) (by kernel_rfl) (fun _ _ _ h => h) (Or.inl ⟨by rfl, fun w hSw => by obtain ⟨hSb, hSc⟩ := hSw; go_simp; (try rfl)⟩) hHeld ?_
    try simp only [Act.put, List.setIfInBounds_toArray, List.set_cons_zero, List.set_cons_succ]
    refine wpAnyH_take (i := 6) (oi := _) (v := .pointer (some ⟨Bx, 0, none⟩)) rfl (by kernel_rfl) (by kernel_rfl) (by kernel_rfl) (fun _ _ _ h => h) (Or.inl ⟨by rfl, fun w hSw => by obtain ⟨hSb, hSc⟩ := hSw; go_simp; (try rfl)⟩) hHeld ?_
    try simp only [Act.put, List.setIfInBounds_toArray, List.set_cons_zero, List.set_cons_succ]
    refine wpAnyH_take (i := 2) (oi := _) (v := .int .i64 1) rfl (by kernel_rfl) (by kernel_rfl) (by kernel_rfl) (fun _ _ _ h => h) (Or.inl ⟨by rfl, fun w hSw => by obtain ⟨hSb, hSc⟩ := hSw; go_simp; (try rfl)⟩) hHeld ?_
    try simp only [Act.put, List.setIfInBounds_toArray, List.set_cons_zero, List.set_cons_succ]
    refine wpAnyH_take (i := 7) (oi := _) (v := .int .i64 (n1 : Int)) rfl (by kernel_rfl) (by kernel_rfl) (by kernel_rfl) (fun _ _ _ h => h) (Or.inl ⟨by rfl, fun w hSw => by obtain ⟨hSb, hSc⟩ := hSw; go_simp; (try rfl)⟩) hHeld ?_
    try simp only [Act.put, List.setIfInBounds_toArray, List.set_cons_zero, List.set_cons_succ]
    refine wpAnyH_take (i := 3) (oi := _) (v := .int .u8 104) rfl (by kernel_rfl) (by kernel_rfl) (by kernel_rfl) (fun _ _ _ h => h) (Or.inl ⟨by rfl, fun w hSw => by obtain ⟨hSb, hSc⟩ := hSw; go_simp; (try rfl)⟩) hHeld ?_
    try simp only [Act.put, List.setIfInBounds_toArray, List.set_cons_zero, List.set_cons_succ]
    refine wpAnyH_ready (rs := [0, 4]) (by kernel_rfl) (by simp) ?_
    refine AllReadyH.cons rfl (fun K0 hK => ?_) (AllReadyH.cons rfl (fun K0 hK => ?_) AllReadyH.nil)
    ·go_simp
     refine hK.out _ _ ⟨k1, k2⟩ (fun hHeld => ?_)
     clear hK K0
     try simp only [Act.put, List.setIfInBounds_toArray, List.set_cons_zero, List.set_cons_succ]
     refine wpAnyH_ready (rs := [4]) (by kernel_rfl) (by simp) ?_
     refine AllReadyH.cons rfl (fun K0 hK => ?_) AllReadyH.nil
     go_simp
     refine hK.out _ _ ⟨cellT xA 0 _ rfl, cellT xA 1 _ rfl⟩ (fun hHeld => ?_)
     clear hK K0
     try simp only [Act.put, List.setIfInBounds_toArray, List.set_cons_zero, List.set_cons_succ]
     refine wpAnyH_ready (rs := [5]) (by kernel_rfl) (by simp) ?_
     refine AllReadyH.cons rfl (fun K0 hK => ?_) AllReadyH.nil
     refine step_append_txt rfl (.tmp 23) (.tmp 27) rfl w.heap.size (.slice o4 K4.length c4) K4 rfl (owW.alloc _).drew (some ⟨W4.heap.size, 0, none⟩) 1 [104] 1 rfl rfl (by intro e; cases e) (rd_built W4 104) (by simp; omega) (by simp; omega) ?_
     intro va wa hoa sa _
     have sA : TxS w.heap.size W4 wa := ((TxS.refl w.heap.size W4).alloc hsW_ _).drew.trans sa
     have bA2 := sA.box bW (by decide)
     have xA2 := sA.box hXW (by decide)
     have zA := sA.sz hsW_
     refine hK.out _ _ ⟨cellT xA2 0 _ rfl, cellT xA2 1 _ rfl⟩ (fun hHeld => ?_)
     clear hK K0
     try simp only [Act.put, List.setIfInBounds_toArray, List.set_cons_zero, List.set_cons_succ]
     refine wpAnyH_ready (rs := [8]) (by kernel_rfl) (by simp) ?_
     refine AllReadyH.cons rfl (fun K0 hK => ?_) AllReadyH.nil
     go_simp
     go_at_call 35
     have TA := (HTW.out.on txW.bel (Nat.le_refl _)).tx sA (Nat.le_refl _)
     refine (appendInt_any w.heap.size va _ n1 wa hoa zA TA (by omega) (by simp only [List.length_append, List.length_cons, List.length_nil]; omega)).mono ?_
     rintro e wb ⟨vb, rfl, hob, sb⟩
     obtain ⟨ob, cb, eb⟩ := shapeT hob
     subst eb
     obtain ⟨nb, hnb⟩ : ∃ n, (K4 ++ [104] ++ digL n1).length = n := ⟨_, rfl⟩
     rw [hnb] at hob ⊢
     clear hnb
     obtain ⟨txb, bb2, owb, bb3⟩ := txW.store bW (sA.trans sb) hob hP
     have xB := (sA.trans sb).box hXW (by decide)
     have xE := txb.box hX (by omega) (by decide)
     have cPb := cellT bb3 0 _ rfl
     have fPb : wb.frozen? ⟨w2.heap.size, 0, none⟩ = false := frozT bb3 0
     refine hK.out _ _ ⟨cellT xB 0 _ rfl, cellT xB 1 _ rfl⟩ (fun hHeld => ?_)
     clear hK K0
     try simp only [Act.put, List.setIfInBounds_toArray, List.set_cons_zero, List.set_cons_succ]
     refine wpAnyH_ready (rs := [9]) (by kernel_rfl) (by simp) ?_
     refine AllReadyH.cons rfl (fun K0 hK => ?_) AllReadyH.nil
     go_simp
     refine hK.out _ _ ⟨cellT xE 0 _ rfl, cellT xE 1 _ rfl⟩ (fun hHeld => ?_)
     clear hK K0
     try simp only [Act.put, List.setIfInBounds_toArray, List.set_cons_zero, List.set_cons_succ]
     refine wpAnyH_done (by kernel_rfl) ?_ _
     refine ⟨fun h => (by cases h), ?_⟩
     have HO : Hid (ownB (wb.setCell ⟨w2.heap.size, 0, none⟩ (.slice ob nb cb)) w.heap.size (.slice ob nb cb) (K ++ segT (((n1 : Int), 1), true))) := by unfold Hid; rw [← segT_eq, HK3.out, show hereT true = [62] from rfl, HK4.out, show letFn 1 = 104 from rfl]; exact owb
     have HT9 := hide txb
     have HB9 := hide bb2
     clear txb bb2 owb bb3 xB xE cPb fPb hob sb sA bA2 xA2 zA hoa sa TA bA xA k0 k1 k2 kA0 hHeld
     gi_wp2
     exact HFIN.out _ _ HT9.out HB9.out HO.out
    ·go_simp
     refine hK.out _ _ ⟨cellT xA 0 _ rfl, cellT xA 1 _ rfl⟩ (fun hHeld => ?_)
     clear hK K0
     try simp only [Act.put, List.setIfInBounds_toArray, List.set_cons_zero, List.set_cons_succ]
     refine wpAnyH_ready (rs := [0]) (by kernel_rfl) (by simp) ?_
     refine AllReadyH.cons rfl (fun K0 hK => ?_) AllReadyH.nil
     go_simp
     refine hK.out _ _ ⟨cellT xA 0 _ rfl, cellT xA 1 _ rfl⟩ (fun hHeld => ?_)
     clear hK K0
     try simp only [Act.put, List.setIfInBounds_toArray, List.set_cons_zero, List.set_cons_succ]
     refine wpAnyH_ready (rs := [5]) (by kernel_rfl) (by simp) ?_
     refine AllReadyH.cons rfl (fun K0 hK => ?_) AllReadyH.nil
     refine step_append_txt rfl (.tmp 23) (.tmp 27) rfl w.heap.size (.slice o4 K4.length c4) K4 rfl (owW.alloc _).drew (some ⟨W4.heap.size, 0, none⟩) 1 [104] 1 rfl rfl (by intro e; cases e) (rd_built W4 104) (by simp; omega) (by simp; omega) ?_
     intro va wa hoa sa _
     have sA : TxS w.heap.size W4 wa := ((TxS.refl w.heap.size W4).alloc hsW_ _).drew.trans sa
     have bA2 := sA.box bW (by decide)
     have xA2 := sA.box hXW (by decide)
     have zA := sA.sz hsW_
     refine hK.out _ _ ⟨cellT xA2 0 _ rfl, cellT xA2 1 _ rfl⟩ (fun hHeld => ?_)
     clear hK K0
     try simp only [Act.put, List.setIfInBounds_toArray, List.set_cons_zero, List.set_cons_succ]
     refine wpAnyH_ready (rs := [8]) (by kernel_rfl) (by simp) ?_
     refine AllReadyH.cons rfl (fun K0 hK => ?_) AllReadyH.nil
     go_simp
     go_at_call 35
     have TA := (HTW.out.on txW.bel (Nat.le_refl _)).tx sA (Nat.le_refl _)
     refine (appendInt_any w.heap.size va _ n1 wa hoa zA TA (by omega) (by simp only [List.length_append, List.length_cons, List.length_nil]; omega)).mono ?_
     rintro e wb ⟨vb, rfl, hob, sb⟩
     obtain ⟨ob, cb, eb⟩ := shapeT hob
     subst eb
     obtain ⟨nb, hnb⟩ : ∃ n, (K4 ++ [104] ++ digL n1).length = n := ⟨_, rfl⟩
     rw [hnb] at hob ⊢
     clear hnb
     obtain ⟨txb, bb2, owb, bb3⟩ := txW.store bW (sA.trans sb) hob hP
     have xB := (sA.trans sb).box hXW (by decide)
     have xE := txb.box hX (by omega) (by decide)
     have cPb := cellT bb3 0 _ rfl
     have fPb : wb.frozen? ⟨w2.heap.size, 0, none⟩ = false := frozT bb3 0
     refine hK.out _ _ ⟨cellT xB 0 _ rfl, cellT xB 1 _ rfl⟩ (fun hHeld => ?_)
     clear hK K0
     try simp only [Act.put, List.setIfInBounds_toArray, List.set_cons_zero, List.set_cons_succ]
     refine wpAnyH_ready (rs := [9]) (by kernel_rfl) (by simp) ?_
     refine AllReadyH.cons rfl (fun K0 hK => ?_) AllReadyH.nil
     go_simp
     refine hK.out _ _ ⟨cellT xE 0 _ rfl, cellT xE 1 _ rfl⟩ (fun hHeld => ?_)
     clear hK K0
     try simp only [Act.put, List.setIfInBounds_toArray, List.set_cons_zero, List.set_cons_succ]
     refine wpAnyH_done (by kernel_rfl) ?_ _
     refine ⟨fun h => (by cases h), ?_⟩
     have HO : Hid (ownB (wb.setCell ⟨w2.heap.size, 0, none⟩ (.slice ob nb cb)) w.heap.size (.slice ob nb cb) (K ++ segT (((n1 : Int), 1), true))) := by unfold Hid; rw [← segT_eq, HK3.out, show hereT true = [62] from rfl, HK4.out, show letFn 1 = 104 from rfl]; exact owb
     have HT9 := hide txb
     have HB9 := hide bb2
     clear txb bb2 owb bb3 xB xE cPb fPb hob sb sA bA2 xA2 zA hoa sa TA bA xA k0 k1 k2 kA0 hHeld
     gi_wp2
     exact HFIN.out _ _ HT9.out HB9.out HO.out
  | false =>
   obtain ⟨txW, bW, owW, hXW, hsW_⟩ := HS3.out
   gi_wp2
   clear HS3 cP3 fP3 hW3
   rcases hy with hy | hy
   ·subst hy
    have k0 : W3.cell? ⟨w2.heap.size, 0, none⟩ = some (.slice o3 K3.length c3) := cellT bW 0 _ rfl
    have k1 : W3.cell? ⟨Bx, 0, none⟩ = some (.int .i64 (n1 : Int)) := cellT hXW 0 _ rfl
    have k2 : W3.cell? ⟨Bx, 1, none⟩ = some (.int .i64 0) := cellT hXW 1 _ rfl
    have bA := box_alT bW (.cells #[.int .u8 111] 5)
    have xA := box_alT hXW (.cells #[.int .u8 111] 5)
    have kA0 : (W3.alloc (.cells #[.int .u8 111] 5)).cell? ⟨w2.heap.size, 0, none⟩ = some (.slice o3 K3.length c3) := cellT bA 0 _ rfl
    gi_wp2
    refine wpIn_region_round (S := fun w' => w'.cell? ⟨Bx, 0, none⟩ = some (.int .i64 (n1 : Int)) ∧ w'.cell? ⟨Bx, 1, none⟩ = some (.int .i64 0)) (by kernel_rfl) (by kernel_rfl) ⟨k1, k2⟩ (fun hHeld => ?_)
    refine wpAnyH_take (i := 1) (oi := _) (v := .pointer (some ⟨Bx, 1, none⟩)) rfl (by kernel_rfl) (by kernel_rfl) (by kernel_rfl) (fun _ _ _ h => h) (Or.inl ⟨by rfl, fun w hSw => by obtain ⟨hSb, hSc⟩ := hSw; go_simp; (try rfl)⟩) hHeld ?_
    try simp only [Act.put, List.setIfInBounds_toArray, List.set_cons_zero, List.set_cons_succ]
    refine wpAnyH_take (i := 6) (oi := _) (v := .pointer (some ⟨Bx, 0, none⟩)) rfl (by kernel_rfl) (by kernel_rfl) (by kernel_rfl) (fun _ _ _ h => h) (Or.inl ⟨by rfl, fun w hSw => by obtain ⟨hSb, hSc⟩ := hSw; go_simp; (try rfl)⟩) hHeld ?_
    try simp only [Act.put, List.setIfInBounds_toArray, List.set_cons_zero, List.set_cons_succ]
    refine wpAnyH_take (i := 2) (oi := _) (v := .int .i64 0) rfl (by kernel_rfl) (by kernel_rfl) (by kernel_rfl) (fun _ _ _ h => h) (Or.inl ⟨by rfl, fun w hSw => by obtain ⟨hSb, hSc⟩ := hSw; go_simp; (try rfl)⟩) hHeld ?_
    try simp only [Act.put, List.setIfInBounds_toArray, List.set_cons_zero, List.set_cons_succ]
    refine wpAnyH_take (i := 7) (oi := _) (v := .int .i64 (n1 : Int)) rfl (by kernel_rfl) (by kernel_rfl) (by kernel_rfl) (fun _ _ _ h => h) (Or.inl ⟨by rfl, fun w hSw => by obtain ⟨hSb, hSc⟩ := hSw; go_simp; (try rfl)⟩) hHeld ?_
    try simp only [Act.put, List.setIfInBounds_toArray, List.set_cons_zero, List.set_cons_succ]
    refine wpAnyH_take (i := 3) (oi := _) (v := .int .u8 111) rfl (by kernel_rfl) (by kernel_rfl) (by kernel_rfl) (fun _ _ _ h => h) (Or.inl ⟨by rfl, fun w hSw => by obtain ⟨hSb, hSc⟩ := hSw; go_simp; (try rfl)⟩) hHeld ?_
    try simp only [Act.put, List.setIfInBounds_toArray, List.set_cons_zero, List.set_cons_succ]
    refine wpAnyH_ready (rs := [0, 4]) (by kernel_rfl) (by simp) ?_
    refine AllReadyH.cons rfl (fun K0 hK => ?_) (AllReadyH.cons rfl (fun K0 hK => ?_) AllReadyH.nil)
    ·go_simp
     refine hK.out _ _ ⟨k1, k2⟩ (fun hHeld => ?_)
     clear hK K0
     try simp only [Act.put, List.setIfInBounds_toArray, List.set_cons_zero, List.set_cons_succ]
     refine wpAnyH_ready (rs := [4]) (by kernel_rfl) (by simp) ?_
     refine AllReadyH.cons rfl (fun K0 hK => ?_) AllReadyH.nil
     go_simp
     refine hK.out _ _ ⟨cellT xA 0 _ rfl, cellT xA 1 _ rfl⟩ (fun hHeld => ?_)
     clear hK K0
     try simp only [Act.put, List.setIfInBounds_toArray, List.set_cons_zero, List.set_cons_succ]
     refine wpAnyH_ready (rs := [5]) (by kernel_rfl) (by simp) ?_
     refine AllReadyH.cons rfl (fun K0 hK => ?_) AllReadyH.nil
     refine step_append_txt rfl (.tmp 23) (.tmp 27) rfl w.heap.size (.slice o3 K3.length c3) K3 rfl (owW.alloc _).drew (some ⟨W3.heap.size, 0, none⟩) 1 [111] 1 rfl rfl (by intro e; cases e) (rd_built W3 111) (by simp; omega) (by simp; omega) ?_
     intro va wa hoa sa _
     have sA : TxS w.heap.size W3 wa := ((TxS.refl w.heap.size W3).alloc hsW_ _).drew.trans sa
     have bA2 := sA.box bW (by decide)
     have xA2 := sA.box hXW (by decide)
     have zA := sA.sz hsW_
     refine hK.out _ _ ⟨cellT xA2 0 _ rfl, cellT xA2 1 _ rfl⟩ (fun hHeld => ?_)
     clear hK K0
     try simp only [Act.put, List.setIfInBounds_toArray, List.set_cons_zero, List.set_cons_succ]
     refine wpAnyH_ready (rs := [8]) (by kernel_rfl) (by simp) ?_
     refine AllReadyH.cons rfl (fun K0 hK => ?_) AllReadyH.nil
     go_simp
     go_at_call 35
     have TA := (HTW.out.on txW.bel (Nat.le_refl _)).tx sA (Nat.le_refl _)
     refine (appendInt_any w.heap.size va _ n1 wa hoa zA TA (by omega) (by simp only [List.length_append, List.length_cons, List.length_nil]; omega)).mono ?_
     rintro e wb ⟨vb, rfl, hob, sb⟩
     obtain ⟨ob, cb, eb⟩ := shapeT hob
     subst eb
     obtain ⟨nb, hnb⟩ : ∃ n, (K3 ++ [111] ++ digL n1).length = n := ⟨_, rfl⟩
     rw [hnb] at hob ⊢
     clear hnb
     obtain ⟨txb, bb2, owb, bb3⟩ := txW.store bW (sA.trans sb) hob hP
     have xB := (sA.trans sb).box hXW (by decide)
     have xE := txb.box hX (by omega) (by decide)
     have cPb := cellT bb3 0 _ rfl
     have fPb : wb.frozen? ⟨w2.heap.size, 0, none⟩ = false := frozT bb3 0
     refine hK.out _ _ ⟨cellT xB 0 _ rfl, cellT xB 1 _ rfl⟩ (fun hHeld => ?_)
     clear hK K0
     try simp only [Act.put, List.setIfInBounds_toArray, List.set_cons_zero, List.set_cons_succ]
     refine wpAnyH_ready (rs := [9]) (by kernel_rfl) (by simp) ?_
     refine AllReadyH.cons rfl (fun K0 hK => ?_) AllReadyH.nil
     go_simp
     refine hK.out _ _ ⟨cellT xE 0 _ rfl, cellT xE 1 _ rfl⟩ (fun hHeld => ?_)
     clear hK K0
     try simp only [Act.put, List.setIfInBounds_toArray, List.set_cons_zero, List.set_cons_succ]
     refine wpAnyH_done (by kernel_rfl) ?_ _
     refine ⟨fun h => (by cases h), ?_⟩
     have HO : Hid (ownB (wb.setCell ⟨w2.heap.size, 0, none⟩ (.slice ob nb cb)) w.heap.size (.slice ob nb cb) (K ++ segT (((n1 : Int), 0), false))) := by unfold Hid; rw [← segT_eq, HK3.out, show hereT false = [] from rfl, List.append_nil, show letFn 0 = 111 from rfl]; exact owb
     have HT9 := hide txb
     have HB9 := hide bb2
     clear txb bb2 owb bb3 xB xE cPb fPb hob sb sA bA2 xA2 zA hoa sa TA bA xA k0 k1 k2 kA0 hHeld
     gi_wp2
     exact HFIN.out _ _ HT9.out HB9.out HO.out
    ·go_simp
     refine hK.out _ _ ⟨cellT xA 0 _ rfl, cellT xA 1 _ rfl⟩ (fun hHeld => ?_)
     clear hK K0
     try simp only [Act.put, List.setIfInBounds_toArray, List.set_cons_zero, List.set_cons_succ]
     refine wpAnyH_ready (rs := [0]) (by kernel_rfl) (by simp) ?_
     refine AllReadyH.cons rfl (fun K0 hK => ?_) AllReadyH.nil
     go_simp
     refine hK.out _ _ ⟨cellT xA 0 _ rfl, cellT xA 1 _ rfl⟩ (fun hHeld => ?_)
     clear hK K0
     try simp only [Act.put, List.setIfInBounds_toArray, List.set_cons_zero, List.set_cons_succ]
     refine wpAnyH_ready (rs := [5]) (by kernel_rfl) (by simp) ?_
     refine AllReadyH.cons rfl (fun K0 hK => ?_) AllReadyH.nil
     refine step_append_txt rfl (.tmp 23) (.tmp 27) rfl w.heap.size (.slice o3 K3.length c3) K3 rfl (owW.alloc _).drew (some ⟨W3.heap.size, 0, none⟩) 1 [111] 1 rfl rfl (by intro e; cases e) (rd_built W3 111) (by simp; omega) (by simp; omega) ?_
     intro va wa hoa sa _
     have sA : TxS w.heap.size W3 wa := ((TxS.refl w.heap.size W3).alloc hsW_ _).drew.trans sa
     have bA2 := sA.box bW (by decide)
     have xA2 := sA.box hXW (by decide)
     have zA := sA.sz hsW_
     refine hK.out _ _ ⟨cellT xA2 0 _ rfl, cellT xA2 1 _ rfl⟩ (fun hHeld => ?_)
     clear hK K0
     try simp only [Act.put, List.setIfInBounds_toArray, List.set_cons_zero, List.set_cons_succ]
     refine wpAnyH_ready (rs := [8]) (by kernel_rfl) (by simp) ?_
     refine AllReadyH.cons rfl (fun K0 hK => ?_) AllReadyH.nil
     go_simp
     go_at_call 35
     have TA := (HTW.out.on txW.bel (Nat.le_refl _)).tx sA (Nat.le_refl _)
     refine (appendInt_any w.heap.size va _ n1 wa hoa zA TA (by omega) (by simp only [List.length_append, List.length_cons, List.length_nil]; omega)).mono ?_
     rintro e wb ⟨vb, rfl, hob, sb⟩
     obtain ⟨ob, cb, eb⟩ := shapeT hob
     subst eb
     obtain ⟨nb, hnb⟩ : ∃ n, (K3 ++ [111] ++ digL n1).length = n := ⟨_, rfl⟩
     rw [hnb] at hob ⊢
     clear hnb
     obtain ⟨txb, bb2, owb, bb3⟩ := txW.store bW (sA.trans sb) hob hP
     have xB := (sA.trans sb).box hXW (by decide)
     have xE := txb.box hX (by omega) (by decide)
     have cPb := cellT bb3 0 _ rfl
     have fPb : wb.frozen? ⟨w2.heap.size, 0, none⟩ = false := frozT bb3 0
     refine hK.out _ _ ⟨cellT xB 0 _ rfl, cellT xB 1 _ rfl⟩ (fun hHeld => ?_)
     clear hK K0
     try simp only [Act.put, List.setIfInBounds_toArray, List.set_cons_zero, List.set_cons_succ]
     refine wpAnyH_ready (rs := [9]) (by kernel_rfl) (by simp) ?_
     refine AllReadyH.cons rfl (fun K0 hK => ?_) AllReadyH.nil
     go_simp
     refine hK.out _ _ ⟨cellT xE 0 _ rfl, cellT xE 1 _ rfl⟩ (fun hHeld => ?_)
     clear hK K0
     try simp only [Act.put, List.setIfInBounds_toArray, List.set_cons_zero, List.set_cons_succ]
     refine wpAnyH_done (by kernel_rfl) ?_ _
     refine ⟨fun h => (by cases h), ?_⟩
     have HO : Hid (ownB (wb.setCell ⟨w2.heap.size, 0, none⟩ (.slice ob nb cb)) w.heap.size (.slice ob nb cb) (K ++ segT (((n1 : Int), 0), false))) := by unfold Hid; rw [← segT_eq, HK3.out, show hereT false = [] from rfl, List.append_nil, show letFn 0 = 111 from rfl]; exact owb
     have HT9 := hide txb
     have HB9 := hide bb2
     clear txb bb2 owb bb3 xB xE cPb fPb hob sb sA bA2 xA2 zA hoa sa TA bA xA k0 k1 k2 kA0 hHeld
     gi_wp2
     exact HFIN.out _ _ HT9.out HB9.out HO.out
   ·subst hy
    have k0 : W3.cell? ⟨w2.heap.size, 0, none⟩ = some (.slice o3 K3.length c3) := cellT bW 0 _ rfl
    have k1 : W3.cell? ⟨Bx, 0, none⟩ = some (.int .i64 (n1 : Int)) := cellT hXW 0 _ rfl
    have k2 : W3.cell? ⟨Bx, 1, none⟩ = some (.int .i64 1) := cellT hXW 1 _ rfl
    have bA := box_alT bW (.cells #[.int .u8 104] 5)
    have xA := box_alT hXW (.cells #[.int .u8 104] 5)
    have kA0 : (W3.alloc (.cells #[.int .u8 104] 5)).cell? ⟨w2.heap.size, 0, none⟩ = some (.slice o3 K3.length c3) := cellT bA 0 _ rfl
    gi_wp2
    refine wpIn_region_round (S := fun w' => w'.cell? ⟨Bx, 0, none⟩ = some (.int .i64 (n1 : Int)) ∧ w'.cell? ⟨Bx, 1, none⟩ = some (.int .i64 1)) (by kernel_rfl) (by kernel_rfl) ⟨k1, k2⟩ (fun hHeld => ?_)
    refine wpAnyH_take (i := 1) (oi := _) (v := .pointer (some ⟨Bx, 1, none⟩)) rfl (by kernel_rfl) (by kernel_rfl) (by kernel_rfl) (fun _ _ _ h => h) (Or.inl ⟨by rfl, fun w hSw => by obtain ⟨hSb, hSc⟩ := hSw; go_simp; (try rfl)⟩) hHeld ?_
    try simp only [Act.put, List.setIfInBounds_toArray, List.set_cons_zero, List.set_cons_succ]
    refine wpAnyH_take (i := 6) (oi := _) (v := .pointer (some ⟨Bx, 0, none⟩)) rfl (by kernel_rfl) (by kernel_rfl) (by kernel_rfl) (fun _ _ _ h => h) (Or.inl ⟨by rfl, fun w hSw => by obtain ⟨hSb, hSc⟩ := hSw; go_simp; (try rfl)⟩) hHeld ?_
    try simp only [Act.put, List.setIfInBounds_toArray, List.set_cons_zero, List.set_cons_succ]
    refine wpAnyH_take (i := 2) (oi := _) (v := .int .i64 1) rfl (by kernel_rfl) (by kernel_rfl) (by kernel_rfl) (fun _ _ _ h => h) (Or.inl ⟨by rfl, fun w hSw => by obtain ⟨hSb, hSc⟩ := hSw; go_simp; (try rfl)⟩) hHeld ?_
    try simp only [Act.put, List.setIfInBounds_toArray, List.set_cons_zero, List.set_cons_succ]
    refine wpAnyH_take (i := 7) (oi := _) (v := .int .i64 (n1 : Int)) rfl (by kernel_rfl) (by kernel_rfl) (by kernel_rfl) (fun _ _ _ h => h) (Or.inl ⟨by rfl, fun w hSw => by obtain ⟨hSb, hSc⟩ := hSw; go_simp; (try rfl)⟩) hHeld ?_
    try simp only [Act.put, List.setIfInBounds_toArray, List.set_cons_zero, List.set_cons_succ]
    refine wpAnyH_take (i := 3) (oi := _) (v := .int .u8 104) rfl (by kernel_rfl) (by kernel_rfl) (by kernel_rfl) (fun _ _ _ h => h) (Or.inl ⟨by rfl, fun w hSw => by obtain ⟨hSb, hSc⟩ := hSw; go_simp; (try rfl)⟩) hHeld ?_
    try simp only [Act.put, List.setIfInBounds_toArray, List.set_cons_zero, List.set_cons_succ]
    refine wpAnyH_ready (rs := [0, 4]) (by kernel_rfl) (by simp) ?_
    refine AllReadyH.cons rfl (fun K0 hK => ?_) (AllReadyH.cons rfl (fun K0 hK => ?_) AllReadyH.nil)
    ·go_simp
     refine hK.out _ _ ⟨k1, k2⟩ (fun hHeld => ?_)
     clear hK K0
     try simp only [Act.put, List.setIfInBounds_toArray, List.set_cons_zero, List.set_cons_succ]
     refine wpAnyH_ready (rs := [4]) (by kernel_rfl) (by simp) ?_
     refine AllReadyH.cons rfl (fun K0 hK => ?_) AllReadyH.nil
     go_simp
     refine hK.out _ _ ⟨cellT xA 0 _ rfl, cellT xA 1 _ rfl⟩ (fun hHeld => ?_)
     clear hK K0
     try simp only [Act.put, List.setIfInBounds_toArray, List.set_cons_zero, List.set_cons_succ]
     refine wpAnyH_ready (rs := [5]) (by kernel_rfl) (by simp) ?_
     refine AllReadyH.cons rfl (fun K0 hK => ?_) AllReadyH.nil
     refine step_append_txt rfl (.tmp 23) (.tmp 27) rfl w.heap.size (.slice o3 K3.length c3) K3 rfl (owW.alloc _).drew (some ⟨W3.heap.size, 0, none⟩) 1 [104] 1 rfl rfl (by intro e; cases e) (rd_built W3 104) (by simp; omega) (by simp; omega) ?_
     intro va wa hoa sa _
     have sA : TxS w.heap.size W3 wa := ((TxS.refl w.heap.size W3).alloc hsW_ _).drew.trans sa
     have bA2 := sA.box bW (by decide)
     have xA2 := sA.box hXW (by decide)
     have zA := sA.sz hsW_
     refine hK.out _ _ ⟨cellT xA2 0 _ rfl, cellT xA2 1 _ rfl⟩ (fun hHeld => ?_)
     clear hK K0
     try simp only [Act.put, List.setIfInBounds_toArray, List.set_cons_zero, List.set_cons_succ]
     refine wpAnyH_ready (rs := [8]) (by kernel_rfl) (by simp) ?_
     refine AllReadyH.cons rfl (fun K0 hK => ?_) AllReadyH.nil
     go_simp
     go_at_call 35
     have TA := (HTW.out.on txW.bel (Nat.le_refl _)).tx sA (Nat.le_refl _)
     refine (appendInt_any w.heap.size va _ n1 wa hoa zA TA (by omega) (by simp only [List.length_append, List.length_cons, List.length_nil]; omega)).mono ?_
     rintro e wb ⟨vb, rfl, hob, sb⟩
     obtain ⟨ob, cb, eb⟩ := shapeT hob
     subst eb
     obtain ⟨nb, hnb⟩ : ∃ n, (K3 ++ [104] ++ digL n1).length = n := ⟨_, rfl⟩
     rw [hnb] at hob ⊢
     clear hnb
     obtain ⟨txb, bb2, owb, bb3⟩ := txW.store bW (sA.trans sb) hob hP
     have xB := (sA.trans sb).box hXW (by decide)
     have xE := txb.box hX (by omega) (by decide)
     have cPb := cellT bb3 0 _ rfl
     have fPb : wb.frozen? ⟨w2.heap.size, 0, none⟩ = false := frozT bb3 0
     refine hK.out _ _ ⟨cellT xB 0 _ rfl, cellT xB 1 _ rfl⟩ (fun hHeld => ?_)
     clear hK K0
     try simp only [Act.put, List.setIfInBounds_toArray, List.set_cons_zero, List.set_cons_succ]
     refine wpAnyH_ready (rs := [9]) (by kernel_rfl) (by simp) ?_
     refine AllReadyH.cons rfl (fun K0 hK => ?_) AllReadyH.nil
     go_simp
     refine hK.out _ _ ⟨cellT xE 0 _ rfl, cellT xE 1 _ rfl⟩ (fun hHeld => ?_)
     clear hK K0
     try simp only [Act.put, List.setIfInBounds_toArray, List.set_cons_zero, List.set_cons_succ]
     refine wpAnyH_done (by kernel_rfl) ?_ _
     refine ⟨fun h => (by cases h), ?_⟩
     have HO : Hid (ownB (wb.setCell ⟨w2.heap.size, 0, none⟩ (.slice ob nb cb)) w.heap.size (.slice ob nb cb) (K ++ segT (((n1 : Int), 1), false))) := by unfold Hid; rw [← segT_eq, HK3.out, show hereT false = [] from rfl, List.append_nil, show letFn 1 = 104 from rfl]; exact owb
     have HT9 := hide txb
     have HB9 := hide bb2
     clear txb bb2 owb bb3 xB xE cPb fPb hob sb sA bA2 xA2 zA hoa sa TA bA xA k0 k1 k2 kA0 hHeld
     gi_wp2
     exact HFIN.out _ _ HT9.out HB9.out HO.out
    ·go_simp
     refine hK.out _ _ ⟨cellT xA 0 _ rfl, cellT xA 1 _ rfl⟩ (fun hHeld => ?_)
     clear hK K0
     try simp only [Act.put, List.setIfInBounds_toArray, List.set_cons_zero, List.set_cons_succ]
     refine wpAnyH_ready (rs := [0]) (by kernel_rfl) (by simp) ?_
     refine AllReadyH.cons rfl (fun K0 hK => ?_) AllReadyH.nil
     go_simp
     refine hK.out _ _ ⟨cellT xA 0 _ rfl, cellT xA 1 _ rfl⟩ (fun hHeld => ?_)
     clear hK K0
     try simp only [Act.put, List.setIfInBounds_toArray, List.set_cons_zero, List.set_cons_succ]
     refine wpAnyH_ready (rs := [5]) (by kernel_rfl) (by simp) ?_
     refine AllReadyH.cons rfl (fun K0 hK => ?_) AllReadyH.nil
     refine step_append_txt rfl (.tmp 23) (.tmp 27) rfl w.heap.size (.slice o3 K3.length c3) K3 rfl (owW.alloc _).drew (some ⟨W3.heap.size, 0, none⟩) 1 [104] 1 rfl rfl (by intro e; cases e) (rd_built W3 104) (by simp; omega) (by simp; omega) ?_
     intro va wa hoa sa _
     have sA : TxS w.heap.size W3 wa := ((TxS.refl w.heap.size W3).alloc hsW_ _).drew.trans sa
     have bA2 := sA.box bW (by decide)
     have xA2 := sA.box hXW (by decide)
     have zA := sA.sz hsW_
     refine hK.out _ _ ⟨cellT xA2 0 _ rfl, cellT xA2 1 _ rfl⟩ (fun hHeld => ?_)
     clear hK K0
     try simp only [Act.put, List.setIfInBounds_toArray, List.set_cons_zero, List.set_cons_succ]
     refine wpAnyH_ready (rs := [8]) (by kernel_rfl) (by simp) ?_
     refine AllReadyH.cons rfl (fun K0 hK => ?_) AllReadyH.nil
     go_simp
     go_at_call 35
     have TA := (HTW.out.on txW.bel (Nat.le_refl _)).tx sA (Nat.le_refl _)
     refine (appendInt_any w.heap.size va _ n1 wa hoa zA TA (by omega) (by simp only [List.length_append, List.length_cons, List.length_nil]; omega)).mono ?_
     rintro e wb ⟨vb, rfl, hob, sb⟩
     obtain ⟨ob, cb, eb⟩ := shapeT hob
     subst eb
     obtain ⟨nb, hnb⟩ : ∃ n, (K3 ++ [104] ++ digL n1).length = n := ⟨_, rfl⟩
     rw [hnb] at hob ⊢
     clear hnb
     obtain ⟨txb, bb2, owb, bb3⟩ := txW.store bW (sA.trans sb) hob hP
     have xB := (sA.trans sb).box hXW (by decide)
     have xE := txb.box hX (by omega) (by decide)
     have cPb := cellT bb3 0 _ rfl
     have fPb : wb.frozen? ⟨w2.heap.size, 0, none⟩ = false := frozT bb3 0
     refine hK.out _ _ ⟨cellT xB 0 _ rfl, cellT xB 1 _ rfl⟩ (fun hHeld => ?_)
     clear hK K0
     try simp only [Act.put, List.setIfInBounds_toArray, List.set_cons_zero, List.set_cons_succ]
     refine wpAnyH_ready (rs := [9]) (by kernel_rfl) (by simp) ?_
     refine AllReadyH.cons rfl (fun K0 hK => ?_) AllReadyH.nil
     go_simp
     refine hK.out _ _ ⟨cellT xE 0 _ rfl, cellT xE 1 _ rfl⟩ (fun hHeld => ?_)
     clear hK K0
     try simp only [Act.put, List.setIfInBounds_toArray, List.set_cons_zero, List.set_cons_succ]
     refine wpAnyH_done (by kernel_rfl) ?_ _
     refine ⟨fun h => (by cases h), ?_⟩
     have HO : Hid (ownB (wb.setCell ⟨w2.heap.size, 0, none⟩ (.slice ob nb cb)) w.heap.size (.slice ob nb cb) (K ++ segT (((n1 : Int), 1), false))) := by unfold Hid; rw [← segT_eq, HK3.out, show hereT false = [] from rfl, List.append_nil, show letFn 1 = 104 from rfl]; exact owb
     have HT9 := hide txb
     have HB9 := hide bb2
     clear txb bb2 owb bb3 xB xE cPb fPb hob sb sA bA2 xA2 zA hoa sa TA bA xA k0 k1 k2 kA0 hHeld
     gi_wp2
     exact HFIN.out _ _ HT9.out HB9.out HO.out
 case done =>
  rintro D ys W hD rfl ⟨⟨⟨v, e1, e2, _⟩, e4, e5⟩, hB⟩ hK
  obtain ⟨oe, ce, hve⟩ := shapeT (l := T0 ++ stT g pl (upto (fun i => i) g.length)) e2
  subst hve
  have cP := cellT e1 0 _ rfl
  have HE := hide (And.intro e2 hB)
  have hc9 : T0 ++ stT g pl (upto (fun i => i) g.length) = carrTL a b f s len g pl := by unfold carrTL; rw [HT0.out]
  obtain ⟨CT, hCT⟩ : ∃ q, carrTL a b f s len g pl = q := ⟨_, rfl⟩
  rw [hc9, hCT] at cP HE
  have HCT := hide hCT
  have hDw : w.heap.size ≤ D := by omega
  clear e1 e2 e4 hB hc9 hCT
  gi_wp2
  refine ⟨by simp, .inl ⟨_, _, rfl, run_takeDeferred hK, ?_⟩⟩
  refine ⟨.slice oe CT.length ce, by simp [results, Tryd.f9, go_sem], _, rfl, ?_, ?_⟩
  ·rw [HCT.out]; exact ownsRow_putObj HE.out.1 (.deferred none) hK rfl
  ·exact HE.out.2.trans (belowK_b (w := w) (Nat.le_refl _) W D _ _ hDw hK rfl rfl)
 case stop =>
  rintro D c pre W hD ⟨k, hk, rfl⟩ ⟨hF, hB⟩ hK
  exact hF.elim

end Go.Proofs.YtoeoiljddcjphaaDoor

