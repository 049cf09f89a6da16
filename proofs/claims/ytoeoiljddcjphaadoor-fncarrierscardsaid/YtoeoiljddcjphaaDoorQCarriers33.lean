/- Several texts in one: SInt, SFlowT, SText. -/
import Derived.Shelf.Strconv.AppendIntPublic10
import Derived.Shelf.Lay
import Derived.Ground.NamesProg
import Derived.Lib.AppendStr
import Derived.Test.YtoeoiljddcjphaaDoorQCarriers05
import Derived.Test.YtoeoiljddcjphaaDoorQCarriers02
/- Numbers as text: what the library's AppendInt, the program's appendInt and the model's l1digits lay. -/
namespace Go.Proofs.YtoeoiljddcjphaaDoor
open Go.ChangeShapes Go.WideShapes Go.ChangeAt Go.RowKit Go.Joins Go.Shelf
set_option linter.unusedVariables false
set_option linter.unusedSimpArgs false

shelf_lay LaysM.n176 Nm 176 at Tryd as laysAI

/-- The library's table of powers of ten, by the name that the rows list. -/
def powN : String := (Rows.fnCarriersRow.named.headD "")
def PTab (C : Nat) (w : World) : Prop := Go.Lib.TabBelow Tryd.prog C w powN .u64 Go.Lib.pow10Tab
theorem PTab.on {C D : Nat} {w w' : World} (h : PTab C w) (hb : Below D w w') (hc : C ≤ D) : PTab C w' := Go.Lib.TabBelow.on h (hb.mono hc)
theorem PTab.le {C D : Nat} {w : World} (h : PTab C w) (hc : C ≤ D) : PTab D w := fun w' hb => h w' (hb.mono hc)

/-- What text leaves: below base nothing has turned, and wherever it lies no row but one of bytes has. -/
structure TxS (base : Nat) (w w' : World) : Prop where
 bel : Below base w w'
 oth : Go.Lib.OthersKept 5 none w w'
theorem TxS.refl (base : Nat) (w : World) : TxS base w w := ⟨Below.refl _ _, Go.Lib.OthersKept.refl _ _ _⟩
theorem TxS.trans {base : Nat} {a b c : World} (h : TxS base a b) (k : TxS base b c) : TxS base a c := ⟨h.bel.trans k.bel, h.oth.trans k.oth⟩
theorem TxS.below {base : Nat} {w w' : World} (hb : Below w.heap.size w w') (hs : base ≤ w.heap.size) : TxS base w w' := ⟨hb.mono hs, (Go.Lib.OthersKept.refl _ _ _).below hb⟩
theorem TxS.alloc {base : Nat} {w w' : World} (h : TxS base w w') (hs : base ≤ w'.heap.size) (o : Obj) : TxS base w (w'.alloc o) := ⟨h.bel.alloc hs o, h.oth.alloc o⟩
theorem TxS.grown {base n : Nat} {w w' : World} {v : Value} {xs : List Value} (hg : w.grownBy w' v.ownBlock) (ho : w.ownsRow base 5 1 v n xs) (hs : base ≤ w.heap.size) : TxS base w w' := by
 refine ⟨(Below.refl _ _).grown hg hs (fun k e => (ho.lt k e).1), fun k o hk _ hne => ?_⟩
 have hlt : k < w.heap.size := (Array.getElem?_eq_some_iff.1 hk).1
 rw [hg.block k hlt ?_]
 ·exact hk
 ·intro e
  rcases ho.2 with ⟨rfl, _⟩ | ⟨g, cap, cur, rfl, _, hg2, _⟩
  ·simp [Value.ownBlock] at e
  ·simp [Value.ownBlock] at e
   subst e
   rw [hk] at hg2
   cases hg2
   exact hne _ _ rfl
theorem TxS.box {base k : Nat} {w w' : World} {cs : Array Value} {T : TypeId} {fr : Nat × Nat} (h : TxS base w w') (hb : w.heap[k]? = some (.cells cs T fr)) (hT : T ≠ 5) : w'.heap[k]? = some (.cells cs T fr) :=
 h.oth k _ hb (by simp) (fun c fz e => by cases e; exact hT rfl)
theorem TxS.sz {base : Nat} {w w' : World} (h : TxS base w w') (hs : base ≤ w.heap.size) : base ≤ w'.heap.size := Nat.le_trans hs h.bel.size
theorem cellT {W : World} {B : Nat} {c : Array Value} {t : TypeId} {fr : Nat × Nat} (h : W.heap[B]? = some (.cells c t fr)) (j : Nat) (u : Value) (hj : c[j]? = some u) : W.cell? ⟨B, j, none⟩ = some u := by
 simp [World.cell?, h, hj]
theorem PTab.tx {C base : Nat} {w w' : World} (h : PTab C w) (hb : TxS base w w') (hc : C ≤ base) : PTab C w' := Go.Lib.TabBelow.on h (hb.bel.mono hc)

theorem libAppendInt (B n : Nat) (i : Int) (h0 : -9223372036854775808 ≤ i) (h1 : i ≤ 9223372036854775807) (sv : Value) (xs : List Value) (w : World) (hown : w.ownsRow B 5 1 sv n xs) (hBw : B ≤ w.heap.size) (hlim : n + 21 ≤ 140737488355328) (htab : PTab B w) :
  Calls Tryd.prog 66 #[sv, .int .i64 i, .int .i64 10] w fun e w' => ∃ v', e = .returned v' ∧ w'.ownsRow B 5 1 v' (n + (Go.Lib.itoa i).length) (xs ++ Go.Lib.byteCells (Go.Lib.itoa i)) ∧ TxS B w w' :=
 (Any.strconv_AppendInt_10 laysAI B n i h0 h1 sv xs w hown hBw hlim htab).mono fun e w' ⟨v', he, ho, hb, hk⟩ => ⟨v', he, ho, hb, hk⟩

/-- A number's digits, the first ahead. -/
def digL (n : Nat) : List Int := (Go.Lib.decDigits n).map (fun b => (b.toNat : Int))
theorem digL_small {n : Nat} (h : n < 10) : digL n = [48 + (n : Int)] := by
 unfold digL
 rw [Go.Lib.decDigits, dif_pos h]
 simp
 omega
theorem digL_big {n : Nat} (h : ¬ n < 10) : digL n = digL (n / 10) ++ [48 + ((n % 10 : Nat) : Int)] := by
 unfold digL
 rw [Go.Lib.decDigits, dif_neg h]
 simp
 omega
theorem digL_len (n : Nat) : (digL n).length ≤ n + 1 := by
 induction n using Nat.strongRecOn with
 | _ n ih =>
  by_cases h : n < 10
  ·rw [digL_small h]; simp
  ·rw [digL_big h]
   have := ih (n / 10) (by omega)
   simp
   omega
theorem itoa_digL (n : Nat) : Go.Lib.byteCells (Go.Lib.itoa (n : Int)) = (digL n).map (Value.int .u8) := by
 unfold Go.Lib.itoa Go.Lib.byteCells digL
 rw [if_neg (by omega)]
 simp
theorem itoa_len (n : Nat) : (Go.Lib.itoa (n : Int)).length = (digL n).length := by
 unfold Go.Lib.itoa digL
 rw [if_neg (by omega)]
 simp

set_option maxHeartbeats 1000000 in
theorem appendInt_any (base : Nat) (v : Value) (l : List Int) (n : Nat) (w : World) (hv : ownB w base v l) (hbase : base ≤ w.heap.size) (hT : PTab base w) (hn : n ≤ 1000000000) (hlen : l.length ≤ 1000000000000) :
  Calls Tryd.prog 35 #[v, .int .i64 n] w fun e w' => ∃ v', e = .returned v' ∧ ownB w' base v' (l ++ digL n) ∧ TxS base w w' := by
 have HA := hide (libAppendInt base l.length (n : Int) (by omega) (by omega) v _ w hv hbase (by omega) hT)
 go_enter Tryd.func35, Tryd.ntmps35
 go_wp2_with fail
 refine HA.out.mono ?_
 rintro e w1 ⟨v1, rfl, ho, hb⟩
 have HO : Hid (ownB w1 base v1 (l ++ digL n)) := by
  unfold Hid ownB
  rw [itoa_digL, itoa_len] at ho
  simpa using ho
 clear ho
 go_wp2
 go_ret
 exact ⟨_, rfl, HO.out, hb⟩

theorem own_built (w : World) (base : Nat) (x : Int) (hb : base ≤ w.heap.size) : ownB (w.alloc (.cells #[.int .u8 x] 5)) base (.slice (some ⟨w.heap.size, 0, none⟩) 1 1) [x] :=
 ⟨rfl, .inr ⟨w.heap.size, 1, #[.int .u8 x], rfl, hb, heap_alloc_new w _, Nat.le_refl _, by unfold maxLen; omega, rfl, rfl⟩⟩
theorem rd_built (w : World) (x : Int) : Rd (w.alloc (.cells #[.int .u8 x] 5)) (some ⟨w.heap.size, 0, none⟩) [x] := (own_built w w.heap.size x (Nat.le_refl _)).rd

/-- A string behind a row of the call's own. -/
theorem wpList_append_str {w : World} {ops : Array Oper} {rest : List Oper} {o : Oper} {a : Act} {Q : Exit → Act → World → Prop} (hgd : o.guard = none) (s x : Operand)
  (ho : o.op = .call { callee := .builtin .append, args := #[s, x], argTypes := #[22, 9] }) (base : Nat) (v : Value) (l0 : List Int) (hs : a.eval s = v) (hown : ownB w base v l0)
  (b : ByteArray) (l : List Int) (hx : a.eval x = .string b) (hl : b.data.toList.map (fun b => (b.toNat : Int)) = l) (hlen : l0.length + l.length ≤ 1099511627776) (hbase : base ≤ w.heap.size)
  (h : ∀ v' w', ownB w' base v' (l0 ++ l) → TxS base w w' → wpList Tryd.prog ops Q rest (a.put o.dst v') w') : wpList Tryd.prog ops Q (o :: rest) a w := by
 obtain ⟨i0, hi, hz0, hz1, hz2⟩ := info_parts infoU8
 have hsz : b.size = l.length := by rw [← hl]; show b.data.size = _; simp
 refine Go.Lib.wpList_append_own_string _ hgd s x 22 9 ho base 5 i0 Tryd.underlying22 Tryd.underlying9 hi hz0 hz1 hz2 v _ _ hs hown b hx (by unfold maxLen; omega) (by omega) hbase ?_
 intro v' w' h1 h2 _
 refine h v' w' ?_ (TxS.grown h2 hown hbase)
 unfold ownB
 have e : Go.Lib.strCells b = l.map (Value.int .u8) := by rw [← hl]; simp [Go.Lib.strCells]
 rw [e, hsz] at h1
 simpa using h1

theorem own_nilB {w : World} {base n c : Nat} {o : Option Addr} {l : List Int} (h : ownB w base (.slice o n c) l) : o = none → c = 0 := by
 intro e
 rcases h.2 with ⟨h1, _⟩ | ⟨g, cap, cur, h1, _⟩
 ·simp at h1; exact h1.2.2
 ·simp [e] at h1
/-- A row behind a row of the call's own. -/
theorem wpList_append_txt {w : World} {ops : Array Oper} {rest : List Oper} {o : Oper} {a : Act} {Q : Exit → Act → World → Prop} (hgd : o.guard = none) (s x : Operand)
  (ho : o.op = .call { callee := .builtin .append, args := #[s, x], argTypes := #[22, 22] }) (base : Nat) (v : Value) (l0 : List Int) (hs : a.eval s = v) (hown : ownB w base v l0)
  (ob : Option Addr) (c : Nat) (l : List Int) (m : Nat) (hm : m = l.length) (hx : a.eval x = .slice ob m c) (hnil : ob = none → c = 0) (hR : Rd w ob l) (hlen : l0.length + l.length ≤ 1099511627776) (hbase : base ≤ w.heap.size)
  (h : ∀ v' w', ownB w' base v' (l0 ++ l) → TxS base w w' → wpList Tryd.prog ops Q rest (a.put o.dst v') w') : wpList Tryd.prog ops Q (o :: rest) a w :=
 wpList_append_bytes_m hgd s x ho base v l0 hs hown ob c l m hm hx hnil hR hlen hbase (fun v' w' h1 h2 _ => h v' w' h1 (TxS.grown h2 hown hbase))
/-- One byte, laid anew, behind a row of the call's own. -/
theorem wpList_append_one {w : World} {ops : Array Oper} {rest : List Oper} {o : Oper} {a : Act} {Q : Exit → Act → World → Prop} (y : Int) (hgd : o.guard = none) (s x : Operand)
  (ho : o.op = .call { callee := .builtin .append, args := #[s, x], argTypes := #[22, 22] }) (base : Nat) (v : Value) (l0 : List Int) (hs : a.eval s = v) (hown : ownB w base v l0)
  (hx : a.eval x = .slice (some ⟨w.heap.size, 0, none⟩) 1 1) (hlen : l0.length ≤ 1099511627775) (hbase : base ≤ w.heap.size)
  (h : ∀ v' w', ownB w' base v' (l0 ++ [y]) → TxS base w w' → wpList Tryd.prog ops Q rest (a.put o.dst v') w') : wpList Tryd.prog ops Q (o :: rest) a (w.alloc (.cells #[.int .u8 y] 5)) :=
 wpList_append_txt hgd s x ho base v l0 hs (hown.alloc _) _ 1 [y] 1 rfl hx (by intro e; cases e) (rd_built w y) (by simp; omega) (by simp; omega)
  (fun v' w' h1 h2 => h v' w' h1 (((TxS.refl base w).alloc hbase _).trans h2))

theorem TxS.drew {base : Nat} {w w' : World} (h : TxS base w w') : TxS base w w'.drew := ⟨h.bel.drew, h.oth.drew⟩
/-- A row behind a row of the call's own, as one step of a region that draws its order. -/
theorem step_append_txt {ops : Array Oper} {o : Oper} {a : Act} {w : World} {K : Act → World → Prop} {Q : Exit → Act → World → Prop} {E : Prop} (hgd : o.guard = none) (s x : Operand)
  (ho : o.op = .call { callee := .builtin .append, args := #[s, x], argTypes := #[22, 22] }) (base : Nat) (v : Value) (l0 : List Int) (hs : a.eval s = v) (hown : ownB w base v l0)
  (ob : Option Addr) (c : Nat) (l : List Int) (m : Nat) (hm : m = l.length) (hx : a.eval x = .slice ob m c) (hnil : ob = none → c = 0) (hR : Rd w ob l) (hlen : l0.length + l.length ≤ 1099511627776) (hbase : base ≤ w.heap.size)
  (h : ∀ v' w', ownB w' base v' (l0 ++ l) → TxS base w w' → w.grownBy w' v.ownBlock → K (a.put o.dst v') w') : if Region.wanted o (yielded ops a.tmps) = true then Oper.wp Tryd.prog o a w K Q else E := by
 subst hm
 have hw : Region.wanted o (yielded ops a.tmps) = true := by simp [Region.wanted, hgd]
 rw [if_pos hw]
 obtain ⟨i0, hi, hz0, hz1, hz2⟩ := info_parts infoU8
 cases ob with
 | none =>
  have e := hR.nil
  subst e
  have hc := hnil rfl
  subst hc
  have hrun := run_append_owned_none (P := Tryd.prog) (w := w) base 22 o.type 5 i0 1 Tryd.underlying22 hi v _ _ hown
  unfold Oper.wp
  simp [execOp, ho, resolve, invoke, builtin, hs, hx, hrun, Result.andThen]
  exact h v w (by simpa using hown) (TxS.refl _ _) (World.grownBy.refl _ _)
 | some ad =>
  refine wp_append_own _ s x 22 ho base 5 i0 (.int .u8 0) 1 1 Tryd.underlying22 hi hz0 hz1 hz2 rfl (by decide) v _ _ hs hown ad l.length c (l.map (Value.int .u8)) hx (by simp) hR.news (ints_oneCell .u8 l) (by unfold maxLen; omega) (by omega) hbase ?_
  intro v' w' h1 h2 _
  exact h v' w' (by unfold ownB; simpa using h1) (TxS.grown h2 hown hbase) h2
end Go.Proofs.YtoeoiljddcjphaaDoor

/- Flows as text: the model's l1flow, the program's appendFlow. -/
namespace Go.Proofs.YtoeoiljddcjphaaDoor
open Go.ChangeShapes Go.WideShapes Go.ChangeAt Go.RowKit Go.Joins
set_option linter.unusedVariables false
set_option linter.unusedSimpArgs false

/-- A flow's text: Addr, a colon, Port. -/
def flowTL (a p : Nat) : List Int := digL a ++ ([58] ++ digL p)
theorem flowTL_len (a p : Nat) : (flowTL a p).length ≤ a + p + 3 := by have := digL_len a; have := digL_len p; simp [flowTL]; omega
theorem flowTL_eq (l : List Int) (a p : Nat) : ((l ++ digL a) ++ [58]) ++ digL p = l ++ flowTL a p := by simp [flowTL]

set_option maxRecDepth 100000 in
set_option maxHeartbeats 2000000 in
theorem appendFlow_any (base : Nat) (v : Value) (l : List Int) (a p : Nat) (w : World) (hv : ownB w base v l) (hbase : base ≤ w.heap.size) (hT : PTab base w) (ha : a ≤ 1000000) (hp : p ≤ 1000000) (hlen : l.length ≤ 1000000000) :
  Calls Tryd.prog 64 #[v, .agg #[.int .i64 a, .int .i64 p]] w fun e w' => ∃ v', e = .returned v' ∧ ownB w' base v' (l ++ flowTL a p) ∧ TxS base w w' := by
 have hla := digL_len a
 have hlp := digL_len p
 obtain ⟨W0, hW0⟩ : ∃ W, (w.alloc (.cells #[.int .i64 a, .int .i64 p] 24)) = W := ⟨_, rfl⟩
 have bx : W0.heap[w.heap.size]? = some (.cells #[.int .i64 a, .int .i64 p] 24 (0, 0)) := by rw [← hW0]; exact heap_alloc_new w _
 have hB0 : Below w.heap.size w W0 := by rw [← hW0]; exact (Below.refl _ _).alloc (Nat.le_refl _) _
 have ho0 : ownB W0 base v l := own_kept hv hB0
 have t0 : TxS base w W0 := TxS.below hB0 hbase
 have hs0 := t0.sz hbase
 replace hT := hT.tx t0 (Nat.le_refl _)
 clear hB0 hv
 have bxc0 : W0.cell? ⟨w.heap.size, 0, none⟩ = some (.int .i64 a) := cellT bx 0 _ rfl
 go_enter Tryd.func64, Tryd.ntmps64
 go_wp2_with fail
 refine (appendInt_any base v l a W0 ho0 hs0 hT (by omega) (by omega)).mono ?_
 rintro e y1 ⟨x1, rfl, ho1, st1⟩
 obtain ⟨K1, hK1⟩ : ∃ q, l ++ digL a = q := ⟨_, rfl⟩
 rw [hK1] at ho1
 have bK1 : K1.length ≤ 1001000001 := by rw [← hK1, List.length_append]; omega
 have EK1 := hide hK1
 clear hK1
 clear bxc0
 replace bx := st1.box bx (by decide)
 replace hT := hT.tx st1 (Nat.le_refl _)
 replace t0 := t0.trans st1
 replace hs0 := st1.sz hs0
 clear ho0 st1
 go_wp2_with (at_builtin; refine wpList_append_one 58 rfl _ _ rfl base x1 K1 rfl ho1 rfl ?c2 hs0 ?_)
 case c2 => omega
 intro x2 y2 ho2 st2
 obtain ⟨K2, hK2⟩ : ∃ q, K1 ++ [58] = q := ⟨_, rfl⟩
 rw [hK2] at ho2
 have bK2 : K2.length ≤ 1001000002 := by rw [← hK2, List.length_append]; simp only [List.length_cons, List.length_nil]; omega
 have EK2 := hide hK2
 clear hK2
 replace bx := st2.box bx (by decide)
 replace hT := hT.tx st2 (Nat.le_refl _)
 replace t0 := t0.trans st2
 replace hs0 := st2.sz hs0
 clear ho1 st2
 have bxc1 : y2.cell? ⟨w.heap.size, 1, none⟩ = some (.int .i64 p) := cellT bx 1 _ rfl
 go_wp2_with fail
 refine (appendInt_any base x2 _ p y2 ho2 hs0 hT (by omega) (by omega)).mono ?_
 rintro e y3 ⟨x3, rfl, ho3, st3⟩
 obtain ⟨K3, hK3⟩ : ∃ q, K2 ++ digL p = q := ⟨_, rfl⟩
 rw [hK3] at ho3
 have bK3 : K3.length ≤ 1002000003 := by rw [← hK3, List.length_append]; omega
 have EK3 := hide hK3
 clear hK3
 clear bxc1
 replace bx := st3.box bx (by decide)
 replace hT := hT.tx st3 (Nat.le_refl _)
 replace t0 := t0.trans st3
 replace hs0 := st3.sz hs0
 clear ho2 st3
 have HO : Hid (ownB y3 base x3 (l ++ flowTL a p)) := by unfold Hid; rw [← flowTL_eq, EK1.out, EK2.out, EK3.out]; exact ho3
 have HT := hide t0
 clear ho3 t0
 go_wp2
 go_ret
 exact ⟨_, rfl, HO.out, HT.out⟩

end Go.Proofs.YtoeoiljddcjphaaDoor

/- Packets as text, the model's and the program's. -/
namespace Go.Proofs.YtoeoiljddcjphaaDoor
open Go.ChangeShapes Go.WideShapes Go.ChangeAt Go.RowKit Go.Joins
set_option linter.unusedVariables false
set_option linter.unusedSimpArgs false

/-- The letter of the flag i. -/
def letC (i : Nat) : Int := ([115, 97, 102, 114] : List Int).getD i 0
def letB (f : Int) (i : Nat) : Bool := f / 2 ^ i % 2 == 1
def letTo (f : Int) : Nat → List Int
 | 0 => []
 | i + 1 => letTo f i ++ (if letB f i = true then [letC i] else [])
theorem letTo_len (f : Int) : ∀ i, (letTo f i).length ≤ i
 | 0 => Nat.le_refl _
 | i + 1 => by
  have := letTo_len f i
  rw [letTo, List.length_append]
  split <;> simp <;> omega
theorem letTo_yes {f : Int} {i : Nat} (h : letB f i = true) : letTo f (i + 1) = letTo f i ++ [letC i] := by rw [letTo, if_pos h]
theorem letTo_no {f : Int} {i : Nat} (h : letB f i = false) : letTo f (i + 1) = letTo f i := by rw [letTo, h]; simp
theorem bit_and (f : Int) (h0 : 0 ≤ f) (h1 : f < 16) (i : Nat) (hi : i < 4) : bits .and .i64 f (2 ^ i) = (if letB f i = true then 2 ^ i else 0) := by
 rcases (show f = 0 ∨ f = 1 ∨ f = 2 ∨ f = 3 ∨ f = 4 ∨ f = 5 ∨ f = 6 ∨ f = 7 ∨ f = 8 ∨ f = 9 ∨ f = 10 ∨ f = 11 ∨ f = 12 ∨ f = 13 ∨ f = 14 ∨ f = 15 by omega) with h | h | h | h | h | h | h | h | h | h | h | h | h | h | h | h <;> subst h <;>
 rcases (show i = 0 ∨ i = 1 ∨ i = 2 ∨ i = 3 by omega) with h | h | h | h <;> subst h <;> decide +kernel

set_option maxRecDepth 100000 in
set_option maxHeartbeats 2000000 in
theorem letters_any (f : Int) (w : World) (h0 : 0 ≤ f) (h1 : f < 16) :
  Calls Tryd.prog 65 #[.int .i64 f] w fun e w' => ∃ v, e = .returned v ∧ ownB w' w.heap.size v (letTo f 4) ∧ Below w.heap.size w w' := by
 have HBA := hide (bit_and f h0 h1)
 go_enter Tryd.func65, Tryd.ntmps65
 go_wp2
 go_loopw [3, 5] (fun lv iv wr => ∃ i : Nat, i ≤ 4 ∧ iv = .int .i64 i ∧ ownB wr w.heap.size lv (letTo f i) ∧ Below w.heap.size w wr)
  (fun _ iv _ => 4 - (intOf iv).toNat)
 case atStart => exact ⟨0, by omega, rfl, World.ownsRow_nil _ _ _ _, Below.refl _ _⟩
 case round =>
  obtain ⟨i, hi, rfl, ho, hb⟩ := hrel
  by_cases hlt : i < 4
  ·have hs := hb.size
   have HL := hide (letTo_len f i)
   have HY := hide (fun h => letTo_yes (f := f) (i := i) h)
   have HN := hide (fun h => letTo_no (f := f) (i := i) h)
   have HBI := hide (HBA.out i hlt)
   clear HBA
   obtain ⟨K, hK⟩ : ∃ q, letTo f i = q := ⟨_, rfl⟩
   rw [hK] at ho HL HY HN
   have HO := hide ho
   have HBB := hide hb
   clear hK ho hb hi
   rcases (show i = 0 ∨ i = 1 ∨ i = 2 ∨ i = 3 by omega) with h | h | h | h
   all_goals subst h
   ·by_cases hbit : letB f 0 = true
    ·have hand : bits .and .i64 f 1 = 1 := by have := HBI.out; rw [if_pos hbit] at this; exact this
     have HF := hide (HY.out hbit)
     clear HBI hbit
     go_wp2_with (first | (at_builtin; refine wpList_append_one 115 rfl _ _ rfl w.heap.size _ K rfl HO.out rfl ?c1 ?c2 ?_) | go_in)
     case c1 => have := HL.out; omega
     case c2 => exact hs
     intro v2 w2 ho2 s2
     have HO2 : Hid (ownB w2 w.heap.size v2 (letTo f 1)) := by unfold Hid; rw [HF.out]; exact ho2
     have HB2 := hide (HBB.out.trans s2.bel)
     clear ho2 s2
     go_wp2
     go_roundw
     case rel => exact ⟨1, by omega, by go_num, HO2.out, HB2.out⟩
     case measure => simp [intOf]
    ·have hbf : letB f 0 = false := by simpa using hbit
     have hand : bits .and .i64 f 1 = 0 := by have := HBI.out; rw [hbf] at this; exact this
     have HF := hide (HN.out hbf)
     clear HBI hbit hbf
     go_wp2
     go_roundw
     case rel => exact ⟨1, by omega, by go_num, by rw [HF.out]; exact HO.out, HBB.out⟩
     case measure => simp [intOf]
   ·by_cases hbit : letB f 1 = true
    ·have hand : bits .and .i64 f 2 = 2 := by have := HBI.out; rw [if_pos hbit] at this; exact this
     have HF := hide (HY.out hbit)
     clear HBI hbit
     go_wp2_with (first | (at_builtin; refine wpList_append_one 97 rfl _ _ rfl w.heap.size _ K rfl HO.out rfl ?c1 ?c2 ?_) | go_in)
     case c1 => have := HL.out; omega
     case c2 => exact hs
     intro v2 w2 ho2 s2
     have HO2 : Hid (ownB w2 w.heap.size v2 (letTo f 2)) := by unfold Hid; rw [HF.out]; exact ho2
     have HB2 := hide (HBB.out.trans s2.bel)
     clear ho2 s2
     go_wp2
     go_roundw
     case rel => exact ⟨2, by omega, by go_num, HO2.out, HB2.out⟩
     case measure => simp [intOf]
    ·have hbf : letB f 1 = false := by simpa using hbit
     have hand : bits .and .i64 f 2 = 0 := by have := HBI.out; rw [hbf] at this; exact this
     have HF := hide (HN.out hbf)
     clear HBI hbit hbf
     go_wp2
     go_roundw
     case rel => exact ⟨2, by omega, by go_num, by rw [HF.out]; exact HO.out, HBB.out⟩
     case measure => simp [intOf]
   ·by_cases hbit : letB f 2 = true
    ·have hand : bits .and .i64 f 4 = 4 := by have := HBI.out; rw [if_pos hbit] at this; exact this
     have HF := hide (HY.out hbit)
     clear HBI hbit
     go_wp2_with (first | (at_builtin; refine wpList_append_one 102 rfl _ _ rfl w.heap.size _ K rfl HO.out rfl ?c1 ?c2 ?_) | go_in)
     case c1 => have := HL.out; omega
     case c2 => exact hs
     intro v2 w2 ho2 s2
     have HO2 : Hid (ownB w2 w.heap.size v2 (letTo f 3)) := by unfold Hid; rw [HF.out]; exact ho2
     have HB2 := hide (HBB.out.trans s2.bel)
     clear ho2 s2
     go_wp2
     go_roundw
     case rel => exact ⟨3, by omega, by go_num, HO2.out, HB2.out⟩
     case measure => simp [intOf]
    ·have hbf : letB f 2 = false := by simpa using hbit
     have hand : bits .and .i64 f 4 = 0 := by have := HBI.out; rw [hbf] at this; exact this
     have HF := hide (HN.out hbf)
     clear HBI hbit hbf
     go_wp2
     go_roundw
     case rel => exact ⟨3, by omega, by go_num, by rw [HF.out]; exact HO.out, HBB.out⟩
     case measure => simp [intOf]
   ·by_cases hbit : letB f 3 = true
    ·have hand : bits .and .i64 f 8 = 8 := by have := HBI.out; rw [if_pos hbit] at this; exact this
     have HF := hide (HY.out hbit)
     clear HBI hbit
     go_wp2_with (first | (at_builtin; refine wpList_append_one 114 rfl _ _ rfl w.heap.size _ K rfl HO.out rfl ?c1 ?c2 ?_) | go_in)
     case c1 => have := HL.out; omega
     case c2 => exact hs
     intro v2 w2 ho2 s2
     have HO2 : Hid (ownB w2 w.heap.size v2 (letTo f 4)) := by unfold Hid; rw [HF.out]; exact ho2
     have HB2 := hide (HBB.out.trans s2.bel)
     clear ho2 s2
     go_wp2
     go_roundw
     case rel => exact ⟨4, by omega, by go_num, HO2.out, HB2.out⟩
     case measure => simp [intOf]
    ·have hbf : letB f 3 = false := by simpa using hbit
     have hand : bits .and .i64 f 8 = 0 := by have := HBI.out; rw [hbf] at this; exact this
     have HF := hide (HN.out hbf)
     clear HBI hbit hbf
     go_wp2
     go_roundw
     case rel => exact ⟨4, by omega, by go_num, by rw [HF.out]; exact HO.out, HBB.out⟩
     case measure => simp [intOf]
  ·have e : i = 4 := by omega
   subst e
   have HO := hide ho
   clear ho
   go_wp2
   go_ret
   exact ⟨_, rfl, HO.out, hb⟩

/-- A packet's text. -/
def pktTL (a b : Nat) (f : Int) (s n : Nat) : List Int := (((((flowTL a b ++ [32]) ++ letTo f 4) ++ [32, 35]) ++ digL s) ++ [32, 43]) ++ digL n
def pktT (a b f s : Int) (n : Nat) : List Int := if packetOkB a b f s n = true then pktTL a.toNat b.toNat f s.toNat n else []
theorem pktTL_len (a b : Nat) (f : Int) (s n : Nat) : (pktTL a b f s n).length ≤ a + b + s + n + 20 := by
 have := flowTL_len a b; have := letTo_len f 4; have := digL_len s; have := digL_len n
 simp only [pktTL, List.length_append, List.length_cons, List.length_nil]; omega
theorem pktT_yes {a b f s : Int} {n : Nat} (h : packetOkB a b f s n = true) : ∃ (a' b' s' : Nat), a = a' ∧ b = b' ∧ s = s' ∧ 0 ≤ f ∧ f < 16 ∧ a' ≤ 65535 ∧ b' ≤ 65535 ∧ s' ≤ 65535 ∧ n ≤ 16 ∧ pktT a b f s n = pktTL a' b' f s' n := by
 have hh := packetOkB_iff.1 h
 have hf := flowOkB_iff.1 hh.1
 obtain ⟨_, f0, f1, s0, s1, hn, _⟩ := hh
 refine ⟨a.toNat, b.toNat, s.toNat, by omega, by omega, by omega, f0, f1, by omega, by omega, by omega, by omega, ?_⟩
 unfold pktT
 rw [if_pos h]
theorem pktT_no {a b f s : Int} {n : Nat} (h : packetOkB a b f s n = false) : pktT a b f s n = [] := by unfold pktT; rw [h]; rfl
set_option maxRecDepth 100000 in
set_option maxHeartbeats 4000000 in
theorem implPacketText_any (base : Nat) (a b f s : Int) (o : Option Addr) (len cap : Nat) (w : World) (hl : len ≤ maxLen) (hbase : base ≤ w.heap.size) (hT : PTab base w) :
  Calls Tryd.prog 34 #[pkt a b f s (.slice o len cap)] w fun e w' => ∃ v, e = .returned v ∧ ownB w' base v (pktT a b f s len) ∧ TxS base w w' := by
 obtain ⟨W0, hW0⟩ : ∃ W, (w.alloc (.cells #[.int .i64 a, .int .i64 b, .int .i64 f, .int .i64 s, .slice o len cap] 26)) = W := ⟨_, rfl⟩
 have bx : W0.heap[w.heap.size]? = some (.cells #[.int .i64 a, .int .i64 b, .int .i64 f, .int .i64 s, .slice o len cap] 26 (0, 0)) := by rw [← hW0]; exact heap_alloc_new w _
 have hB0 : Below w.heap.size w W0 := by rw [← hW0]; exact (Below.refl _ _).alloc (Nat.le_refl _) _
 have t0 : TxS base w W0 := TxS.below hB0 hbase
 have hs0 := t0.sz hbase
 clear hB0
 have HOK := hide (implPacketOk_any a b f s o len cap W0 hl)
 obtain ⟨B, hB⟩ : ∃ B, packetOkB a b f s len = B := ⟨_, rfl⟩
 rw [hB] at HOK
 cases B with
 | false =>
  have bxc0 : W0.cell? ⟨w.heap.size, 0, none⟩ = some (.int .i64 a) := cellT bx 0 _ rfl
  have bxc1 : W0.cell? ⟨w.heap.size, 1, none⟩ = some (.int .i64 b) := cellT bx 1 _ rfl
  have bxc2 : W0.cell? ⟨w.heap.size, 2, none⟩ = some (.int .i64 f) := cellT bx 2 _ rfl
  have bxc3 : W0.cell? ⟨w.heap.size, 3, none⟩ = some (.int .i64 s) := cellT bx 3 _ rfl
  have bxc4 : W0.cell? ⟨w.heap.size, 4, none⟩ = some (.slice o len cap) := cellT bx 4 _ rfl
  have HN := hide (pktT_no hB)
  clear hB
  go_enter Tryd.func34, Tryd.ntmps34
  go_wp2_with fail
  refine HOK.out.mono ?_
  rintro e y ⟨rfl, hb⟩
  have st := TxS.below hb hs0
  have HT := hide (t0.trans st)
  clear st hb bx bxc0 bxc1 bxc2 bxc3 bxc4
  go_wp2
  go_ret
  exact ⟨_, rfl, by rw [HN.out]; exact World.ownsRow_nil _ _ _ _, HT.out⟩
 | true =>
  obtain ⟨a', b', s', rfl, rfl, rfl, f0, f1, ha, hb', hs', hn, hE⟩ := pktT_yes hB
  have HE := hide hE
  have hla := flowTL_len a' b'
  have hll := letTo_len f 4
  have hls := digL_len s'
  have hln := digL_len len
  clear hE hB
  replace hT := hT.tx t0 (Nat.le_refl _)
  have bxc0 : W0.cell? ⟨w.heap.size, 0, none⟩ = some (.int .i64 a') := cellT bx 0 _ rfl
  have bxc1 : W0.cell? ⟨w.heap.size, 1, none⟩ = some (.int .i64 b') := cellT bx 1 _ rfl
  have bxc2 : W0.cell? ⟨w.heap.size, 2, none⟩ = some (.int .i64 f) := cellT bx 2 _ rfl
  have bxc3 : W0.cell? ⟨w.heap.size, 3, none⟩ = some (.int .i64 s') := cellT bx 3 _ rfl
  have bxc4 : W0.cell? ⟨w.heap.size, 4, none⟩ = some (.slice o len cap) := cellT bx 4 _ rfl
  go_enter Tryd.func34, Tryd.ntmps34
  go_wp2_with fail
  refine HOK.out.mono ?_
  rintro e y0 ⟨rfl, hb0⟩
  have st0 := TxS.below hb0 hs0
  clear bxc0 bxc1 bxc2 bxc3 bxc4
  replace bx := st0.box bx (by decide)
  replace hT := hT.tx st0 (Nat.le_refl _)
  replace t0 := t0.trans st0
  replace hs0 := st0.sz hs0
  clear st0 hb0 HOK
  have bxc0 : y0.cell? ⟨w.heap.size, 0, none⟩ = some (.int .i64 a') := cellT bx 0 _ rfl
  have bxc1 : y0.cell? ⟨w.heap.size, 1, none⟩ = some (.int .i64 b') := cellT bx 1 _ rfl
  have hnil : ownB y0 base (.slice none 0 0) ([] : List Int) := World.ownsRow_nil _ _ _ _
  go_wp2_with fail
  refine (appendFlow_any base (.slice none 0 0) [] a' b' y0 hnil hs0 hT (by omega) (by omega) (by simp)).mono ?_
  rintro e y1 ⟨x1, rfl, ho1, st1⟩
  obtain ⟨K1, hK1⟩ : ∃ q, ([] : List Int) ++ flowTL a' b' = q := ⟨_, rfl⟩
  rw [hK1] at ho1
  have bK1 : K1.length ≤ 131075 := by rw [← hK1, List.length_append]; simp only [List.length_nil]; omega
  have EK1 := hide hK1
  clear hK1
  clear bxc0 bxc1
  replace bx := st1.box bx (by decide)
  replace hT := hT.tx st1 (Nat.le_refl _)
  replace t0 := t0.trans st1
  replace hs0 := st1.sz hs0
  clear hnil st1
  go_wp2_with (at_builtin; refine wpList_append_one 32 rfl _ _ rfl base x1 K1 rfl ho1 rfl ?c2 hs0 ?_)
  case c2 => omega
  intro x2 y2 ho2 st2
  obtain ⟨K2, hK2⟩ : ∃ q, K1 ++ [32] = q := ⟨_, rfl⟩
  rw [hK2] at ho2
  have bK2 : K2.length ≤ 131076 := by rw [← hK2, List.length_append]; simp only [List.length_cons, List.length_nil]; omega
  have EK2 := hide hK2
  clear hK2
  replace bx := st2.box bx (by decide)
  replace hT := hT.tx st2 (Nat.le_refl _)
  replace t0 := t0.trans st2
  replace hs0 := st2.sz hs0
  clear ho1 st2
  have bxc2 : y2.cell? ⟨w.heap.size, 2, none⟩ = some (.int .i64 f) := cellT bx 2 _ rfl
  go_wp2_with fail
  refine (letters_any f y2 f0 f1).mono ?_
  rintro e y3 ⟨q3, rfl, hq3, hb3⟩
  obtain ⟨o3, c3, rfl, R3⟩ := hq3.open
  have nl3 := own_nilB hq3
  have st3 := TxS.below hb3 hs0
  have hp3 := own_kept ho2 hb3
  clear ho2 hq3 hb3
  clear bxc2
  replace bx := st3.box bx (by decide)
  replace hT := hT.tx st3 (Nat.le_refl _)
  replace t0 := t0.trans st3
  replace hs0 := st3.sz hs0
  clear st3
  go_wp2_with (at_builtin; refine wpList_append_txt rfl _ _ rfl base x2 K2 rfl hp3 o3 c3 (letTo f 4) _ rfl rfl nl3 R3 ?c4 hs0 ?_)
  case c4 => omega
  intro x4 y4 ho4 st4
  obtain ⟨K4, hK4⟩ : ∃ q, K2 ++ letTo f 4 = q := ⟨_, rfl⟩
  rw [hK4] at ho4
  have bK4 : K4.length ≤ 131080 := by rw [← hK4, List.length_append]; omega
  have EK4 := hide hK4
  clear hK4
  replace bx := st4.box bx (by decide)
  replace hT := hT.tx st4 (Nat.le_refl _)
  replace t0 := t0.trans st4
  replace hs0 := st4.sz hs0
  clear hp3 R3 nl3 st4
  go_wp2_with (at_builtin; refine wpList_append_str rfl _ _ rfl base x4 K4 rfl ho4 _ [32, 35] rfl rfl ?c5 hs0 ?_)
  case c5 => simp only [List.length_cons, List.length_nil]; omega
  intro x5 y5 ho5 st5
  obtain ⟨K5, hK5⟩ : ∃ q, K4 ++ [32, 35] = q := ⟨_, rfl⟩
  rw [hK5] at ho5
  have bK5 : K5.length ≤ 131082 := by rw [← hK5, List.length_append]; simp only [List.length_cons, List.length_nil]; omega
  have EK5 := hide hK5
  clear hK5
  replace bx := st5.box bx (by decide)
  replace hT := hT.tx st5 (Nat.le_refl _)
  replace t0 := t0.trans st5
  replace hs0 := st5.sz hs0
  clear ho4 st5
  have bxc3 : y5.cell? ⟨w.heap.size, 3, none⟩ = some (.int .i64 s') := cellT bx 3 _ rfl
  go_wp2_with fail
  refine (appendInt_any base x5 K5 s' y5 ho5 hs0 hT (by omega) (by omega)).mono ?_
  rintro e y6 ⟨x6, rfl, ho6, st6⟩
  obtain ⟨K6, hK6⟩ : ∃ q, K5 ++ digL s' = q := ⟨_, rfl⟩
  rw [hK6] at ho6
  have bK6 : K6.length ≤ 196618 := by rw [← hK6, List.length_append]; omega
  have EK6 := hide hK6
  clear hK6
  clear bxc3
  replace bx := st6.box bx (by decide)
  replace hT := hT.tx st6 (Nat.le_refl _)
  replace t0 := t0.trans st6
  replace hs0 := st6.sz hs0
  clear ho5 st6
  go_wp2_with (at_builtin; refine wpList_append_str rfl _ _ rfl base x6 K6 rfl ho6 _ [32, 43] rfl rfl ?c7 hs0 ?_)
  case c7 => simp only [List.length_cons, List.length_nil]; omega
  intro x7 y7 ho7 st7
  obtain ⟨K7, hK7⟩ : ∃ q, K6 ++ [32, 43] = q := ⟨_, rfl⟩
  rw [hK7] at ho7
  have bK7 : K7.length ≤ 196620 := by rw [← hK7, List.length_append]; simp only [List.length_cons, List.length_nil]; omega
  have EK7 := hide hK7
  clear hK7
  replace bx := st7.box bx (by decide)
  replace hT := hT.tx st7 (Nat.le_refl _)
  replace t0 := t0.trans st7
  replace hs0 := st7.sz hs0
  clear ho6 st7
  have bxc4 : y7.cell? ⟨w.heap.size, 4, none⟩ = some (.slice o len cap) := cellT bx 4 _ rfl
  go_wp2_with fail
  refine (appendInt_any base x7 K7 len y7 ho7 hs0 hT (by omega) (by omega)).mono ?_
  rintro e y8 ⟨x8, rfl, ho8, st8⟩
  obtain ⟨K8, hK8⟩ : ∃ q, K7 ++ digL len = q := ⟨_, rfl⟩
  rw [hK8] at ho8
  have bK8 : K8.length ≤ 196637 := by rw [← hK8, List.length_append]; omega
  have EK8 := hide hK8
  clear hK8
  clear bxc4
  replace bx := st8.box bx (by decide)
  replace hT := hT.tx st8 (Nat.le_refl _)
  replace t0 := t0.trans st8
  replace hs0 := st8.sz hs0
  clear ho7 st8
  have HO : Hid (ownB y8 base x8 (pktT a' b' f s' len)) := by unfold Hid; rw [HE.out]; unfold pktTL; rw [← List.nil_append (flowTL a' b')]; rw [EK1.out, EK2.out, EK4.out, EK5.out, EK6.out, EK7.out, EK8.out]; exact ho8
  have HT := hide t0
  clear ho8 t0
  go_wp2
  go_ret
  exact ⟨_, rfl, HO.out, HT.out⟩

end Go.Proofs.YtoeoiljddcjphaaDoor

