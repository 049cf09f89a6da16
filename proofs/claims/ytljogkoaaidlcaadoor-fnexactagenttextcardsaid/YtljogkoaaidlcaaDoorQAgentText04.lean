/- Several texts in one: SInt, SFlowT. -/
import Derived.Shelf.Strconv.AppendIntPublic10
import Derived.Shelf.Lay
import Derived.Ground.NamesProg
import Derived.Lib.AppendStr
import Derived.Test.YtljogkoaaidlcaaDoorQAgentText03
import Derived.Test.YtljogkoaaidlcaaDoorQAgentText02
/- Numbers as text: what the library's AppendInt, the program's appendInt and the model's l1digits lay. -/
namespace Go.Proofs.YtljogkoaaidlcaaDoor
open Go.ChangeShapes Go.WideShapes Go.ChangeAt Go.RowKit Go.Joins Go.Shelf
set_option linter.unusedVariables false
set_option linter.unusedSimpArgs false

shelf_lay LaysM.n176 Nm 176 at Tryd as laysAI

/-- The library's table of powers of ten, by the name that the rows list. -/
def powN : String := (Rows.fnExactAgentTextRow.named.headD "")
def PTab (C : Nat) (w : World) : Prop := Go.Lib.TabBelow Tryd.prog C w powN .u64 Go.Lib.pow10Tab
theorem PTab.on {C D : Nat} {w w' : World} (h : PTab C w) (hb : Below D w w') (hc : C ≤ D) : PTab C w' := Go.Lib.TabBelow.on h (hb.mono hc)
theorem PTab.le {C D : Nat} {w : World} (h : PTab C w) (hc : C ≤ D) : PTab D w := fun w' hb => h w' (hb.mono hc)

/-- What text leaves: below base nothing has turned, and wherever it lies no row but one of bytes has. -/
structure TxS (base : Nat) (w w' : World) : Prop where
 bel : Below base w w'
 oth : Go.Lib.OthersKept 5 none w w'
theorem TxS.refl (base : Nat) (w : World) : TxS base w w := ⟨Below.refl _ _, Go.Lib.OthersKept.refl _ _ _⟩
theorem TxS.trans {base : Nat} {a b c : World} (h : TxS base a b) (k : TxS base b c) : TxS base a c := ⟨h.bel.trans k.bel, h.oth.trans k.oth⟩
theorem TxS.below {base : Nat} {w w' : World} (hb : Below w.heap.size w w') (hs : base ≤ w.heap.size) : TxS base w w' := ⟨hb.mono hs, (Go.Lib.OthersKept.refl _ _ _).below hb⟩
theorem TxS.alloc {base : Nat} {w w' : World} (h : TxS base w w') (hs : base ≤ w'.heap.size) (o : Obj) : TxS base w (w'.alloc o) := ⟨h.bel.alloc hs o, h.oth.alloc o⟩
theorem TxS.grown {base n : Nat} {w w' : World} {v : Value} {xs : List Value} (hg : w.grownBy w' v.ownBlock) (ho : w.ownsRow base 5 1 v n xs) (hs : base ≤ w.heap.size) : TxS base w w' := by
 refine ⟨(Below.refl _ _).grown hg hs (fun k e => (ho.lt k e).1), fun k o hk _ hne => ?_⟩
 have hlt : k < w.heap.size := (Array.getElem?_eq_some_iff.1 hk).1
 rw [hg.block k hlt ?_]
 ·exact hk
 ·intro e
  rcases ho.2 with ⟨rfl, _⟩ | ⟨g, cap, cur, rfl, _, hg2, _⟩
  ·simp [Value.ownBlock] at e
  ·simp [Value.ownBlock] at e
   subst e
   rw [hk] at hg2
   cases hg2
   exact hne _ _ rfl
theorem TxS.box {base k : Nat} {w w' : World} {cs : Array Value} {T : TypeId} {fr : Nat × Nat} (h : TxS base w w') (hb : w.heap[k]? = some (.cells cs T fr)) (hT : T ≠ 5) : w'.heap[k]? = some (.cells cs T fr) :=
 h.oth k _ hb (by simp) (fun c fz e => by cases e; exact hT rfl)
theorem TxS.sz {base : Nat} {w w' : World} (h : TxS base w w') (hs : base ≤ w.heap.size) : base ≤ w'.heap.size := Nat.le_trans hs h.bel.size
theorem cellT {W : World} {B : Nat} {c : Array Value} {t : TypeId} {fr : Nat × Nat} (h : W.heap[B]? = some (.cells c t fr)) (j : Nat) (u : Value) (hj : c[j]? = some u) : W.cell? ⟨B, j, none⟩ = some u := by
 simp [World.cell?, h, hj]
theorem PTab.tx {C base : Nat} {w w' : World} (h : PTab C w) (hb : TxS base w w') (hc : C ≤ base) : PTab C w' := Go.Lib.TabBelow.on h (hb.bel.mono hc)

theorem libAppendInt (B n : Nat) (i : Int) (h0 : -9223372036854775808 ≤ i) (h1 : i ≤ 9223372036854775807) (sv : Value) (xs : List Value) (w : World) (hown : w.ownsRow B 5 1 sv n xs) (hBw : B ≤ w.heap.size) (hlim : n + 21 ≤ 140737488355328) (htab : PTab B w) :
  Calls Tryd.prog 30 #[sv, .int .i64 i, .int .i64 10] w fun e w' => ∃ v', e = .returned v' ∧ w'.ownsRow B 5 1 v' (n + (Go.Lib.itoa i).length) (xs ++ Go.Lib.byteCells (Go.Lib.itoa i)) ∧ TxS B w w' :=
 (Any.strconv_AppendInt_10 laysAI B n i h0 h1 sv xs w hown hBw hlim htab).mono fun e w' ⟨v', he, ho, hb, hk⟩ => ⟨v', he, ho, hb, hk⟩

/-- A number's digits, the first ahead. -/
def digL (n : Nat) : List Int := (Go.Lib.decDigits n).map (fun b => (b.toNat : Int))
theorem digL_small {n : Nat} (h : n < 10) : digL n = [48 + (n : Int)] := by
 unfold digL
 rw [Go.Lib.decDigits, dif_pos h]
 simp
 omega
theorem digL_big {n : Nat} (h : ¬ n < 10) : digL n = digL (n / 10) ++ [48 + ((n % 10 : Nat) : Int)] := by
 unfold digL
 rw [Go.Lib.decDigits, dif_neg h]
 simp
 omega
theorem digL_len (n : Nat) : (digL n).length ≤ n + 1 := by
 induction n using Nat.strongRecOn with
 | _ n ih =>
  by_cases h : n < 10
  ·rw [digL_small h]; simp
  ·rw [digL_big h]
   have := ih (n / 10) (by omega)
   simp
   omega
theorem digL_pos (n : Nat) : 1 ≤ (digL n).length := by
 by_cases h : n < 10
 ·rw [digL_small h]; simp
 ·rw [digL_big h]; simp
theorem itoa_digL (n : Nat) : Go.Lib.byteCells (Go.Lib.itoa (n : Int)) = (digL n).map (Value.int .u8) := by
 unfold Go.Lib.itoa Go.Lib.byteCells digL
 rw [if_neg (by omega)]
 simp
theorem itoa_len (n : Nat) : (Go.Lib.itoa (n : Int)).length = (digL n).length := by
 unfold Go.Lib.itoa digL
 rw [if_neg (by omega)]
 simp

set_option maxHeartbeats 1000000 in
theorem appendInt_any (base : Nat) (v : Value) (l : List Int) (n : Nat) (w : World) (hv : ownB w base v l) (hbase : base ≤ w.heap.size) (hT : PTab base w) (hn : n ≤ 1000000000) (hlen : l.length ≤ 1000000000000) :
  Calls Tryd.prog 20 #[v, .int .i64 n] w fun e w' => ∃ v', e = .returned v' ∧ ownB w' base v' (l ++ digL n) ∧ TxS base w w' := by
 have HA := hide (libAppendInt base l.length (n : Int) (by omega) (by omega) v _ w hv hbase (by omega) hT)
 go_enter Tryd.func20, Tryd.ntmps20
 go_wp2_with fail
 refine HA.out.mono ?_
 rintro e w1 ⟨v1, rfl, ho, hb⟩
 have HO : Hid (ownB w1 base v1 (l ++ digL n)) := by
  unfold Hid ownB
  rw [itoa_digL, itoa_len] at ho
  simpa using ho
 clear ho
 go_wp2
 go_ret
 exact ⟨_, rfl, HO.out, hb⟩

theorem own_built (w : World) (base : Nat) (x : Int) (hb : base ≤ w.heap.size) : ownB (w.alloc (.cells #[.int .u8 x] 5)) base (.slice (some ⟨w.heap.size, 0, none⟩) 1 1) [x] :=
 ⟨rfl, .inr ⟨w.heap.size, 1, #[.int .u8 x], rfl, hb, heap_alloc_new w _, Nat.le_refl _, by unfold maxLen; omega, rfl, rfl⟩⟩
theorem rd_built (w : World) (x : Int) : Rd (w.alloc (.cells #[.int .u8 x] 5)) (some ⟨w.heap.size, 0, none⟩) [x] := (own_built w w.heap.size x (Nat.le_refl _)).rd

/-- A string behind a row of the call's own. -/
theorem wpList_append_str {w : World} {ops : Array Oper} {rest : List Oper} {o : Oper} {a : Act} {Q : Exit → Act → World → Prop} (hgd : o.guard = none) (s x : Operand)
  (ho : o.op = .call { callee := .builtin .append, args := #[s, x], argTypes := #[28, 9] }) (base : Nat) (v : Value) (l0 : List Int) (hs : a.eval s = v) (hown : ownB w base v l0)
  (b : ByteArray) (l : List Int) (hx : a.eval x = .string b) (hl : b.data.toList.map (fun b => (b.toNat : Int)) = l) (hlen : l0.length + l.length ≤ 1099511627776) (hbase : base ≤ w.heap.size)
  (h : ∀ v' w', ownB w' base v' (l0 ++ l) → TxS base w w' → wpList Tryd.prog ops Q rest (a.put o.dst v') w') : wpList Tryd.prog ops Q (o :: rest) a w := by
 obtain ⟨i0, hi, hz0, hz1, hz2⟩ := info_parts infoU8
 have hsz : b.size = l.length := by rw [← hl]; show b.data.size = _; simp
 refine Go.Lib.wpList_append_own_string _ hgd s x 28 9 ho base 5 i0 Tryd.underlying28 Tryd.underlying9 hi hz0 hz1 hz2 v _ _ hs hown b hx (by unfold maxLen; omega) (by omega) hbase ?_
 intro v' w' h1 h2 _
 refine h v' w' ?_ (TxS.grown h2 hown hbase)
 unfold ownB
 have e : Go.Lib.strCells b = l.map (Value.int .u8) := by rw [← hl]; simp [Go.Lib.strCells]
 rw [e, hsz] at h1
 simpa using h1

theorem own_nilB {w : World} {base n c : Nat} {o : Option Addr} {l : List Int} (h : ownB w base (.slice o n c) l) : o = none → c = 0 := by
 intro e
 rcases h.2 with ⟨h1, _⟩ | ⟨g, cap, cur, h1, _⟩
 ·simp at h1; exact h1.2.2
 ·simp [e] at h1
/-- A row behind a row of the call's own. -/
theorem wpList_append_txt {w : World} {ops : Array Oper} {rest : List Oper} {o : Oper} {a : Act} {Q : Exit → Act → World → Prop} (hgd : o.guard = none) (s x : Operand)
  (ho : o.op = .call { callee := .builtin .append, args := #[s, x], argTypes := #[28, 28] }) (base : Nat) (v : Value) (l0 : List Int) (hs : a.eval s = v) (hown : ownB w base v l0)
  (ob : Option Addr) (c : Nat) (l : List Int) (m : Nat) (hm : m = l.length) (hx : a.eval x = .slice ob m c) (hnil : ob = none → c = 0) (hR : Rd w ob l) (hlen : l0.length + l.length ≤ 1099511627776) (hbase : base ≤ w.heap.size)
  (h : ∀ v' w', ownB w' base v' (l0 ++ l) → TxS base w w' → wpList Tryd.prog ops Q rest (a.put o.dst v') w') : wpList Tryd.prog ops Q (o :: rest) a w :=
 wpList_append_bytes_m hgd s x ho base v l0 hs hown ob c l m hm hx hnil hR hlen hbase (fun v' w' h1 h2 _ => h v' w' h1 (TxS.grown h2 hown hbase))
/-- One byte, laid anew, behind a row of the call's own. -/
theorem wpList_append_one {w : World} {ops : Array Oper} {rest : List Oper} {o : Oper} {a : Act} {Q : Exit → Act → World → Prop} (y : Int) (hgd : o.guard = none) (s x : Operand)
  (ho : o.op = .call { callee := .builtin .append, args := #[s, x], argTypes := #[28, 28] }) (base : Nat) (v : Value) (l0 : List Int) (hs : a.eval s = v) (hown : ownB w base v l0)
  (hx : a.eval x = .slice (some ⟨w.heap.size, 0, none⟩) 1 1) (hlen : l0.length ≤ 1099511627775) (hbase : base ≤ w.heap.size)
  (h : ∀ v' w', ownB w' base v' (l0 ++ [y]) → TxS base w w' → wpList Tryd.prog ops Q rest (a.put o.dst v') w') : wpList Tryd.prog ops Q (o :: rest) a (w.alloc (.cells #[.int .u8 y] 5)) :=
 wpList_append_txt hgd s x ho base v l0 hs (hown.alloc _) _ 1 [y] 1 rfl hx (by intro e; cases e) (rd_built w y) (by simp; omega) (by simp; omega)
  (fun v' w' h1 h2 => h v' w' h1 (((TxS.refl base w).alloc hbase _).trans h2))

set_option maxRecDepth 100000 in
set_option maxHeartbeats 2000000 in
theorem l1digits_any (n : Nat) : n ≤ 1000000000 → ∀ (w : World),
  Calls Tryd.prog 15 #[.int .i64 n] w fun e w' => ∃ v, e = .returned v ∧ ownB w' w.heap.size v (digL n) ∧ Below w.heap.size w w' := by
 induction n using Nat.strongRecOn with
 | _ n ih =>
  intro hn w
  by_cases h : n < 10
  ·have hlt : (n : Int) < 10 := by omega
   have HD := hide (digL_small h)
   have HB := hide (own_built w w.heap.size (48 + (n : Int)) (Nat.le_refl _))
   go_enter Tryd.func15, Tryd.ntmps15
   go_wp2
   go_ret
   exact ⟨_, rfl, by rw [HD.out]; exact HB.out, (Below.refl _ _).alloc (Nat.le_refl _) _⟩
  ·have hlt : ¬ (n : Int) < 10 := by omega
   have HD := hide (digL_big h)
   obtain ⟨q, hq⟩ : ∃ q, n / 10 = q := ⟨_, rfl⟩
   obtain ⟨r, hr⟩ : ∃ r, n % 10 = r := ⟨_, rfl⟩
   have hqi : (n : Int) / 10 = (q : Int) := by omega
   have hri : (n : Int) % 10 = (r : Int) := by omega
   have HC := hide (ih q (by omega) (by omega) w)
   have hr9 : r < 10 := by omega
   have HQ := hide (show q ≤ 1000000000 by omega)
   rw [hq, hr] at HD
   clear ih hq hr h
   go_enter Tryd.func15, Tryd.ntmps15
   go_wp2_with fail
   refine HC.out.mono ?_
   rintro e w1 ⟨v1, rfl, ho1, hb1⟩
   have hs1 := hb1.size
   go_wp2_with (at_builtin; refine wpList_append_bytes_m rfl _ _ rfl w.heap.size v1 (digL q) rfl (ho1.alloc _) (some ⟨w1.heap.size, 0, none⟩) 1 [48 + (r : Int)] 1 rfl rfl (by intro e; cases e) (rd_built w1 _) ?c1 ?c2 ?_)
   case c1 => have := digL_len q; have := HQ.out; simp; omega
   case c2 => simp; omega
   intro v2 w2 ho2 _ hb2
   have HO : Hid (ownB w2 w.heap.size v2 (digL n)) := by unfold Hid; rw [HD.out]; exact ho2
   have HB2 := hide ((hb1.alloc (Nat.le_trans (Nat.le_refl _) hs1) _).trans hb2)
   clear ho2 hb2
   go_wp2
   go_ret
   exact ⟨_, rfl, HO.out, HB2.out⟩
theorem TxS.drew {base : Nat} {w w' : World} (h : TxS base w w') : TxS base w w'.drew := ⟨h.bel.drew, h.oth.drew⟩
/-- A string behind a row of the call's own, as one step of a region that draws its order. -/
theorem step_append_str {ops : Array Oper} {o : Oper} {a : Act} {w : World} {K : Act → World → Prop} {Q : Exit → Act → World → Prop} {E : Prop} (hgd : o.guard = none) (s x : Operand)
  (ho : o.op = .call { callee := .builtin .append, args := #[s, x], argTypes := #[28, 9] }) (base : Nat) (v : Value) (l0 : List Int) (hs : a.eval s = v) (hown : ownB w base v l0)
  (b : ByteArray) (l : List Int) (hx : a.eval x = .string b) (hl : b.data.toList.map (fun b => (b.toNat : Int)) = l) (hlen : l0.length + l.length ≤ 1099511627776) (hbase : base ≤ w.heap.size)
  (h : ∀ v' w', ownB w' base v' (l0 ++ l) → TxS base w w' → w.grownBy w' v.ownBlock → K (a.put o.dst v') w') : if Region.wanted o (yielded ops a.tmps) = true then Oper.wp Tryd.prog o a w K Q else E := by
 have hw : Region.wanted o (yielded ops a.tmps) = true := by simp [Region.wanted, hgd]
 rw [if_pos hw]
 obtain ⟨i0, hi, hz0, hz1, hz2⟩ := info_parts infoU8
 have hsz : b.size = l.length := by rw [← hl]; show b.data.size = _; simp
 obtain ⟨v', w', hr, h2, h3, _⟩ := Go.Lib.run_append_own_string (P := Tryd.prog) w base 28 9 o.type 5 i0 Tryd.underlying28 Tryd.underlying9 hi hz0 hz1 hz2 v _ _ hown b (by unfold maxLen; omega) (by omega) hbase
 unfold Oper.wp
 simp [execOp, ho, resolve, invoke, builtin, hs, hx, hr, Result.andThen]
 refine h v' w' ?_ (TxS.grown h3 hown hbase) h3
 unfold ownB
 have e : Go.Lib.strCells b = l.map (Value.int .u8) := by rw [← hl]; simp [Go.Lib.strCells]
 rw [e, hsz] at h2
 simpa using h2
/-- A row behind a row of the call's own, as one step of a region that draws its order. -/
theorem step_append_txt {ops : Array Oper} {o : Oper} {a : Act} {w : World} {K : Act → World → Prop} {Q : Exit → Act → World → Prop} {E : Prop} (hgd : o.guard = none) (s x : Operand)
  (ho : o.op = .call { callee := .builtin .append, args := #[s, x], argTypes := #[28, 28] }) (base : Nat) (v : Value) (l0 : List Int) (hs : a.eval s = v) (hown : ownB w base v l0)
  (ob : Option Addr) (c : Nat) (l : List Int) (m : Nat) (hm : m = l.length) (hx : a.eval x = .slice ob m c) (hnil : ob = none → c = 0) (hR : Rd w ob l) (hlen : l0.length + l.length ≤ 1099511627776) (hbase : base ≤ w.heap.size)
  (h : ∀ v' w', ownB w' base v' (l0 ++ l) → TxS base w w' → w.grownBy w' v.ownBlock → K (a.put o.dst v') w') : if Region.wanted o (yielded ops a.tmps) = true then Oper.wp Tryd.prog o a w K Q else E := by
 subst hm
 have hw : Region.wanted o (yielded ops a.tmps) = true := by simp [Region.wanted, hgd]
 rw [if_pos hw]
 obtain ⟨i0, hi, hz0, hz1, hz2⟩ := info_parts infoU8
 cases ob with
 | none =>
  have e := hR.nil
  subst e
  have hc := hnil rfl
  subst hc
  have hrun := run_append_owned_none (P := Tryd.prog) (w := w) base 28 o.type 5 i0 1 Tryd.underlying28 hi v _ _ hown
  unfold Oper.wp
  simp [execOp, ho, resolve, invoke, builtin, hs, hx, hrun, Result.andThen]
  exact h v w (by simpa using hown) (TxS.refl _ _) (World.grownBy.refl _ _)
 | some ad =>
  refine wp_append_own _ s x 28 ho base 5 i0 (.int .u8 0) 1 1 Tryd.underlying28 hi hz0 hz1 hz2 rfl (by decide) v _ _ hs hown ad l.length c (l.map (Value.int .u8)) hx (by simp) hR.news (ints_oneCell .u8 l) (by unfold maxLen; omega) (by omega) hbase ?_
  intro v' w' h1 h2 _
  exact h v' w' (by unfold ownB; simpa using h1) (TxS.grown h2 hown hbase) h2
theorem ownB.rdAny {w : World} {base n c : Nat} {o : Option Addr} {l : List Int} (h : w.ownsRow base 5 1 (.slice o n c) n (l.map (Value.int .u8))) : Rd w o l := by
 have hn : n = l.length := by have := h.1; simp at this; omega
 subst hn
 obtain ⟨o', c', e, R⟩ := ownB.open (l := l) h
 cases e
 exact R
/-- A row laid behind another stays as it is when that one grows. -/
theorem own_beside {w w' : World} {b1 b2 n1 n2 : Nat} {v1 v2 : Value} {x1 x2 : List Value} (h1 : w.ownsRow b1 5 1 v1 n1 x1) (hg : w.grownBy w' v2.ownBlock) (hlt : ∀ b, v2.ownBlock = some b → b < b1) : w'.ownsRow b1 5 1 v1 n1 x1 := by
 refine h1.kept hg ?_
 rcases hv : v1.ownBlock with _ | k
 ·exact .inl rfl
 ·refine .inr (fun e => ?_)
  have := (h1.lt k hv).1
  have := hlt k e.symm
  omega

end Go.Proofs.YtljogkoaaidlcaaDoor

/- Flows as text: the model's l1flow, the program's appendFlow. -/
namespace Go.Proofs.YtljogkoaaidlcaaDoor
open Go.ChangeShapes Go.WideShapes Go.ChangeAt Go.RowKit Go.Joins
set_option linter.unusedVariables false
set_option linter.unusedSimpArgs false

/-- A flow's text: Addr, a colon, Port. -/
def flowTL (a p : Nat) : List Int := digL a ++ ([58] ++ digL p)
theorem flowTL_len (a p : Nat) : (flowTL a p).length ≤ a + p + 3 := by have := digL_len a; have := digL_len p; simp [flowTL]; omega
theorem flowTL_eq (l : List Int) (a p : Nat) : ((l ++ digL a) ++ [58]) ++ digL p = l ++ flowTL a p := by simp [flowTL]

set_option maxRecDepth 100000 in
set_option maxHeartbeats 2000000 in
theorem l1flow_any (base : Nat) (v : Value) (l : List Int) (a p : Nat) (w : World) (hv : ownB w base v l) (hbase : base ≤ w.heap.size) (ha : a ≤ 1000000) (hp : p ≤ 1000000) (hlen : l.length ≤ 1000000000) :
  Calls Tryd.prog 17 #[v, .agg #[.int .i64 a, .int .i64 p]] w fun e w' => ∃ v', e = .returned v' ∧ ownB w' base v' (l ++ flowTL a p) ∧ TxS base w w' := by
 have hla := digL_len a
 have hlp := digL_len p
 have HA := hide (fun W => l1digits_any a (by omega) W)
 have HP := hide (fun W => l1digits_any p (by omega) W)
 obtain ⟨W0, hW0⟩ : ∃ W, (w.alloc (.cells #[.int .i64 a, .int .i64 p] 48)) = W := ⟨_, rfl⟩
 have bx : W0.heap[w.heap.size]? = some (.cells #[.int .i64 a, .int .i64 p] 48 (0, 0)) := by rw [← hW0]; exact heap_alloc_new w _
 have hB0 : Below w.heap.size w W0 := by rw [← hW0]; exact (Below.refl _ _).alloc (Nat.le_refl _) _
 have ho0 : ownB W0 base v l := own_kept hv hB0
 have t0 : TxS base w W0 := TxS.below hB0 hbase
 have hs0 := t0.sz hbase
 clear hB0 hv
 have bxc0 : W0.cell? ⟨w.heap.size, 0, none⟩ = some (.int .i64 a) := cellT bx 0 _ rfl
 go_enter Tryd.func17, Tryd.ntmps17
 go_wp2_with fail
 refine (HA.out W0).mono ?_
 rintro e y1 ⟨q1, rfl, hq1, hb1⟩
 obtain ⟨o1, c1, rfl, R1⟩ := hq1.open
 have nl1 := own_nilB hq1
 have st1 := TxS.below hb1 hs0
 have hp1 := own_kept ho0 hb1
 clear ho0 hq1 hb1
 clear bxc0
 replace bx := st1.box bx (by decide)
 replace t0 := t0.trans st1
 replace hs0 := st1.sz hs0
 clear st1
 go_wp2_with (at_builtin; refine wpList_append_txt rfl _ _ rfl base v l rfl hp1 o1 c1 (digL a) _ rfl rfl nl1 R1 ?c2 hs0 ?_)
 case c2 => omega
 intro x2 y2 ho2 st2
 obtain ⟨K2, hK2⟩ : ∃ q, l ++ digL a = q := ⟨_, rfl⟩
 rw [hK2] at ho2
 have bK2 : K2.length ≤ 1001000001 := by rw [← hK2, List.length_append]; omega
 have EK2 := hide hK2
 clear hK2
 replace bx := st2.box bx (by decide)
 replace t0 := t0.trans st2
 replace hs0 := st2.sz hs0
 clear hp1 R1 nl1 st2
 go_wp2_with (at_builtin; refine wpList_append_one 58 rfl _ _ rfl base x2 K2 rfl ho2 rfl ?c3 hs0 ?_)
 case c3 => omega
 intro x3 y3 ho3 st3
 obtain ⟨K3, hK3⟩ : ∃ q, K2 ++ [58] = q := ⟨_, rfl⟩
 rw [hK3] at ho3
 have bK3 : K3.length ≤ 1001000002 := by rw [← hK3, List.length_append]; simp only [List.length_cons, List.length_nil]; omega
 have EK3 := hide hK3
 clear hK3
 replace bx := st3.box bx (by decide)
 replace t0 := t0.trans st3
 replace hs0 := st3.sz hs0
 clear ho2 st3
 have bxc1 : y3.cell? ⟨w.heap.size, 1, none⟩ = some (.int .i64 p) := cellT bx 1 _ rfl
 go_wp2_with fail
 refine (HP.out y3).mono ?_
 rintro e y4 ⟨q4, rfl, hq4, hb4⟩
 obtain ⟨o4, c4, rfl, R4⟩ := hq4.open
 have nl4 := own_nilB hq4
 have st4 := TxS.below hb4 hs0
 have hp4 := own_kept ho3 hb4
 clear ho3 hq4 hb4
 clear bxc1
 replace bx := st4.box bx (by decide)
 replace t0 := t0.trans st4
 replace hs0 := st4.sz hs0
 clear st4
 go_wp2_with (at_builtin; refine wpList_append_txt rfl _ _ rfl base x3 K3 rfl hp4 o4 c4 (digL p) _ rfl rfl nl4 R4 ?c5 hs0 ?_)
 case c5 => omega
 intro x5 y5 ho5 st5
 obtain ⟨K5, hK5⟩ : ∃ q, K3 ++ digL p = q := ⟨_, rfl⟩
 rw [hK5] at ho5
 have bK5 : K5.length ≤ 1002000003 := by rw [← hK5, List.length_append]; omega
 have EK5 := hide hK5
 clear hK5
 replace bx := st5.box bx (by decide)
 replace t0 := t0.trans st5
 replace hs0 := st5.sz hs0
 clear hp4 R4 nl4 st5
 have HO : Hid (ownB y5 base x5 (l ++ flowTL a p)) := by unfold Hid; rw [← flowTL_eq, EK2.out, EK3.out, EK5.out]; exact ho5
 have HT := hide t0
 clear ho5 t0
 go_wp2
 go_ret
 exact ⟨_, rfl, HO.out, HT.out⟩

set_option maxRecDepth 100000 in
set_option maxHeartbeats 2000000 in
theorem appendFlow_any (base : Nat) (v : Value) (l : List Int) (a p : Nat) (w : World) (hv : ownB w base v l) (hbase : base ≤ w.heap.size) (hT : PTab base w) (ha : a ≤ 1000000) (hp : p ≤ 1000000) (hlen : l.length ≤ 1000000000) :
  Calls Tryd.prog 22 #[v, .agg #[.int .i64 a, .int .i64 p]] w fun e w' => ∃ v', e = .returned v' ∧ ownB w' base v' (l ++ flowTL a p) ∧ TxS base w w' := by
 have hla := digL_len a
 have hlp := digL_len p
 obtain ⟨W0, hW0⟩ : ∃ W, (w.alloc (.cells #[.int .i64 a, .int .i64 p] 48)) = W := ⟨_, rfl⟩
 have bx : W0.heap[w.heap.size]? = some (.cells #[.int .i64 a, .int .i64 p] 48 (0, 0)) := by rw [← hW0]; exact heap_alloc_new w _
 have hB0 : Below w.heap.size w W0 := by rw [← hW0]; exact (Below.refl _ _).alloc (Nat.le_refl _) _
 have ho0 : ownB W0 base v l := own_kept hv hB0
 have t0 : TxS base w W0 := TxS.below hB0 hbase
 have hs0 := t0.sz hbase
 replace hT := hT.tx t0 (Nat.le_refl _)
 clear hB0 hv
 have bxc0 : W0.cell? ⟨w.heap.size, 0, none⟩ = some (.int .i64 a) := cellT bx 0 _ rfl
 go_enter Tryd.func22, Tryd.ntmps22
 go_wp2_with fail
 refine (appendInt_any base v l a W0 ho0 hs0 hT (by omega) (by omega)).mono ?_
 rintro e y1 ⟨x1, rfl, ho1, st1⟩
 obtain ⟨K1, hK1⟩ : ∃ q, l ++ digL a = q := ⟨_, rfl⟩
 rw [hK1] at ho1
 have bK1 : K1.length ≤ 1001000001 := by rw [← hK1, List.length_append]; omega
 have EK1 := hide hK1
 clear hK1
 clear bxc0
 replace bx := st1.box bx (by decide)
 replace hT := hT.tx st1 (Nat.le_refl _)
 replace t0 := t0.trans st1
 replace hs0 := st1.sz hs0
 clear ho0 st1
 go_wp2_with (at_builtin; refine wpList_append_one 58 rfl _ _ rfl base x1 K1 rfl ho1 rfl ?c2 hs0 ?_)
 case c2 => omega
 intro x2 y2 ho2 st2
 obtain ⟨K2, hK2⟩ : ∃ q, K1 ++ [58] = q := ⟨_, rfl⟩
 rw [hK2] at ho2
 have bK2 : K2.length ≤ 1001000002 := by rw [← hK2, List.length_append]; simp only [List.length_cons, List.length_nil]; omega
 have EK2 := hide hK2
 clear hK2
 replace bx := st2.box bx (by decide)
 replace hT := hT.tx st2 (Nat.le_refl _)
 replace t0 := t0.trans st2
 replace hs0 := st2.sz hs0
 clear ho1 st2
 have bxc1 : y2.cell? ⟨w.heap.size, 1, none⟩ = some (.int .i64 p) := cellT bx 1 _ rfl
 go_wp2_with fail
 refine (appendInt_any base x2 _ p y2 ho2 hs0 hT (by omega) (by omega)).mono ?_
 rintro e y3 ⟨x3, rfl, ho3, st3⟩
 obtain ⟨K3, hK3⟩ : ∃ q, K2 ++ digL p = q := ⟨_, rfl⟩
 rw [hK3] at ho3
 have bK3 : K3.length ≤ 1002000003 := by rw [← hK3, List.length_append]; omega
 have EK3 := hide hK3
 clear hK3
 clear bxc1
 replace bx := st3.box bx (by decide)
 replace hT := hT.tx st3 (Nat.le_refl _)
 replace t0 := t0.trans st3
 replace hs0 := st3.sz hs0
 clear ho2 st3
 have HO : Hid (ownB y3 base x3 (l ++ flowTL a p)) := by unfold Hid; rw [← flowTL_eq, EK1.out, EK2.out, EK3.out]; exact ho3
 have HT := hide t0
 clear ho3 t0
 go_wp2
 go_ret
 exact ⟨_, rfl, HO.out, HT.out⟩

end Go.Proofs.YtljogkoaaidlcaaDoor

