/- Several texts in one: SInt, SPoolT, SMoved, ShP2. -/
import Derived.Shelf.Strconv.AppendIntPublic10
import Derived.Shelf.Lay
import Derived.Ground.NamesProg
import Derived.Lib.AppendStr
import Derived.Test.YtmmhgkkcpjhiiaaDoorQPoolText27
import Derived.Test.YtmmhgkkcpjhiiaaDoorQPoolText26
import Derived.Test.YtmmhgkkcpjhiiaaDoorQPoolText17
import Derived.Test.YtmmhgkkcpjhiiaaDoorQPoolText23
/- Numbers as text: what the library's AppendInt, the program's appendInt and the model's l1digits lay. -/
namespace Go.Proofs.YtmmhgkkcpjhiiaaDoor
open Go.ChangeShapes Go.WideShapes Go.ChangeAt Go.RowKit Go.Joins Go.Shelf
set_option linter.unusedVariables false
set_option linter.unusedSimpArgs false

shelf_lay LaysM.n176 Nm 176 at Tryd as laysAI

/-- The library's table of powers of ten, by the name that the rows list. -/
def powN : String := (Rows.fnExactAgentTextRow.named.headD "")
def PTab (C : Nat) (w : World) : Prop := Go.Lib.TabBelow Tryd.prog C w powN .u64 Go.Lib.pow10Tab
theorem PTab.on {C D : Nat} {w w' : World} (h : PTab C w) (hb : Below D w w') (hc : C ≤ D) : PTab C w' := Go.Lib.TabBelow.on h (hb.mono hc)
theorem PTab.le {C D : Nat} {w : World} (h : PTab C w) (hc : C ≤ D) : PTab D w := fun w' hb => h w' (hb.mono hc)

/-- What text leaves: below base nothing has turned, and wherever it lies no row but one of bytes has. -/
structure TxS (base : Nat) (w w' : World) : Prop where
 bel : Below base w w'
 oth : Go.Lib.OthersKept 5 none w w'
theorem TxS.refl (base : Nat) (w : World) : TxS base w w := ⟨Below.refl _ _, Go.Lib.OthersKept.refl _ _ _⟩
theorem TxS.trans {base : Nat} {a b c : World} (h : TxS base a b) (k : TxS base b c) : TxS base a c := ⟨h.bel.trans k.bel, h.oth.trans k.oth⟩
theorem TxS.below {base : Nat} {w w' : World} (hb : Below w.heap.size w w') (hs : base ≤ w.heap.size) : TxS base w w' := ⟨hb.mono hs, (Go.Lib.OthersKept.refl _ _ _).below hb⟩
theorem TxS.alloc {base : Nat} {w w' : World} (h : TxS base w w') (hs : base ≤ w'.heap.size) (o : Obj) : TxS base w (w'.alloc o) := ⟨h.bel.alloc hs o, h.oth.alloc o⟩
theorem TxS.grown {base n : Nat} {w w' : World} {v : Value} {xs : List Value} (hg : w.grownBy w' v.ownBlock) (ho : w.ownsRow base 5 1 v n xs) (hs : base ≤ w.heap.size) : TxS base w w' := by
 refine ⟨(Below.refl _ _).grown hg hs (fun k e => (ho.lt k e).1), fun k o hk _ hne => ?_⟩
 have hlt : k < w.heap.size := (Array.getElem?_eq_some_iff.1 hk).1
 rw [hg.block k hlt ?_]
 ·exact hk
 ·intro e
  rcases ho.2 with ⟨rfl, _⟩ | ⟨g, cap, cur, rfl, _, hg2, _⟩
  ·simp [Value.ownBlock] at e
  ·simp [Value.ownBlock] at e
   subst e
   rw [hk] at hg2
   cases hg2
   exact hne _ _ rfl
theorem TxS.box {base k : Nat} {w w' : World} {cs : Array Value} {T : TypeId} {fr : Nat × Nat} (h : TxS base w w') (hb : w.heap[k]? = some (.cells cs T fr)) (hT : T ≠ 5) : w'.heap[k]? = some (.cells cs T fr) :=
 h.oth k _ hb (by simp) (fun c fz e => by cases e; exact hT rfl)
theorem TxS.sz {base : Nat} {w w' : World} (h : TxS base w w') (hs : base ≤ w.heap.size) : base ≤ w'.heap.size := Nat.le_trans hs h.bel.size
theorem cellT {W : World} {B : Nat} {c : Array Value} {t : TypeId} {fr : Nat × Nat} (h : W.heap[B]? = some (.cells c t fr)) (j : Nat) (u : Value) (hj : c[j]? = some u) : W.cell? ⟨B, j, none⟩ = some u := by
 simp [World.cell?, h, hj]
theorem PTab.tx {C base : Nat} {w w' : World} (h : PTab C w) (hb : TxS base w w') (hc : C ≤ base) : PTab C w' := Go.Lib.TabBelow.on h (hb.bel.mono hc)

theorem libAppendInt (B n : Nat) (i : Int) (h0 : -9223372036854775808 ≤ i) (h1 : i ≤ 9223372036854775807) (sv : Value) (xs : List Value) (w : World) (hown : w.ownsRow B 5 1 sv n xs) (hBw : B ≤ w.heap.size) (hlim : n + 21 ≤ 140737488355328) (htab : PTab B w) :
  Calls Tryd.prog 49 #[sv, .int .i64 i, .int .i64 10] w fun e w' => ∃ v', e = .returned v' ∧ w'.ownsRow B 5 1 v' (n + (Go.Lib.itoa i).length) (xs ++ Go.Lib.byteCells (Go.Lib.itoa i)) ∧ TxS B w w' :=
 (Any.strconv_AppendInt_10 laysAI B n i h0 h1 sv xs w hown hBw hlim htab).mono fun e w' ⟨v', he, ho, hb, hk⟩ => ⟨v', he, ho, hb, hk⟩

/-- A number's digits, the first ahead. -/
def digL (n : Nat) : List Int := (Go.Lib.decDigits n).map (fun b => (b.toNat : Int))
theorem digL_small {n : Nat} (h : n < 10) : digL n = [48 + (n : Int)] := by
 unfold digL
 rw [Go.Lib.decDigits, dif_pos h]
 simp
 omega
theorem digL_big {n : Nat} (h : ¬ n < 10) : digL n = digL (n / 10) ++ [48 + ((n % 10 : Nat) : Int)] := by
 unfold digL
 rw [Go.Lib.decDigits, dif_neg h]
 simp
 omega
theorem digL_len (n : Nat) : (digL n).length ≤ n + 1 := by
 induction n using Nat.strongRecOn with
 | _ n ih =>
  by_cases h : n < 10
  ·rw [digL_small h]; simp
  ·rw [digL_big h]
   have := ih (n / 10) (by omega)
   simp
   omega
theorem itoa_digL (n : Nat) : Go.Lib.byteCells (Go.Lib.itoa (n : Int)) = (digL n).map (Value.int .u8) := by
 unfold Go.Lib.itoa Go.Lib.byteCells digL
 rw [if_neg (by omega)]
 simp
theorem itoa_len (n : Nat) : (Go.Lib.itoa (n : Int)).length = (digL n).length := by
 unfold Go.Lib.itoa digL
 rw [if_neg (by omega)]
 simp

set_option maxHeartbeats 1000000 in
theorem appendInt_any (base : Nat) (v : Value) (l : List Int) (n : Nat) (w : World) (hv : ownB w base v l) (hbase : base ≤ w.heap.size) (hT : PTab base w) (hn : n ≤ 1000000000) (hlen : l.length ≤ 1000000000000) :
  Calls Tryd.prog 27 #[v, .int .i64 n] w fun e w' => ∃ v', e = .returned v' ∧ ownB w' base v' (l ++ digL n) ∧ TxS base w w' := by
 have HA := hide (libAppendInt base l.length (n : Int) (by omega) (by omega) v _ w hv hbase (by omega) hT)
 go_enter Tryd.func27, Tryd.ntmps27
 go_wp2_with fail
 refine HA.out.mono ?_
 rintro e w1 ⟨v1, rfl, ho, hb⟩
 have HO : Hid (ownB w1 base v1 (l ++ digL n)) := by
  unfold Hid ownB
  rw [itoa_digL, itoa_len] at ho
  simpa using ho
 clear ho
 go_wp2
 go_ret
 exact ⟨_, rfl, HO.out, hb⟩

theorem own_built (w : World) (base : Nat) (x : Int) (hb : base ≤ w.heap.size) : ownB (w.alloc (.cells #[.int .u8 x] 5)) base (.slice (some ⟨w.heap.size, 0, none⟩) 1 1) [x] :=
 ⟨rfl, .inr ⟨w.heap.size, 1, #[.int .u8 x], rfl, hb, heap_alloc_new w _, Nat.le_refl _, by unfold maxLen; omega, rfl, rfl⟩⟩
theorem rd_built (w : World) (x : Int) : Rd (w.alloc (.cells #[.int .u8 x] 5)) (some ⟨w.heap.size, 0, none⟩) [x] := (own_built w w.heap.size x (Nat.le_refl _)).rd

/-- A string behind a row of the call's own. -/
theorem wpList_append_str {w : World} {ops : Array Oper} {rest : List Oper} {o : Oper} {a : Act} {Q : Exit → Act → World → Prop} (hgd : o.guard = none) (s x : Operand)
  (ho : o.op = .call { callee := .builtin .append, args := #[s, x], argTypes := #[28, 9] }) (base : Nat) (v : Value) (l0 : List Int) (hs : a.eval s = v) (hown : ownB w base v l0)
  (b : ByteArray) (l : List Int) (hx : a.eval x = .string b) (hl : b.data.toList.map (fun b => (b.toNat : Int)) = l) (hlen : l0.length + l.length ≤ 1099511627776) (hbase : base ≤ w.heap.size)
  (h : ∀ v' w', ownB w' base v' (l0 ++ l) → TxS base w w' → wpList Tryd.prog ops Q rest (a.put o.dst v') w') : wpList Tryd.prog ops Q (o :: rest) a w := by
 obtain ⟨i0, hi, hz0, hz1, hz2⟩ := info_parts infoU8
 have hsz : b.size = l.length := by rw [← hl]; show b.data.size = _; simp
 refine Go.Lib.wpList_append_own_string _ hgd s x 28 9 ho base 5 i0 Tryd.underlying28 Tryd.underlying9 hi hz0 hz1 hz2 v _ _ hs hown b hx (by unfold maxLen; omega) (by omega) hbase ?_
 intro v' w' h1 h2 _
 refine h v' w' ?_ (TxS.grown h2 hown hbase)
 unfold ownB
 have e : Go.Lib.strCells b = l.map (Value.int .u8) := by rw [← hl]; simp [Go.Lib.strCells]
 rw [e, hsz] at h1
 simpa using h1

theorem own_nilB {w : World} {base n c : Nat} {o : Option Addr} {l : List Int} (h : ownB w base (.slice o n c) l) : o = none → c = 0 := by
 intro e
 rcases h.2 with ⟨h1, _⟩ | ⟨g, cap, cur, h1, _⟩
 ·simp at h1; exact h1.2.2
 ·simp [e] at h1
/-- A row behind a row of the call's own. -/
theorem wpList_append_txt {w : World} {ops : Array Oper} {rest : List Oper} {o : Oper} {a : Act} {Q : Exit → Act → World → Prop} (hgd : o.guard = none) (s x : Operand)
  (ho : o.op = .call { callee := .builtin .append, args := #[s, x], argTypes := #[28, 28] }) (base : Nat) (v : Value) (l0 : List Int) (hs : a.eval s = v) (hown : ownB w base v l0)
  (ob : Option Addr) (c : Nat) (l : List Int) (m : Nat) (hm : m = l.length) (hx : a.eval x = .slice ob m c) (hnil : ob = none → c = 0) (hR : Rd w ob l) (hlen : l0.length + l.length ≤ 1099511627776) (hbase : base ≤ w.heap.size)
  (h : ∀ v' w', ownB w' base v' (l0 ++ l) → TxS base w w' → wpList Tryd.prog ops Q rest (a.put o.dst v') w') : wpList Tryd.prog ops Q (o :: rest) a w :=
 wpList_append_bytes_m hgd s x ho base v l0 hs hown ob c l m hm hx hnil hR hlen hbase (fun v' w' h1 h2 _ => h v' w' h1 (TxS.grown h2 hown hbase))
/-- One byte, laid anew, behind a row of the call's own. -/
theorem wpList_append_one {w : World} {ops : Array Oper} {rest : List Oper} {o : Oper} {a : Act} {Q : Exit → Act → World → Prop} (y : Int) (hgd : o.guard = none) (s x : Operand)
  (ho : o.op = .call { callee := .builtin .append, args := #[s, x], argTypes := #[28, 28] }) (base : Nat) (v : Value) (l0 : List Int) (hs : a.eval s = v) (hown : ownB w base v l0)
  (hx : a.eval x = .slice (some ⟨w.heap.size, 0, none⟩) 1 1) (hlen : l0.length ≤ 1099511627775) (hbase : base ≤ w.heap.size)
  (h : ∀ v' w', ownB w' base v' (l0 ++ [y]) → TxS base w w' → wpList Tryd.prog ops Q rest (a.put o.dst v') w') : wpList Tryd.prog ops Q (o :: rest) a (w.alloc (.cells #[.int .u8 y] 5)) :=
 wpList_append_txt hgd s x ho base v l0 hs (hown.alloc _) _ 1 [y] 1 rfl hx (by intro e; cases e) (rd_built w y) (by simp; omega) (by simp; omega)
  (fun v' w' h1 h2 => h v' w' h1 (((TxS.refl base w).alloc hbase _).trans h2))

set_option maxRecDepth 100000 in
set_option maxHeartbeats 2000000 in
theorem l1digits_any (n : Nat) : n ≤ 1000000000 → ∀ (w : World),
  Calls Tryd.prog 22 #[.int .i64 n] w fun e w' => ∃ v, e = .returned v ∧ ownB w' w.heap.size v (digL n) ∧ Below w.heap.size w w' := by
 induction n using Nat.strongRecOn with
 | _ n ih =>
  intro hn w
  by_cases h : n < 10
  ·have hlt : (n : Int) < 10 := by omega
   have HD := hide (digL_small h)
   have HB := hide (own_built w w.heap.size (48 + (n : Int)) (Nat.le_refl _))
   go_enter Tryd.func22, Tryd.ntmps22
   go_wp2
   go_ret
   exact ⟨_, rfl, by rw [HD.out]; exact HB.out, (Below.refl _ _).alloc (Nat.le_refl _) _⟩
  ·have hlt : ¬ (n : Int) < 10 := by omega
   have HD := hide (digL_big h)
   obtain ⟨q, hq⟩ : ∃ q, n / 10 = q := ⟨_, rfl⟩
   obtain ⟨r, hr⟩ : ∃ r, n % 10 = r := ⟨_, rfl⟩
   have hqi : (n : Int) / 10 = (q : Int) := by omega
   have hri : (n : Int) % 10 = (r : Int) := by omega
   have HC := hide (ih q (by omega) (by omega) w)
   have hr9 : r < 10 := by omega
   have HQ := hide (show q ≤ 1000000000 by omega)
   rw [hq, hr] at HD
   clear ih hq hr h
   go_enter Tryd.func22, Tryd.ntmps22
   go_wp2_with fail
   refine HC.out.mono ?_
   rintro e w1 ⟨v1, rfl, ho1, hb1⟩
   have hs1 := hb1.size
   go_wp2_with (at_builtin; refine wpList_append_bytes_m rfl _ _ rfl w.heap.size v1 (digL q) rfl (ho1.alloc _) (some ⟨w1.heap.size, 0, none⟩) 1 [48 + (r : Int)] 1 rfl rfl (by intro e; cases e) (rd_built w1 _) ?c1 ?c2 ?_)
   case c1 => have := digL_len q; have := HQ.out; simp; omega
   case c2 => simp; omega
   intro v2 w2 ho2 _ hb2
   have HO : Hid (ownB w2 w.heap.size v2 (digL n)) := by unfold Hid; rw [HD.out]; exact ho2
   have HB2 := hide ((hb1.alloc (Nat.le_trans (Nat.le_refl _) hs1) _).trans hb2)
   clear ho2 hb2
   go_wp2
   go_ret
   exact ⟨_, rfl, HO.out, HB2.out⟩
theorem TxS.drew {base : Nat} {w w' : World} (h : TxS base w w') : TxS base w w'.drew := ⟨h.bel.drew, h.oth.drew⟩
/-- A string behind a row of the call's own, as one step of a region that draws its order. -/
theorem step_append_str {ops : Array Oper} {o : Oper} {a : Act} {w : World} {K : Act → World → Prop} {Q : Exit → Act → World → Prop} {E : Prop} (hgd : o.guard = none) (s x : Operand)
  (ho : o.op = .call { callee := .builtin .append, args := #[s, x], argTypes := #[28, 9] }) (base : Nat) (v : Value) (l0 : List Int) (hs : a.eval s = v) (hown : ownB w base v l0)
  (b : ByteArray) (l : List Int) (hx : a.eval x = .string b) (hl : b.data.toList.map (fun b => (b.toNat : Int)) = l) (hlen : l0.length + l.length ≤ 1099511627776) (hbase : base ≤ w.heap.size)
  (h : ∀ v' w', ownB w' base v' (l0 ++ l) → TxS base w w' → w.grownBy w' v.ownBlock → K (a.put o.dst v') w') : if Region.wanted o (yielded ops a.tmps) = true then Oper.wp Tryd.prog o a w K Q else E := by
 have hw : Region.wanted o (yielded ops a.tmps) = true := by simp [Region.wanted, hgd]
 rw [if_pos hw]
 obtain ⟨i0, hi, hz0, hz1, hz2⟩ := info_parts infoU8
 have hsz : b.size = l.length := by rw [← hl]; show b.data.size = _; simp
 obtain ⟨v', w', hr, h2, h3, _⟩ := Go.Lib.run_append_own_string (P := Tryd.prog) w base 28 9 o.type 5 i0 Tryd.underlying28 Tryd.underlying9 hi hz0 hz1 hz2 v _ _ hown b (by unfold maxLen; omega) (by omega) hbase
 unfold Oper.wp
 simp [execOp, ho, resolve, invoke, builtin, hs, hx, hr, Result.andThen]
 refine h v' w' ?_ (TxS.grown h3 hown hbase) h3
 unfold ownB
 have e : Go.Lib.strCells b = l.map (Value.int .u8) := by rw [← hl]; simp [Go.Lib.strCells]
 rw [e, hsz] at h2
 simpa using h2
/-- A row behind a row of the call's own, as one step of a region that draws its order. -/
theorem step_append_txt {ops : Array Oper} {o : Oper} {a : Act} {w : World} {K : Act → World → Prop} {Q : Exit → Act → World → Prop} {E : Prop} (hgd : o.guard = none) (s x : Operand)
  (ho : o.op = .call { callee := .builtin .append, args := #[s, x], argTypes := #[28, 28] }) (base : Nat) (v : Value) (l0 : List Int) (hs : a.eval s = v) (hown : ownB w base v l0)
  (ob : Option Addr) (c : Nat) (l : List Int) (m : Nat) (hm : m = l.length) (hx : a.eval x = .slice ob m c) (hnil : ob = none → c = 0) (hR : Rd w ob l) (hlen : l0.length + l.length ≤ 1099511627776) (hbase : base ≤ w.heap.size)
  (h : ∀ v' w', ownB w' base v' (l0 ++ l) → TxS base w w' → w.grownBy w' v.ownBlock → K (a.put o.dst v') w') : if Region.wanted o (yielded ops a.tmps) = true then Oper.wp Tryd.prog o a w K Q else E := by
 subst hm
 have hw : Region.wanted o (yielded ops a.tmps) = true := by simp [Region.wanted, hgd]
 rw [if_pos hw]
 obtain ⟨i0, hi, hz0, hz1, hz2⟩ := info_parts infoU8
 cases ob with
 | none =>
  have e := hR.nil
  subst e
  have hc := hnil rfl
  subst hc
  have hrun := run_append_owned_none (P := Tryd.prog) (w := w) base 28 o.type 5 i0 1 Tryd.underlying28 hi v _ _ hown
  unfold Oper.wp
  simp [execOp, ho, resolve, invoke, builtin, hs, hx, hrun, Result.andThen]
  exact h v w (by simpa using hown) (TxS.refl _ _) (World.grownBy.refl _ _)
 | some ad =>
  refine wp_append_own _ s x 28 ho base 5 i0 (.int .u8 0) 1 1 Tryd.underlying28 hi hz0 hz1 hz2 rfl (by decide) v _ _ hs hown ad l.length c (l.map (Value.int .u8)) hx (by simp) hR.news (ints_oneCell .u8 l) (by unfold maxLen; omega) (by omega) hbase ?_
  intro v' w' h1 h2 _
  exact h v' w' (by unfold ownB; simpa using h1) (TxS.grown h2 hown hbase) h2
theorem ownB.rdAny {w : World} {base n c : Nat} {o : Option Addr} {l : List Int} (h : w.ownsRow base 5 1 (.slice o n c) n (l.map (Value.int .u8))) : Rd w o l := by
 have hn : n = l.length := by have := h.1; simp at this; omega
 subst hn
 obtain ⟨o', c', e, R⟩ := ownB.open (l := l) h
 cases e
 exact R
/-- A row laid behind another stays as it is when that one grows. -/
theorem own_beside {w w' : World} {b1 b2 n1 n2 : Nat} {v1 v2 : Value} {x1 x2 : List Value} (h1 : w.ownsRow b1 5 1 v1 n1 x1) (hg : w.grownBy w' v2.ownBlock) (hlt : ∀ b, v2.ownBlock = some b → b < b1) : w'.ownsRow b1 5 1 v1 n1 x1 := by
 refine h1.kept hg ?_
 rcases hv : v1.ownBlock with _ | k
 ·exact .inl rfl
 ·refine .inr (fun e => ?_)
  have := (h1.lt k hv).1
  have := hlt k e.symm
  omega

end Go.Proofs.YtmmhgkkcpjhiiaaDoor

/- Pools as text: a line for each who serves, a line for each bucket: the words, and the program's appendBack and appendBucket. -/
namespace Go.Proofs.YtmmhgkkcpjhiiaaDoor
open Go.ChangeShapes Go.WideShapes Go.ChangeAt Go.RowKit Go.Joins
set_option linter.unusedVariables false
set_option linter.unusedSimpArgs false


def drL (z : Bool) : List Int := if z = true then [32, 100, 114, 97, 105, 110, 115] else []
/-- A line for one who serves. -/
def backT (i g : Nat) (z : Bool) : List Int := [98, 97, 99, 107, 32] ++ (digL i ++ ([32, 119, 101, 105, 103, 104, 116, 32] ++ (digL g ++ (drL z ++ [10]))))
theorem backT_eq (l : List Int) (i g : Nat) (z : Bool) : ((((l ++ [98, 97, 99, 107, 32]) ++ digL i) ++ [32, 119, 101, 105, 103, 104, 116, 32]) ++ digL g) ++ drL z ++ [10] = l ++ backT i g z := by simp [backT]
theorem backT_len (i g : Nat) (z : Bool) : (backT i g z).length ≤ i + g + 23 := by
 have := digL_len i; have := digL_len g
 have : (drL z).length ≤ 7 := by unfold drL; split <;> simp
 simp [backT]; omega
/-- The lines of the first k who serve. -/
def backsT (l : List Bk) : Nat → List Int
 | 0 => []
 | k + 1 => backsT l k ++ backT (l.getD k (0, 0, false)).1.toNat (l.getD k (0, 0, false)).2.1.toNat (l.getD k (0, 0, false)).2.2
/-- The first k of a bucket. -/
def idsT (l : List Int) : Nat → List Int
 | 0 => []
 | k + 1 => idsT l k ++ ([32] ++ digL (l.getD k 0).toNat)
def bucketT (i : Nat) (l : List Int) : List Int := [98, 117, 99, 107, 101, 116, 32] ++ (digL i ++ (idsT l l.length ++ [10]))
theorem bucketT_eq (l : List Int) (i : Nat) (p : List Int) : (((l ++ [98, 117, 99, 107, 101, 116, 32]) ++ digL i) ++ idsT p p.length) ++ [10] = l ++ bucketT i p := by simp [bucketT]
def linesT (ll : List (List Int)) : Nat → List Int
 | 0 => []
 | k + 1 => linesT ll k ++ bucketT k (ll.getD k [])
def poolTL (m : Pm) : List Int := backsT m.l m.l.length ++ linesT (m.ring.getD 0 []) (m.ring.getD 0 []).length
def poolT (m : Pm) : List Int := if poolB m = true then poolTL m else []
theorem idsT_len {l : List Int} (h : ∀ j, j < l.length → idB (l.getD j 0) = true) : ∀ k, k ≤ l.length → (idsT l k).length ≤ 7 * k := by
 intro k
 induction k with
 | zero => intro _; simp [idsT]
 | succ k ih =>
  intro hk
  have h1 := ih (by omega)
  have h2 := digL_len (l.getD k 0).toNat
  have h3 := h k (by omega)
  simp [idB] at h3
  simp only [idsT, List.length_append, List.length_cons, List.length_nil]
  have : (l.getD k 0).toNat ≤ 5 := by
   simp only [List.getD_eq_getElem?_getD] at *
   omega
  omega

set_option maxRecDepth 100000 in
set_option maxHeartbeats 4000000 in
theorem appendBack_any (base : Nat) (v : Value) (l : List Int) (i g : Nat) (z : Bool) (w : World) (hv : ownB w base v l) (hbase : base ≤ w.heap.size) (hT : PTab base w) (hi : i ≤ 1000000) (hg : g ≤ 1000000) (hlen : l.length ≤ 500000000) :
  Calls Tryd.prog 38 #[v, .agg #[.int .i64 i, .int .i64 g, .bool z]] w fun e w' => ∃ v', e = .returned v' ∧ ownB w' base v' (l ++ backT i g z) ∧ TxS base w w' := by
 have hla := digL_len i
 have hlg := digL_len g
 obtain ⟨W0, hW0⟩ : ∃ W, (w.alloc (.cells #[.int .i64 i, .int .i64 g, .bool z] 70)) = W := ⟨_, rfl⟩
 have bx : W0.heap[w.heap.size]? = some (.cells #[.int .i64 i, .int .i64 g, .bool z] 70 (0, 0)) := by rw [← hW0]; exact heap_alloc_new w _
 have hB0 : Below w.heap.size w W0 := by rw [← hW0]; exact (Below.refl _ _).alloc (Nat.le_refl _) _
 have ho0 : ownB W0 base v l := own_kept hv hB0
 have t0 : TxS base w W0 := TxS.below hB0 hbase
 have hs0 := t0.sz hbase
 replace hT := hT.tx t0 (Nat.le_refl _)
 clear hB0 hv
 obtain ⟨ov, cv, ev, _⟩ := ho0.open
 subst ev
 have bxc0 : W0.cell? ⟨w.heap.size, 0, none⟩ = some (.int .i64 i) := cellT bx 0 _ rfl
 go_enter Tryd.func38, Tryd.ntmps38
 go_wp2
 go_region_law (first | (go_simp; go_at_call 27; refine (appendInt_any base vap _ i wap hoap zap Tap (by omega) (by simp only [List.length_append, List.length_cons, List.length_nil]; omega)).mono ?_; rintro e wbp ⟨vbp, rfl, hobp, sbp⟩; dsimp only) | (refine step_append_str rfl (.tmp 5) _ rfl base (.slice ov l.length cv) l rfl ho0.drew _ [98, 97, 99, 107, 32] rfl rfl (by simp only [List.length_cons, List.length_nil]; omega) hs0 ?_; intro vap wap hoap sap gap; have bap := sap.box (show W0.drew.heap[w.heap.size]? = _ from bx) (by decide); have cap := cellT bap 0 _ rfl; have zap := sap.sz hs0; have tap := (TxS.refl base W0).drew.trans sap; have Tap := hT.tx tap (Nat.le_refl _)))
 all_goals (
  obtain ⟨K2, hK2⟩ : ∃ q, (l ++ [98, 97, 99, 107, 32]) ++ digL i = q := ⟨_, rfl⟩
  rw [hK2] at hobp
  have bK2 : K2.length ≤ 501000010 := by rw [← hK2, List.length_append, List.length_append]; simp only [List.length_cons, List.length_nil]; omega
  have EK2 := hide hK2
  have tp := tap.trans sbp
  have bx2 := tp.box bx (by decide)
  have hs2 := tp.sz hs0
  have hT2 := hT.tx tp (Nat.le_refl _)
  have HS2 := hide (t0.trans tp)
  clear hK2 bxc0 hT tp
  rename PTab base wbp => hT
  obtain ⟨ow, cw, ew, _⟩ := hobp.open
  subst ew
  have bxc1 : wbp.cell? ⟨w.heap.size, 1, none⟩ = some (.int .i64 g) := cellT bx2 1 _ rfl
  go_wp2
  go_region_law (first | (go_simp; go_at_call 27; refine (appendInt_any base vaq _ g waq hoaq zaq Taq (by omega) (by simp only [List.length_append, List.length_cons, List.length_nil]; omega)).mono ?_; rintro e wbq ⟨vbq, rfl, hobq, sbq⟩; dsimp only) | (refine step_append_str rfl (.tmp 10) _ rfl base (.slice ow K2.length cw) K2 rfl hobp.drew _ [32, 119, 101, 105, 103, 104, 116, 32] rfl rfl (by simp only [List.length_cons, List.length_nil]; omega) hs2 ?_; intro vaq waq hoaq saq gaq; have baq := saq.box (show wbp.drew.heap[w.heap.size]? = _ from bx2) (by decide); have caq := cellT baq 1 _ rfl; have zaq := saq.sz hs2; have taq := (TxS.refl base wbp).drew.trans saq; have Taq := hT.tx taq (Nat.le_refl _)))
  all_goals (
   obtain ⟨K4, hK4⟩ : ∃ q, (K2 ++ [32, 119, 101, 105, 103, 104, 116, 32]) ++ digL g = q := ⟨_, rfl⟩
   rw [hK4] at hobq
   have bK4 : K4.length ≤ 502000030 := by rw [← hK4, List.length_append, List.length_append]; simp only [List.length_cons, List.length_nil]; omega
   have EK4 := hide hK4
   have tq := taq.trans sbq
   have bx4 := tq.box bx2 (by decide)
   have hs4 := tq.sz hs2
   have HS4 := hide (HS2.out.trans tq)
   clear hK4 bxc1 tq
   have bxc2 : wbq.cell? ⟨w.heap.size, 2, none⟩ = some (.bool z) := cellT bx4 2 _ rfl
   cases z with
   | true =>
    go_wp2_with (at_builtin; refine wpList_append_str rfl _ _ rfl base _ K4 rfl hobq _ [32, 100, 114, 97, 105, 110, 115] rfl rfl ?c5 hs4 ?_)
    case c5 => simp only [List.length_cons, List.length_nil]; omega
    intro x5 y5 ho5 st5
    obtain ⟨K5, hK5⟩ : ∃ q, K4 ++ [32, 100, 114, 97, 105, 110, 115] = q := ⟨_, rfl⟩
    rw [hK5] at ho5
    have bK5 : K5.length ≤ 502000050 := by rw [← hK5, List.length_append]; simp only [List.length_cons, List.length_nil]; omega
    have EK5 := hide hK5
    have hs5 := st5.sz hs4
    have HS5 := hide (HS4.out.trans st5)
    clear hK5 hobq st5 bxc2 bx4
    go_wp2_with (at_builtin; refine wpList_append_one 10 rfl _ _ rfl base x5 K5 rfl ho5 rfl ?c6 hs5 ?_)
    case c6 => omega
    intro x6 y6 ho6 st6
    have HO : Hid (ownB y6 base x6 (l ++ backT i g true)) := by unfold Hid; rw [← backT_eq, EK2.out, EK4.out, show drL true = [32, 100, 114, 97, 105, 110, 115] from rfl, EK5.out]; exact ho6
    have HX := hide (HS5.out.trans st6)
    clear ho5 ho6 st6
    go_wp2
    go_ret
    exact ⟨_, rfl, HO.out, HX.out⟩
   | false =>
    go_wp2_with (at_builtin; refine wpList_append_one 10 rfl _ _ rfl base _ K4 rfl hobq rfl ?c6 hs4 ?_)
    case c6 => omega
    intro x6 y6 ho6 st6
    have HO : Hid (ownB y6 base x6 (l ++ backT i g false)) := by unfold Hid; rw [← backT_eq, EK2.out, EK4.out, show drL false = [] from rfl, List.append_nil]; exact ho6
    have HX := hide (HS4.out.trans st6)
    clear hobq ho6 st6
    go_wp2
    go_ret
    exact ⟨_, rfl, HO.out, HX.out⟩))

set_option maxRecDepth 100000 in
set_option maxHeartbeats 4000000 in
theorem appendBucket_any (base : Nat) (v : Value) (l : List Int) (i : Nat) (o : Option Addr) (cap : Nat) (p : List Int) (w : World) (hv : ownB w base v l) (hbase : base ≤ w.heap.size) (hT : PTab base w) (hi : i ≤ 1000000) (hR : RdI base w o p) (hp : p.length ≤ 2) (hid : ∀ j, j < p.length → idB (p.getD j 0) = true) (hlen : l.length ≤ 500000000) :
  Calls Tryd.prog 39 #[v, .int .i64 i, .slice o p.length cap] w fun e w' => ∃ v', e = .returned v' ∧ ownB w' base v' (l ++ bucketT i p) ∧ TxS base w w' := by
 have hla := digL_len i
 have HID := hide (fun k (h : k ≤ p.length) => idsT_len hid k h)
 have HI5 := hide (fun k (h : k < p.length) => (show 0 ≤ p.getD k 0 ∧ p.getD k 0 ≤ 5 by have h9 := hid k h; unfold idB at h9; rw [Bool.and_eq_true, decide_eq_true_eq, decide_eq_true_eq] at h9; omega))
 have t0 : TxS base w w := TxS.refl _ _
 go_enter Tryd.func39, Tryd.ntmps39
 go_wp2_with (at_builtin; refine wpList_append_str rfl _ _ rfl base v l rfl hv _ [98, 117, 99, 107, 101, 116, 32] rfl rfl ?c1 hbase ?_)
 case c1 => simp only [List.length_cons, List.length_nil]; omega
 intro x1 y1 ho1 st1
 have hs1 := st1.sz hbase
 have hT1 := hT.tx st1 (Nat.le_refl _)
 go_wp2_with fail
 refine (appendInt_any base x1 _ i y1 ho1 hs1 hT1 (by omega) (by simp only [List.length_append, List.length_cons, List.length_nil]; omega)).mono ?_
 rintro e y2 ⟨x2, rfl, ho2, st2⟩
 obtain ⟨K2, hK2⟩ : ∃ q, (l ++ [98, 117, 99, 107, 101, 116, 32]) ++ digL i = q := ⟨_, rfl⟩
 rw [hK2] at ho2
 have bK2 : K2.length ≤ 501000010 := by rw [← hK2, List.length_append, List.length_append]; simp only [List.length_cons, List.length_nil]; omega
 have EK2 := hide hK2
 have hs2 := st2.sz hs1
 have hT2 := hT1.tx st2 (Nat.le_refl _)
 have hS2 := st1.trans st2
 have HS2 := hide hS2
 have HO2 := hide ho2
 clear hK2 ho1 ho2 st1 st2 hT1 hv t0
 go_wp2
 go_loopw [0, 15] (fun tv iv wr => ∃ k : Nat, k ≤ p.length ∧ iv = .int .i64 k ∧ ownB wr base tv (K2 ++ idsT p k) ∧ TxS base y2 wr)
  (fun _ iv _ => p.length - (intOf iv).toNat)
 case atStart => exact ⟨0, Nat.zero_le _, rfl, by simpa [idsT] using HO2.out, TxS.refl _ _⟩
 case round =>
  obtain ⟨k, hk, rfl, ho, sr⟩ := hrel
  have hsr := sr.sz hs2
  have hlk := HID.out k hk
  by_cases hlt : k < p.length
  ·rcases hR with hR | ⟨b, off, rfl, hbl, hcell⟩
   ·subst hR; simp at hlt
   have hc0 := RdL.int hcell k hlt
   have hc : wr.cell? ⟨b, off + k, none⟩ = some (.int .i64 (p.getD k 0)) := ((HS2.out.trans sr).bel.cell (p := ⟨b, off + k, none⟩) hbl).trans hc0
   obtain ⟨h5a, h5b⟩ := HI5.out k hlt
   obtain ⟨x, hx⟩ : ∃ x : Nat, p.getD k 0 = x := ⟨(p.getD k 0).toNat, by omega⟩
   have HSU := hide (show idsT p (k + 1) = idsT p k ++ ([32] ++ digL x) by rw [show (x : Nat) = (p.getD k 0).toNat by omega]; rfl)
   rw [hx] at hc h5a h5b
   obtain ⟨K, hK⟩ : ∃ q, K2 ++ idsT p k = q := ⟨_, rfl⟩
   have hKl : K.length ≤ 501000100 := by rw [← hK, List.length_append]; omega
   rw [hK] at ho
   have HK := hide hK
   have HSR := hide sr
   have hTr := hT2.tx sr (Nat.le_refl _)
   have z1 : (k : Int) < (p.length : Int) := by omega
   clear hK hcell hc0 sr hx
   go_wp2_with (at_builtin; refine wpList_append_one 32 rfl _ _ rfl base _ K rfl ho rfl ?c3 hsr ?_)
   case c3 => omega
   intro x3 y3 ho3 st3
   have hs3 := st3.sz hsr
   have hT3 := hTr.tx st3 (Nat.le_refl _)
   go_wp2_with fail
   refine (appendInt_any base x3 _ x y3 ho3 hs3 hT3 (by omega) (by simp only [List.length_append, List.length_cons, List.length_nil]; omega)).mono ?_
   rintro e y4 ⟨x4, rfl, ho4, st4⟩
   have HO4 : Hid (ownB y4 base x4 (K2 ++ idsT p (k + 1))) := by unfold Hid; rw [HSU.out, ← List.append_assoc, ← List.append_assoc, HK.out]; exact ho4
   have HS4 := hide (HSR.out.trans (st3.trans st4))
   clear ho ho3 ho4 st3 st4 hT3 hTr hc
   go_wp2
   go_roundw
   case rel => exact ⟨k + 1, by omega, by go_num, HO4.out, HS4.out⟩
   case measure => simp [intOf]; omega
  ·have hke : k = p.length := by omega
   subst hke
   obtain ⟨K, hK⟩ : ∃ q, K2 ++ idsT p p.length = q := ⟨_, rfl⟩
   have hKl : K.length ≤ 501000100 := by rw [← hK, List.length_append]; omega
   rw [hK] at ho
   have HK := hide hK
   have HSR := hide (HS2.out.trans sr)
   have z1 : ¬ ((p.length : Int) < (p.length : Int)) := by omega
   clear hK sr hR hT2
   go_wp2_with (at_builtin; refine wpList_append_one 10 rfl _ _ rfl base _ K rfl ho rfl ?c3 hsr ?_)
   case c3 => omega
   intro x3 y3 ho3 st3
   have HO : Hid (ownB y3 base x3 (l ++ bucketT i p)) := by unfold Hid; rw [← bucketT_eq, EK2.out, HK.out]; exact ho3
   have HX := hide (HSR.out.trans st3)
   clear ho ho3 st3
   go_wp2
   go_ret
   exact ⟨_, rfl, HO.out, HX.out⟩

end Go.Proofs.YtmmhgkkcpjhiiaaDoor

/- Moved on both sides. -/
namespace Go.Proofs.YtmmhgkkcpjhiiaaDoor
open Go.ChangeShapes Go.WideShapes Go.ChangeAt Go.RowKit Go.Joins
set_option linter.unusedVariables false
set_option linter.unusedSimpArgs false

/-- How many of the first k rows are unlike. -/
def movedTo (aa bb : List (List Int)) : Nat → Int
 | 0 => 0
 | k + 1 => movedTo aa bb k + (if aa.getD k [] = bb.getD k [] then 0 else 1)
theorem movedTo_bd (aa bb : List (List Int)) : ∀ k, 0 ≤ movedTo aa bb k ∧ movedTo aa bb k ≤ k
 | 0 => ⟨Int.le_refl _, Int.le_refl _⟩
 | k + 1 => by have := movedTo_bd aa bb k; unfold movedTo; split <;> omega
def movedI (aa bb : List (List Int)) : Int := if aa.length = 8 ∧ bb.length = 8 then movedTo aa bb 8 else -1

theorem movedI_no {aa bb : List (List Int)} (h : ¬ (aa.length = 8 ∧ bb.length = 8)) : -1 = movedI aa bb := by rw [movedI, if_neg h]
theorem movedTo_same {aa bb : List (List Int)} {k : Nat} {ra rb : List Int} (h1 : aa.getD k [] = ra) (h2 : bb.getD k [] = rb) (h : ra = rb) : movedTo aa bb k = movedTo aa bb (k + 1) := by
 unfold movedTo; rw [h1, h2, if_pos h]; cases k <;> simp [movedTo]
theorem movedTo_diff {aa bb : List (List Int)} {k : Nat} {ra rb : List Int} (h1 : aa.getD k [] = ra) (h2 : bb.getD k [] = rb) (h : ra ≠ rb) : movedTo aa bb k + 1 = movedTo aa bb (k + 1) := by
 rw [show movedTo aa bb (k + 1) = movedTo aa bb k + (if aa.getD k [] = bb.getD k [] then 0 else 1) from rfl, h1, h2, if_neg h]

set_option maxHeartbeats 2000000 in
theorem specMoved_any (oa ob : Option Addr) (ca cb : Nat) (aa bb : List (List Int)) (w : World) (hA : RdLL w.heap.size w oa aa) (hB : RdLL w.heap.size w ob bb) (la : aa.length ≤ 1048576) (lb : bb.length ≤ 1048576)
  (xa : ∀ i, i < aa.length → (aa.getD i []).length ≤ 1048576) (xb : ∀ i, i < bb.length → (bb.getD i []).length ≤ 1048576) :
  Calls Tryd.prog 59 #[.slice oa aa.length ca, .slice ob bb.length cb] w fun e w' => e = .returned (.int .i64 (movedI aa bb)) ∧ Below w.heap.size w w' := by
 by_cases h8 : aa.length = 8 ∧ bb.length = 8
 ·have HE := hide (show movedTo aa bb 8 = movedI aa bb by rw [movedI, if_pos h8])
  obtain ⟨e1, e2⟩ := h8
  have HE1 := hide e1
  have HE2 := hide e2
  go_enter Tryd.func59, Tryd.ntmps59
  go_wp2
  have la8 : aa.length ≤ 8 := by omega
  have lb8 : 8 ≤ aa.length := by omega
  clear e1 e2
  go_loopw [5, 6] (fun n i wr => ∃ k : Nat, k ≤ 8 ∧ i = .int .i64 k ∧ n = .int .i64 (movedTo aa bb k) ∧ Below w.heap.size w wr)
   (fun _ i _ => 8 - (intOf i).toNat)
  case atStart => exact ⟨0, Nat.zero_le _, rfl, rfl, Below.refl _ _⟩
  case round =>
   obtain ⟨k, hk, rfl, rfl, hBr⟩ := hrel
   have hbd := movedTo_bd aa bb k
   by_cases hlt : k < 8
   ·have i1 : k < aa.length := by rw [HE1.out]; exact hlt
    have i2 : k < bb.length := by rw [HE2.out]; exact hlt
    have j1 : (k : Int) < (aa.length : Int) := by omega
    have j2 : (k : Int) < (bb.length : Int) := by omega
    obtain ⟨b1, off1, o1', c1', rfl, hb1, hc1, hr1⟩ := hA.at (Nat.le_refl _) k i1
    obtain ⟨b2, off2, o2', c2', rfl, hb2, hc2, hr2⟩ := hB.at (Nat.le_refl _) k i2
    have hxa := xa k i1
    have hxb := xb k i2
    have hc1r := (hBr.cell (p := ⟨b1, off1 + k, none⟩) hb1).trans hc1
    have hc2r := (hBr.cell (p := ⟨b2, off2 + k, none⟩) hb2).trans hc2
    have HB := hide hBr
    clear xa xb hA hB hBr
    generalize hra : aa.getD k [] = ra at *
    generalize hrb : bb.getD k [] = rb at *
    have HS := hide (movedTo_same hra hrb)
    have HD := hide (movedTo_diff hra hrb)
    clear hra hrb
    go_wp2
    go_quiet (fail)
    have hBq : Below w.heap.size w (wr.drewN nq) := below_drewN HB.out _
    have hq1 := (hBq.cell (p := ⟨b1, off1 + k, none⟩) hb1).trans hc1
    have hq2 := (hBq.cell (p := ⟨b2, off2 + k, none⟩) hb2).trans hc2
    clear HB hc1r hc2r
    generalize wr.drewN nq = wo at *
    have HBo := hide hBq
    clear hBq
    go_wp2
    go_loopw [7, 8] (fun s j wi => ∃ (q : Nat) (t : Bool), q ≤ ra.length ∧ j = .int .i64 q ∧ s = .bool t ∧ (t = true ↔ ra.length = rb.length ∧ ra.take q = rb.take q) ∧ Below w.heap.size w wi)
     (fun _ j _ => ra.length - (intOf j).toNat)
    case atStart => exact ⟨0, _, Nat.zero_le _, rfl, rfl, by simp [Int.ofNat_inj], HBo.out⟩
    case round =>
     obtain ⟨q, t, hq, rfl, rfl, ht, hBi⟩ := hrel
     have HT := hide ht
     have HBi := hide hBi
     have r1 := (hBi.cell (p := ⟨b1, off1 + k, none⟩) hb1).trans hc1
     have r2 := (hBi.cell (p := ⟨b2, off2 + k, none⟩) hb2).trans hc2
     clear ht hBi hq1 hq2
     by_cases hql : q < ra.length
     ·cases t with
      | true =>
       obtain ⟨HL, HTk⟩ := HT.out.1 rfl
       have hqr : q < rb.length := by omega
       have z1 : (q : Int) < (ra.length : Int) := by omega
       have z2 : (q : Int) < (rb.length : Int) := by omega
       have HL' := hide HL
       have HTk' := hide HTk
       rcases hr1 with hr1 | ⟨g1, f1, rfl, hg1, hcell1⟩
       ·subst hr1; simp at hql
       rcases hr2 with hr2 | ⟨g2, f2, rfl, hg2, hcell2⟩
       ·subst hr2; simp at hqr
       have y1 : wr.cell? ⟨g1, f1 + q, none⟩ = some (.int .i64 (ra.getD q 0)) := (HBi.out.cell (p := ⟨g1, f1 + q, none⟩) hg1).trans (RdL.int hcell1 q hql)
       have y2 : wr.cell? ⟨g2, f2 + q, none⟩ = some (.int .i64 (rb.getD q 0)) := (HBi.out.cell (p := ⟨g2, f2 + q, none⟩) hg2).trans (RdL.int hcell2 q hqr)
       have t1 := hide (take_succ_getD ra q hql)
       have t2 := hide (take_succ_getD rb q hqr)
       clear hcell1 hcell2 HT HL HTk hc1 hc2
       generalize ra.getD q 0 = x at *
       generalize rb.getD q 0 = y at *
       go_wp2
       go_quiet (fail)
       go_wp2
       go_roundw
       case rel =>
        refine ⟨q + 1, _, by omega, by go_num, rfl, ?_, below_drewN HBi.out _⟩
        rw [t1.out, t2.out, HTk'.out, List.append_cancel_left_eq]
        simp [HL'.out]
       case measure => simp [intOf]; omega
      | false =>
       have HN : Hid (ra ≠ rb) := fun h => by
        have := HT.out.2 ⟨by rw [h], by rw [h]⟩
        cases this
       have HM := hide (HD.out HN.out)
       have z1 : (q : Int) < (ra.length : Int) := by omega
       clear HT hc1 hc2
       go_wp2
       go_roundw
       case rel => exact ⟨k + 1, by omega, by go_num, by rw [← HM.out], HBi.out⟩
       case measure => simp [intOf]; omega
     ·have eq : q = ra.length := by omega
      subst eq
      have z1 : ¬ (ra.length : Int) < (ra.length : Int) := by omega
      cases t with
      | true =>
       have HY : Hid (ra = rb) := by
        obtain ⟨h1, h2⟩ := HT.out.1 rfl
        rw [List.take_of_length_le (Nat.le_refl _), List.take_of_length_le (by omega)] at h2
        exact h2
       have HM := hide (HS.out HY.out)
       clear HT hc1 hc2
       go_wp2
       go_roundw
       case rel => exact ⟨k + 1, by omega, by go_num, by rw [HM.out], HBi.out⟩
       case measure => simp [intOf]; omega
      | false =>
       have HN : Hid (ra ≠ rb) := fun h => by
        have := HT.out.2 ⟨by rw [h], by rw [h]⟩
        cases this
       have HM := hide (HD.out HN.out)
       clear HT hc1 hc2
       go_wp2
       go_roundw
       case rel => exact ⟨k + 1, by omega, by go_num, by rw [← HM.out], HBi.out⟩
       case measure => simp [intOf]; omega
   ·have e : k = 8 := by omega
    subst e
    have nl : ¬ (8 : Int) < (aa.length : Int) := by omega
    go_wp2
    go_ret
    exact ⟨ret_int HE.out, hBr⟩
 ·have HN := hide (movedI_no h8)
  by_cases h1 : aa.length = 8
  ·have h2 : ¬ bb.length = 8 := fun h => h8 ⟨h1, h⟩
   have n2 : ((bb.length : Int) != 8) = true := by simp; omega
   go_enter Tryd.func59, Tryd.ntmps59
   go_wp2
   go_ret
   exact ⟨ret_int HN.out, Below.refl _ _⟩
  ·have n1 : ((aa.length : Int) != 8) = true := by simp; omega
   go_enter Tryd.func59, Tryd.ntmps59
   go_wp2
   go_ret
   exact ⟨ret_int HN.out, Below.refl _ _⟩

end Go.Proofs.YtmmhgkkcpjhiiaaDoor

/- Pools as an argument of the laws: how they are opened, counted and copied. -/
namespace Go.Proofs.YtmmhgkkcpjhiiaaDoor
open Go.ChangeShapes Go.WideShapes Go.ChangeAt Go.RowKit Go.Joins
set_option linter.unusedVariables false
set_option linter.unusedSimpArgs false

theorem bx_allP {W : World} {B : Nat} {x y z : Value} {T : TypeId} (h : W.heap[B]? = some (.cells #[x, y, z] T (0, 0))) : W.cell? ⟨B, 0, none⟩ = some x ∧ W.cell? ⟨B, 1, none⟩ = some y ∧ W.cell? ⟨B, 2, none⟩ = some z ∧ W.frozen? ⟨B, 0, none⟩ = false ∧ W.frozen? ⟨B, 1, none⟩ = false ∧ W.frozen? ⟨B, 2, none⟩ = false :=
 ⟨bx_cell h 0 _ rfl, bx_cell h 1 _ rfl, bx_cell h 2 _ rfl, bx_frozen h 0, bx_frozen h 1, bx_frozen h 2⟩
theorem setP_belowT {C : Nat} {w W : World} {B : Nat} (h : Below C w W) (hB : C ≤ B) (x y z : Value) : Below C w (setP W B x y z) := ((h.setCell (p := ⟨B, 0, none⟩) hB _).setCell (p := ⟨B, 1, none⟩) hB _).setCell (p := ⟨B, 2, none⟩) hB _
theorem setP_sizeT (W : World) (B : Nat) (x y z : Value) : (setP W B x y z).heap.size = W.heap.size := by simp [World.setCell]
theorem stp_setT (W : World) (B : Nat) (x y z : Value) : Stp B (B + 1) W (setP W B x y z) := ((stp_set W B 0 x).trans (stp_set _ B 1 y)).trans (stp_set _ B 2 z)
theorem in_monoT {lo lo' hi : Nat} {w : World} {v : Value} {m : Pm} (h : InPm lo hi w v m) (hl : lo' ≤ lo) : InPm lo' hi w v m := by
 obtain ⟨vb, vr, mid, e, k1, k2, h1, h2⟩ := h
 exact ⟨vb, vr, mid, e, by omega, k2, InRow.mono h1 hl (Nat.le_refl _), h2⟩
theorem box_new3 (w : World) (c : Array Value) (T : TypeId) (o1 o2 : Obj) : (((w.alloc o1).alloc o2).alloc (.cells c T)).heap[w.heap.size + 1 + 1]? = some (.cells c T (0, 0)) := by
 have h := World.alloc_heap_new ((w.alloc o1).alloc o2) (.cells c T)
 rw [World.size_alloc, World.size_alloc] at h
 exact h
theorem box_mid3 (w : World) (c : Array Value) (T : TypeId) (o1 o2 : Obj) : (((w.alloc o1).alloc (.cells c T)).alloc o2).heap[w.heap.size + 1]? = some (.cells c T (0, 0)) := by
 have h := box_new2 w c T o1
 exact (Below.heap_alloc _ _ _ (by simp)).trans h
theorem fillU_step {T : TypeId} {wr : World} {base g : Nat} {hs : List Hd} {k n : Nat} {o : Option Addr} {m c : Nat} (hk : k < n) (hl : hs.length = k) (h : wr.ownsRow base T 1 (.slice (some ⟨g, 0, none⟩) n n) n ((hs ++ List.replicate (n - k) layH.d).flatMap layH.cs)) :
  (wr.setCell ⟨g, k, none⟩ (.slice o m c)).ownsRow base T 1 (.slice (some ⟨g, 0, none⟩) n n) n (((hs ++ [(o, m, c)]) ++ List.replicate (n - (k + 1)) layH.d).flatMap layH.cs) := by
 have h1 := (h.stored k (.slice o m c)).1
 rw [flat_set1 layH rfl (a := (o, m, c)) rfl] at h1
 have e1 : n - k = (n - (k + 1)) + 1 := by omega
 rw [e1, List.replicate_succ, List.set_append_right _ _ (by omega), hl, Nat.sub_self, List.set_cons_zero] at h1
 rw [List.append_assoc]
 exact h1
theorem RiT.at {a C : Nat} {w : World} {o : Option Addr} {n c : Nat} {ll : List (List Int)} (h : RiT a C w (.slice o n c) ll) (hC : C ≤ w.heap.size) (i : Nat) (hi : i < ll.length) : ∃ b off o' c', o = some ⟨b, off, none⟩ ∧ b < C ∧ w.cell? ⟨b, off + i, none⟩ = some (.slice o' (ll.getD i []).length c') ∧ RdI C w o' (ll.getD i []) := by
 obtain ⟨hs, h0, h1, h2⟩ := h
 obtain ⟨o1, c1, e, r⟩ := h1.open
 injection e with e1 e2 e3
 subst e1
 rcases r with r | ⟨b, off, ho, hb, r⟩
 ·subst r; simp at h0; omega
 ·obtain ⟨o', c', e', r'⟩ := (h2 i hi).open
  have hc := RdL.head r i (by omega)
  unfold hv at e'
  rw [e'] at hc
  exact ⟨b, off, o', c', ho, hb, hc, r'⟩

set_option maxRecDepth 100000 in
set_option maxHeartbeats 2000000 in
theorem toIntSS_in (v : Value) (xs : List (List Int)) (w : World) (hR : RiT 0 w.heap.size w v xs) (hlen : xs.length ≤ 1048576) (hx : ∀ i, i < xs.length → (xs.getD i []).length ≤ 1048576) :
  Calls Tryd.prog 63 #[v] w fun e w' => ∃ v', e = .returned v' ∧ InT w.heap.size w'.heap.size w' v' xs ∧ Below w.heap.size w w' := by
 obtain ⟨o, cap, ev⟩ : ∃ o c, v = .slice o xs.length c := by
  obtain ⟨hs, h0, ⟨o, c, e, _⟩, _⟩ := hR
  exact ⟨o, c, by rw [e, h0]⟩
 subst ev
 obtain ⟨i0, hi, hz0, hz1, hz2⟩ := info_parts infoIntS
 have HR0 := hide hR
 clear hR
 go_enter Tryd.func63, Tryd.ntmps63
 go_wp2_with (at_make; refine wpList_make_full _ rfl _ _ 71 rfl w.heap.size 72 i0 (.slice none 0 0) 1 Tryd.underlying71 hi hz0 hz1 _ _ _ _ xs.length rfl rfl rfl rfl ?b2 ?b3 ?b4 ?_)
 case b2 => rw [hz2]; omega
 case b3 => unfold maxLen; omega
 case b4 => simp
 intro w3 hown hgrow
 have HB3 := hide (show Below w.heap.size w w3 from (Below.refl _ _).grown hgrow (Nat.le_refl _) (fun k h => by cases h))
 have HO3 : Hid (w3.ownsRow w.heap.size 72 1 (.slice (some ⟨w.heap.size, 0, none⟩) xs.length xs.length) xs.length ((([] : List Hd) ++ List.replicate (xs.length - 0) layH.d).flatMap layH.cs)) := by
  rw [List.nil_append, Nat.sub_zero, ← made_flat layH (.slice none 0 0) rfl, show layH.k = 1 from rfl, Nat.mul_one]; exact hown
 have hs3 : w.heap.size + 1 ≤ w3.heap.size := (hown.lt w.heap.size rfl).2
 clear hown hgrow
 go_wp2
 go_loopw [4] (fun iv wr => ∃ (k : Nat) (hs : List Hd) (L H : Nat → Nat), k ≤ xs.length ∧ iv = .int .i64 (k : Int) ∧ Hid (wr.ownsRow w.heap.size 72 1 (.slice (some ⟨w.heap.size, 0, none⟩) xs.length xs.length) xs.length ((hs ++ List.replicate (xs.length - k) layH.d).flatMap layH.cs)) ∧ Hid (Rw InI [] (xs.take k) (w.heap.size + 1) wr.heap.size wr hs L H) ∧ Hid (Below w.heap.size w wr) ∧ w.heap.size + 1 ≤ wr.heap.size)
  (fun iv _ => xs.length - (intOf iv).toNat)
 case atStart => exact ⟨0, [], fun _ => 0, fun _ => 0, Nat.zero_le _, rfl, HO3.out, by rw [List.take_zero]; exact Rw.nil _ _ _ _ _ _ _, HB3.out, hs3⟩
 case round =>
  obtain ⟨k, hs, L, H, hk8, rfl, HO, HR, HBr, hsr⟩ := hrel
  clear HO3 HB3 hs3
  have hhl : hs.length = k := by have h1 := HR.out.len; rw [List.length_take] at h1; omega
  by_cases hlt : k < xs.length
  ·have z1 : (k : Int) < (xs.length : Int) := by omega
   have HS := hide (show xs.take (k + 1) = xs.take k ++ [xs.getD k []] by rw [List.take_succ_eq_append_getElem hlt]; simp [hlt])
   obtain ⟨b, off, o', c', rfl, hbl, hc0, hr0⟩ := HR0.out.at (Nat.le_refl _) k hlt
   have hc := bC HBr.out hc0 hbl
   have hbw : b < wr.heap.size := by omega
   have HL := hide (toIntS_any o' c' (xs.getD k []) wr ((hr0.kept HBr.out (Nat.le_refl _)).le HBr.out.size) (hx k hlt))
   have HXL := hide hlen
   clear hc0 hr0
   have HHL := hide hhl
   have hxs := HXL.out
   clear hxs
   obtain ⟨row, hrow⟩ : ∃ r, xs.getD k [] = r := ⟨_, rfl⟩
   rw [hrow] at HL hc HS
   clear hrow
   obtain ⟨q, hq⟩ : ∃ q, row.length = q := ⟨_, rfl⟩
   rw [hq] at HL hc
   have HQ := hide hq
   clear hq
   go_wp2_with fail
   refine HL.out.mono ?_
   rintro e v1 ⟨g4, rfl, ow4, hb4⟩
   obtain ⟨o4, ho4⟩ : ∃ o : Option Addr, some ⟨g4, 0, none⟩ = o := ⟨_, rfl⟩
   rw [ho4] at ow4 ⊢
   have HIN : Hid (InI wr.heap.size v1.heap.size v1 (.slice o4 q q) row) := InRow.of ow4
   clear ow4
   have HO4 := hide (own_kept HO.out hb4)
   have hln : ((hs ++ List.replicate (xs.length - k) layH.d).flatMap layH.cs).length = xs.length := by rw [flat_length, List.length_append, List.length_replicate, HHL.out, show layH.k = 1 from rfl]; omega
   have hcl := HO4.out.cellAt k (by omega)
   have hfr := HO4.out.frozenAt k
   obtain ⟨u, hu⟩ : ∃ u, v1.cell? ⟨w.heap.size, k, none⟩ = some u := ⟨_, hcl.trans (List.getElem?_eq_getElem (by omega))⟩
   have HO5 := hide (fillU_step (o := o4) (m := q) (c := q) hlt HHL.out HO4.out)
   have HR4 := (HR.out.kept InI.stp hb4).snoc (l2 := wr.heap.size) (h2 := v1.heap.size) (Nat.le_refl _) (by omega) hb4.size (x := row) (o := o4) (m := q) (c := q) HIN.out
   rw [← HS.out] at HR4
   have HR5 := HR4.step InI.stp (stp_set v1 w.heap.size k (.slice o4 q q)) (fun i hi => .inl (HR4.bd i hi).1)
   have HR6 : Hid (Rw InI [] (xs.take (k + 1)) (w.heap.size + 1) (v1.setCell ⟨w.heap.size, k, none⟩ (.slice o4 q q)).heap.size (v1.setCell ⟨w.heap.size, k, none⟩ (.slice o4 q q)) _ _ _) := HR5.mono (Nat.le_refl _) (by simp)
   have HB5 := hide ((HBr.out.trans (hb4.mono HBr.out.size)).setCell (p := ⟨w.heap.size, k, none⟩) (Nat.le_refl _) (.slice o4 q q))
   have hs5 : w.heap.size + 1 ≤ v1.heap.size := by have := hb4.size; omega
   clear hb4 hcl HR4 HR5 hln HL hhl hc
   go_wp2
   go_roundw
   case rel => exact ⟨k + 1, _, _, _, by omega, by go_num, HO5.out, HR6.out, HB5.out, by simpa using hs5⟩
   case measure => simp [intOf]; omega
  ·have e : k = xs.length := by omega
   subst e
   go_wp2
   go_ret
   have h1 := HO.out
   rw [Nat.sub_self, List.replicate_zero, List.append_nil] at h1
   have h2 := HR.out
   rw [List.take_length] at h2
   have h3 : ∀ b, (Value.slice (some ⟨w.heap.size, 0, none⟩) xs.length xs.length).ownBlock = some b → b = w.heap.size := fun b e => (Option.some.inj e).symm
   have h4 : InT w.heap.size wr.heap.size wr (.slice (some ⟨w.heap.size, 0, none⟩) xs.length xs.length) xs := by
    refine ⟨hs, L, H, ⟨by rw [hhl]; exact h1, fun b e => ?_⟩, h2.mono (by omega) (Nat.le_refl _), fun i hi b e => ?_⟩
    ·have := h3 b e; omega
    ·have := h3 b e
     have := h2.bd i hi
     omega
   exact ⟨_, rfl, h4, HBr.out⟩

set_option maxRecDepth 100000 in
set_option maxHeartbeats 2000000 in
theorem toIntSSS_in (v : Value) (xs : List (List (List Int))) (w : World) (hR : RiR 0 w.heap.size w v xs) (hlen : xs.length ≤ 1048576) (hx : ∀ i, i < xs.length → (xs.getD i []).length ≤ 1048576) (hy : ∀ i, i < xs.length → ∀ j, j < (xs.getD i []).length → ((xs.getD i []).getD j []).length ≤ 1048576) :
  Calls Tryd.prog 36 #[v] w fun e w' => ∃ v', e = .returned v' ∧ InR w.heap.size w'.heap.size w' v' xs ∧ Below w.heap.size w w' := by
 obtain ⟨o, cap, ev⟩ : ∃ o c, v = .slice o xs.length c := by
  obtain ⟨hs, h0, ⟨o, c, e, _⟩, _⟩ := hR
  exact ⟨o, c, by rw [e, h0]⟩
 subst ev
 obtain ⟨i0, hi, hz0, hz1, hz2⟩ := info_parts infoIntSS
 have HR0 := hide hR
 clear hR
 go_enter Tryd.func36, Tryd.ntmps36
 go_wp2_with (at_make; refine wpList_make_full _ rfl _ _ 42 rfl w.heap.size 71 i0 (.slice none 0 0) 1 Tryd.underlying42 hi hz0 hz1 _ _ _ _ xs.length rfl rfl rfl rfl ?b2 ?b3 ?b4 ?_)
 case b2 => rw [hz2]; omega
 case b3 => unfold maxLen; omega
 case b4 => simp
 intro w3 hown hgrow
 have HB3 := hide (show Below w.heap.size w w3 from (Below.refl _ _).grown hgrow (Nat.le_refl _) (fun k h => by cases h))
 have HO3 : Hid (w3.ownsRow w.heap.size 71 1 (.slice (some ⟨w.heap.size, 0, none⟩) xs.length xs.length) xs.length ((([] : List Hd) ++ List.replicate (xs.length - 0) layH.d).flatMap layH.cs)) := by
  rw [List.nil_append, Nat.sub_zero, ← made_flat layH (.slice none 0 0) rfl, show layH.k = 1 from rfl, Nat.mul_one]; exact hown
 have hs3 : w.heap.size + 1 ≤ w3.heap.size := (hown.lt w.heap.size rfl).2
 clear hown hgrow
 go_wp2
 go_loopw [4] (fun iv wr => ∃ (k : Nat) (hs : List Hd) (L H : Nat → Nat), k ≤ xs.length ∧ iv = .int .i64 (k : Int) ∧ Hid (wr.ownsRow w.heap.size 71 1 (.slice (some ⟨w.heap.size, 0, none⟩) xs.length xs.length) xs.length ((hs ++ List.replicate (xs.length - k) layH.d).flatMap layH.cs)) ∧ Hid (Rw InT [] (xs.take k) (w.heap.size + 1) wr.heap.size wr hs L H) ∧ Hid (Below w.heap.size w wr) ∧ w.heap.size + 1 ≤ wr.heap.size)
  (fun iv _ => xs.length - (intOf iv).toNat)
 case atStart => exact ⟨0, [], fun _ => 0, fun _ => 0, Nat.zero_le _, rfl, HO3.out, by rw [List.take_zero]; exact Rw.nil _ _ _ _ _ _ _, HB3.out, hs3⟩
 case round =>
  obtain ⟨k, hs, L, H, hk8, rfl, HO, HR, HBr, hsr⟩ := hrel
  clear HO3 HB3 hs3
  have hhl : hs.length = k := by have h1 := HR.out.len; rw [List.length_take] at h1; omega
  by_cases hlt : k < xs.length
  ·have z1 : (k : Int) < (xs.length : Int) := by omega
   have HS := hide (show xs.take (k + 1) = xs.take k ++ [xs.getD k []] by rw [List.take_succ_eq_append_getElem hlt]; simp [hlt])
   obtain ⟨b, off, o', c', rfl, hbl0, hc0, hr0⟩ := (RiR.mon.go (RiR.stp.go HR0.out (lo := w.heap.size) (hi := w.heap.size + wr.heap.size) ⟨HBr.out.os, HBr.out.tape, HBr.out.output, HBr.out.size, fun k hk _ => HBr.out.block k hk⟩ (.inr (Nat.le_refl _))) (Nat.le_refl _) HBr.out.size).at (Nat.le_refl _) k hlt
   have hc := hc0
   have HL := hide (toIntSS_in (.slice o' (xs.getD k []).length c') (xs.getD k []) wr (RiT.of hr0) (hx k hlt) (hy k hlt))
   have HXL := hide hlen
   clear hc0 hr0
   have HHL := hide hhl
   have hxs := HXL.out
   clear hxs
   obtain ⟨row, hrow⟩ : ∃ r, xs.getD k [] = r := ⟨_, rfl⟩
   rw [hrow] at HL hc HS
   clear hrow
   obtain ⟨q, hq⟩ : ∃ q, row.length = q := ⟨_, rfl⟩
   rw [hq] at HL hc
   have HQ := hide hq
   clear hq
   go_wp2_with fail
   refine HL.out.mono ?_
   rintro e v1 ⟨v4, rfl, in4, hb4⟩
   obtain ⟨o4, c4, e4, _⟩ := RiT.rd (InT.ri in4)
   rw [HQ.out] at e4
   subst e4
   have HIN := hide in4
   clear in4
   have HO4 := hide (own_kept HO.out hb4)
   have hln : ((hs ++ List.replicate (xs.length - k) layH.d).flatMap layH.cs).length = xs.length := by rw [flat_length, List.length_append, List.length_replicate, HHL.out, show layH.k = 1 from rfl]; omega
   have hcl := HO4.out.cellAt k (by omega)
   have hfr := HO4.out.frozenAt k
   obtain ⟨u, hu⟩ : ∃ u, v1.cell? ⟨w.heap.size, k, none⟩ = some u := ⟨_, hcl.trans (List.getElem?_eq_getElem (by omega))⟩
   have HO5 := hide (fillU_step (o := o4) (m := q) (c := c4) hlt HHL.out HO4.out)
   have HR4 := (HR.out.kept InT.stp hb4).snoc (l2 := wr.heap.size) (h2 := v1.heap.size) (Nat.le_refl _) (by omega) hb4.size (x := row) (o := o4) (m := q) (c := c4) HIN.out
   rw [← HS.out] at HR4
   have HR5 := HR4.step InT.stp (stp_set v1 w.heap.size k (.slice o4 q c4)) (fun i hi => .inl (HR4.bd i hi).1)
   have HR6 : Hid (Rw InT [] (xs.take (k + 1)) (w.heap.size + 1) (v1.setCell ⟨w.heap.size, k, none⟩ (.slice o4 q c4)).heap.size (v1.setCell ⟨w.heap.size, k, none⟩ (.slice o4 q c4)) _ _ _) := HR5.mono (Nat.le_refl _) (by simp)
   have HB5 := hide ((HBr.out.trans (hb4.mono HBr.out.size)).setCell (p := ⟨w.heap.size, k, none⟩) (Nat.le_refl _) (.slice o4 q c4))
   have hs5 : w.heap.size + 1 ≤ v1.heap.size := by have := hb4.size; omega
   clear hb4 hcl HR4 HR5 hln HL hhl hc
   go_wp2
   go_roundw
   case rel => exact ⟨k + 1, _, _, _, by omega, by go_num, HO5.out, HR6.out, HB5.out, by simpa using hs5⟩
   case measure => simp [intOf]; omega
  ·have e : k = xs.length := by omega
   subst e
   go_wp2
   go_ret
   have h1 := HO.out
   rw [Nat.sub_self, List.replicate_zero, List.append_nil] at h1
   have h2 := HR.out
   rw [List.take_length] at h2
   have h3 : ∀ b, (Value.slice (some ⟨w.heap.size, 0, none⟩) xs.length xs.length).ownBlock = some b → b = w.heap.size := fun b e => (Option.some.inj e).symm
   have h4 : InR w.heap.size wr.heap.size wr (.slice (some ⟨w.heap.size, 0, none⟩) xs.length xs.length) xs := by
    refine ⟨hs, L, H, ⟨by rw [hhl]; exact h1, fun b e => ?_⟩, h2.mono (by omega) (Nat.le_refl _), fun i hi b e => ?_⟩
    ·have := h3 b e; omega
    ·have := h3 b e
     have := h2.bd i hi
     omega
   exact ⟨_, rfl, h4, HBr.out⟩

theorem leftTo_sum (ll : List (List Int)) (n : Int) : ∀ k, leftTo ll n k = n - (ll.length : Int) - (sumN (lenT ll) k : Int)
 | 0 => by simp [leftTo, sumN]
 | k + 1 => by
  rw [leftTo, leftTo_sum ll n k, show sumN (lenT ll) (k + 1) = sumN (lenT ll) k + (ll.getD k []).length from rfl]
  omega
set_option maxRecDepth 100000 in
set_option maxHeartbeats 1000000 in
theorem szIntSSS_any (v : Value) (lll : List (List (List Int))) (n : Int) (w : World) (hR : RiR 0 w.heap.size w v lll) (hl : lll.length ≤ maxLen) (hx : ∀ i, i < lll.length → (lll.getD i []).length ≤ maxLen) (hy : ∀ i, i < lll.length → ∀ j, j < (lll.getD i []).length → ((lll.getD i []).getD j []).length ≤ maxLen) (h0 : 0 ≤ n) (h1 : n ≤ 1048576) :
  Calls Tryd.prog 33 #[v, .int .i64 n] w fun e w' => (e = .returned (.int .i64 (-1)) ∨ ∃ z : Int, e = .returned (.int .i64 z) ∧ 0 ≤ z ∧ z ≤ n ∧ (lll.length : Int) + (szR lll : Int) ≤ n ∧ ∀ i, i < lll.length → ((lll.getD i []).length : Int) ≤ n) ∧ Below w.heap.size w w' := by
 obtain ⟨o, cap, ev⟩ : ∃ o c, v = .slice o lll.length c := by
  obtain ⟨hs, h0, ⟨o, c, e, _⟩, _⟩ := hR
  exact ⟨o, c, by rw [e, h0]⟩
 subst ev
 have hl' := hl
 unfold maxLen at hl'
 by_cases h : n - lll.length < 0
 ·go_enter Tryd.func33, Tryd.ntmps33
  go_wp2
  go_ret
  exact ⟨.inl rfl, Below.refl _ _⟩
 ·go_enter Tryd.func33, Tryd.ntmps33
  go_wp2
  go_loopw [1, 5] (fun n' i wr => ∃ (k : Nat) (z : Int), k ≤ lll.length ∧ i = .int .i64 (k : Int) ∧ n' = .int .i64 z ∧ 0 ≤ z ∧ z ≤ n - (lll.length : Int) - (sumN (lenR lll) k : Int) ∧ Hid (∀ i, i < k → ((lll.getD i []).length : Int) ≤ n) ∧ Hid (Below w.heap.size w wr))
   (fun _ i _ => lll.length - (intOf i).toNat)
  case atStart => exact ⟨0, n - lll.length, Nat.zero_le _, rfl, rfl, by omega, by simp [sumN], fun i hi => absurd hi (Nat.not_lt_zero _), Below.refl _ _⟩
  case round =>
   obtain ⟨k, z, hk, rfl, rfl, hz0, hz1, HLN, HBr⟩ := hrel
   by_cases hlt : k < lll.length
   ·obtain ⟨b, off, o', c', rfl, hb, hc, hr⟩ := (RiR.mon.go (RiR.stp.go hR (Stp.of (lo := 0) (hi := 0) HBr.out) (.inl (Nat.zero_le _))) (Nat.le_refl _) HBr.out.size).at (Nat.le_refl _) k hlt
    have hsn : (0 : Int) ≤ (sumN (lenR lll) k : Int) := by omega
    have HZ := hide (szIntSS_any o' (lll.getD k []) c' z wr hr (hx k hlt) (hy k hlt) hz0 (by omega))
    have HSU := hide (show sumN (lenR lll) (k + 1) = sumN (lenR lll) k + szT (lll.getD k []) from rfl)
    have HEL := hide (show leftLL (lll.getD k []) z = z - ((lll.getD k []).length : Int) - (szT (lll.getD k []) : Int) from leftTo_sum _ _ _)
    have hz1' := hz1
    obtain ⟨ll, hll⟩ : ∃ ll, lll.getD k [] = ll := ⟨_, rfl⟩
    rw [hll] at hc HZ HSU HEL
    have HLL := hide hll
    have HR := hide hR
    clear hr hll hR hx hy
    obtain ⟨m, hm⟩ : ∃ m, ll.length = m := ⟨_, rfl⟩
    rw [hm] at hc HZ HEL
    have HM := hide hm
    clear hm
    generalize sumN (lenR lll) k = sk at *
    go_wp2_with fail
    refine HZ.out.mono ?_
    rintro e w2 ⟨rfl | ⟨hfit, rfl⟩, hb2⟩
    ·have HB2 := hide (HBr.out.trans (hb2.mono HBr.out.size))
     clear hb2
     go_wp2
     go_ret
     exact ⟨.inl rfl, HB2.out⟩
    ·have HB2 := hide (HBr.out.trans (hb2.mono HBr.out.size))
     have hpos := hfit ll.length (Nat.le_refl _)
     have hpos' : 0 ≤ leftLL ll z := hpos
     have hE := HEL.out
     have hmz : (m : Int) ≤ n := by omega
     have HE2 := hide hE
     clear hfit hb2 hpos hE HEL
     generalize leftLL ll z = y at *
     go_wp2
     go_roundw
     case rel => exact ⟨k + 1, y, by omega, by go_num, rfl, hpos', by (have := HE2.out; rw [HSU.out]; push_cast; omega), fun i hi => (by rcases Nat.lt_succ_iff_lt_or_eq.1 hi with h' | h'; exact HLN.out i h'; rw [h', HLL.out, HM.out]; exact hmz), HB2.out⟩
     case measure => simp [intOf]; omega
   ·have e : k = lll.length := by omega
    subst e
    have hsz : sumN (lenR lll) lll.length = szR lll := rfl
    rw [hsz] at hz1
    clear hsz
    go_wp2
    go_ret
    exact ⟨.inr ⟨z, rfl, hz0, by omega, by omega, HLN.out⟩, HBr.out⟩
theorem row_le (ll : List (List Int)) (j : Nat) (h : j < ll.length) : (ll.getD j []).length ≤ szT ll := by
 have := sumN_at (lenT ll) h
 unfold szT; unfold lenT at *; omega
theorem tab_le (lll : List (List (List Int))) (i : Nat) (h : i < lll.length) : szT (lll.getD i []) ≤ szR lll := by
 have := sumN_at (lenR lll) h
 unfold szR; unfold lenR at *; omega
theorem fit_of {key : Int} {l : List Bk} {lll : List (List (List Int))} {n : Int} (hn : n ≤ 1048576) (hl : (l.length : Int) ≤ 1048576) (h1 : (lll.length : Int) + (szR lll : Int) ≤ n) (h2 : ∀ i, i < lll.length → ((lll.getD i []).length : Int) ≤ n) : fitPm ⟨key, l, lll⟩ :=
 ⟨by show l.length ≤ _; omega, by show lll.length ≤ _; omega, by show szR lll ≤ _; omega, fun i hi => by have := h2 i hi; show (lll.getD i []).length ≤ _; omega, fun i hi j hj => by
  have h3 := row_le (lll.getD i []) j hj
  have h4 := tab_le lll i hi
  show ((lll.getD i []).getD j []).length ≤ _
  omega⟩
/-- A pool's lengths may be lengths. -/
def lenPm (m : Pm) : Prop := m.l.length ≤ maxLen ∧ m.ring.length ≤ maxLen ∧ (∀ i, i < m.ring.length → (m.ring.getD i []).length ≤ maxLen) ∧ ∀ i, i < m.ring.length → ∀ j, j < (m.ring.getD i []).length → ((m.ring.getD i []).getD j []).length ≤ maxLen
set_option maxRecDepth 100000 in
set_option maxHeartbeats 1000000 in
theorem szPool_n (v : Value) (m : Pm) (n : Int) (w : World) (hR : RdPm w.heap.size w v m) (hl : lenPm m) (hn0 : 0 ≤ n) (hn1 : n ≤ 1048576) :
  Calls Tryd.prog 14 #[v, .int .i64 n] w fun e w' => (∃ z : Int, e = .returned (.int .i64 z) ∧ ((z < 0 ∧ -1 ≤ z) ∨ (0 ≤ z ∧ z ≤ n ∧ fitPm m))) ∧ Below w.heap.size w w' := by
 obtain ⟨vb, vr, rfl, ⟨o, c, rfl, b1⟩, r1⟩ := hR
 obtain ⟨oR, cR, rfl⟩ := RiR.len r1
 obtain ⟨l1, l2, l3, l4⟩ := hl
 have hs := fun W => szBackS_any o m.l.length c n W l1 hn0 hn1
 have HRG := hide (fun W (hb : Below w.heap.size w W) (z : Int) h0 h1 => szIntSSS_any (.slice oR m.ring.length cR) m.ring z W (RiR.mon.go (RiR.stp.go r1 (Stp.of (lo := 0) (hi := 0) hb) (.inl (Nat.zero_le _))) (Nat.le_refl _) hb.size) l2 l3 l4 h0 h1)
 clear b1 r1 l3 l4
 obtain ⟨W0, hW0⟩ : ∃ W, (w.alloc (.cells #[.int .i64 m.key, .slice o m.l.length c, .slice oR m.ring.length cR] 44)) = W := ⟨_, rfl⟩
 have hb_W0 : Below w.heap.size w W0 := by rw [← hW0]; exact ((Below.refl _ _).alloc (Nat.le_refl _) _)
 have HB := hide hb_W0
 clear hb_W0
 have zz : w.heap.size < W0.heap.size := by rw [← hW0]; simp
 have z0 : W0.cell? ⟨w.heap.size, 0, none⟩ = some (.int .i64 m.key) := by rw [← hW0]; simp [go_sem]
 have z1 : W0.cell? ⟨w.heap.size, 1, none⟩ = some (.slice o m.l.length c) := by rw [← hW0]; simp [go_sem]
 have z2 : W0.cell? ⟨w.heap.size, 2, none⟩ = some (.slice oR m.ring.length cR) := by rw [← hW0]; simp [go_sem]
 by_cases h : n - (m.l.length : Int) < 0
 ·rw [if_pos h] at hs
  go_enter Tryd.func14, Tryd.ntmps14
  go_wp2_with fail
  refine (hs _).mono ?_
  rintro e w1 ⟨rfl, rfl⟩
  go_wp2
  go_ret
  exact ⟨⟨_, rfl, .inl ⟨by decide, by decide⟩⟩, HB.out⟩
 ·rw [if_neg h] at hs
  have hz0 : (0 : Int) ≤ n - (m.l.length : Int) := by omega
  have HRG2 := hide (HRG.out W0 HB.out (n - (m.l.length : Int)) hz0 (by omega))
  go_enter Tryd.func14, Tryd.ntmps14
  go_wp2_with fail
  refine (hs _).mono ?_
  rintro e w1 ⟨rfl, rfl⟩
  go_wp2_with fail
  refine HRG2.out.mono ?_
  rintro e w2 ⟨rfl | ⟨z, rfl, hz1, hz2, hz3, hz4⟩, hb2⟩
  ·have HB2 := hide (HB.out.trans (hb2.mono HB.out.size))
   clear hb2
   go_wp2
   go_ret
   exact ⟨⟨_, rfl, .inl ⟨by decide, by decide⟩⟩, HB2.out⟩
  ·have HB2 := hide (HB.out.trans (hb2.mono HB.out.size))
   have HF : Hid (fitPm m) := fit_of (n := n - (m.l.length : Int)) (by omega) (by omega) hz3 hz4
   clear hb2 hz3 hz4
   go_wp2
   go_ret
   exact ⟨⟨_, rfl, .inr ⟨hz1, by omega, HF.out⟩⟩, HB2.out⟩

theorem szPool_sh (v : Value) (m : Pm) (w : World) (hR : RdPm w.heap.size w v m) (hl : lenPm m) :
  Calls Tryd.prog 14 #[v, .int .i64 1048576] w fun e w' => (∃ z : Int, e = .returned (.int .i64 z) ∧ ((z < 0 ∧ -1 ≤ z) ∨ (0 ≤ z ∧ z ≤ 1048576 ∧ fitPm m))) ∧ Below w.heap.size w w' := szPool_n v m 1048576 w hR hl (by decide) (by decide)

set_option maxRecDepth 100000 in
set_option maxHeartbeats 2000000 in
theorem toPool_sh (v : Value) (m : Pm) (w : World) (hR : RdPm w.heap.size w v m) (hf : fitPm m) :
  Calls Tryd.prog 16 #[v] w fun e w' => ∃ v', e = .returned v' ∧ InPm w.heap.size w'.heap.size w' v' m ∧ Below w.heap.size w w' := by
 obtain ⟨vb, vr, rfl, ⟨o, c, rfl, b1⟩, r1⟩ := hR
 obtain ⟨oR, cR, rfl⟩ := RiR.len r1
 obtain ⟨hf1, hf2, hf3, hf4, hf5⟩ := hf
 have HBK := hide (fun W (hb : Below w.heap.size w W) => toBackS_any o c m.l W ((b1.rd.kept hb (Nat.le_refl _)).le hb.size) hf1)
 have HRG := hide (fun W (hb : Below w.heap.size w W) => toIntSSS_in (.slice oR m.ring.length cR) m.ring W (RiR.mon.go (RiR.stp.go r1 (Stp.of (lo := 0) (hi := 0) hb) (.inl (Nat.zero_le _))) (Nat.le_refl _) hb.size) hf2 hf4 hf5)
 clear b1 r1 hf4 hf5
 obtain ⟨W0, hW0⟩ : ∃ W, (((w.alloc (.cells #[.int .i64 m.key, .slice o m.l.length c, .slice oR m.ring.length cR] 44)).alloc (.cells #[.int .i64 0, .slice none 0 0, .slice none 0 0] 49)).alloc (.cells #[.int .i64 0, .slice none 0 0, .slice none 0 0] 49)) = W := ⟨_, rfl⟩
 have hb_W0 : Below w.heap.size w W0 := by rw [← hW0]; exact ((((Below.refl _ _).alloc (Nat.le_refl _) _).alloc (by simp <;> omega) _).alloc (by simp <;> omega) _)
 have HB := hide hb_W0
 clear hb_W0
 have zz : w.heap.size < W0.heap.size := by rw [← hW0]; simp <;> omega
 have z0 : W0.cell? ⟨w.heap.size, 0, none⟩ = some (.int .i64 m.key) := by rw [← hW0]; simp [go_sem]
 have z1 : W0.cell? ⟨w.heap.size, 1, none⟩ = some (.slice o m.l.length c) := by rw [← hW0]; simp [go_sem]
 have z2 : W0.cell? ⟨w.heap.size, 2, none⟩ = some (.slice oR m.ring.length cR) := by rw [← hW0]; simp [go_sem]
 have zr : w.heap.size + 1 < W0.heap.size := by rw [← hW0]; simp <;> omega
 have r0 : W0.cell? ⟨w.heap.size + 1, 0, none⟩ = some (.int .i64 0) := by rw [← hW0]; simp [go_sem]
 have r1 : W0.cell? ⟨w.heap.size + 1, 1, none⟩ = some (.slice none 0 0) := by rw [← hW0]; simp [go_sem]
 have r2 : W0.cell? ⟨w.heap.size + 1, 2, none⟩ = some (.slice none 0 0) := by rw [← hW0]; simp [go_sem]
 have fr0 : W0.frozen? ⟨w.heap.size + 1, 0, none⟩ = false := by rw [← hW0]; simp [go_sem]
 have fr1 : W0.frozen? ⟨w.heap.size + 1, 1, none⟩ = false := by rw [← hW0]; simp [go_sem]
 have fr2 : W0.frozen? ⟨w.heap.size + 1, 2, none⟩ = false := by rw [← hW0]; simp [go_sem]
 have zx : w.heap.size + 1 + 1 < W0.heap.size := by rw [← hW0]; simp
 have x0 : W0.cell? ⟨w.heap.size + 1 + 1, 0, none⟩ = some (.int .i64 0) := by rw [← hW0]; simp [go_sem]
 have x1 : W0.cell? ⟨w.heap.size + 1 + 1, 1, none⟩ = some (.slice none 0 0) := by rw [← hW0]; simp [go_sem]
 have x2 : W0.cell? ⟨w.heap.size + 1 + 1, 2, none⟩ = some (.slice none 0 0) := by rw [← hW0]; simp [go_sem]
 have fx0 : W0.frozen? ⟨w.heap.size + 1 + 1, 0, none⟩ = false := by rw [← hW0]; simp [go_sem]
 have fx1 : W0.frozen? ⟨w.heap.size + 1 + 1, 1, none⟩ = false := by rw [← hW0]; simp [go_sem]
 have fx2 : W0.frozen? ⟨w.heap.size + 1 + 1, 2, none⟩ = false := by rw [← hW0]; simp [go_sem]
 have h0x : W0.heap[w.heap.size + 1 + 1]? = some (.cells #[.int .i64 0, .slice none 0 0, .slice none 0 0] 49 (0, 0)) := by rw [← hW0]; exact box_new3 w _ _ _ _
 have h0r : W0.heap[w.heap.size + 1]? = some (.cells #[.int .i64 0, .slice none 0 0, .slice none 0 0] 49 (0, 0)) := by rw [← hW0]; exact box_mid3 w _ _ _ _
 have hzx := zx
 have hw0 := HB.out.size
 obtain ⟨W1, hW1⟩ : ∃ W, W0.setCell ⟨w.heap.size + 1 + 1, 0, none⟩ (.int .i64 m.key) = W := ⟨_, rfl⟩
 have h1x := box_put h0x 0 (.int .i64 m.key)
 rw [hW1] at h1x
 have h1r : W1.heap[w.heap.size + 1]? = some (.cells #[.int .i64 0, .slice none 0 0, .slice none 0 0] 49 (0, 0)) := by rw [← hW1]; exact (far_block (by omega) _ _).trans h0r
 have hs1 : W1.heap.size = W0.heap.size := by rw [← hW1]; simp
 have hB1 : Below w.heap.size w W1 := by rw [← hW1]; exact HB.out.setCell (p := ⟨w.heap.size + 1 + 1, 0, none⟩) (show w.heap.size ≤ w.heap.size + 1 + 1 by omega) _
 have a0 : W1.cell? ⟨w.heap.size, 0, none⟩ = some (.int .i64 m.key) := by rw [← hW1]; exact (cell_far (by omega)).trans z0
 have a1 : W1.cell? ⟨w.heap.size, 1, none⟩ = some (.slice o m.l.length c) := by rw [← hW1]; exact (cell_far (by omega)).trans z1
 have a2 : W1.cell? ⟨w.heap.size, 2, none⟩ = some (.slice oR m.ring.length cR) := by rw [← hW1]; exact (cell_far (by omega)).trans z2
 have HB1 := hide hB1
 have HS1 := hide hs1
 have H1X := hide h1x
 have H1R := hide h1r
 clear hB1 hs1 h1x h1r h0x h0r z1 z2 r0 r1 r2 fr0 fr1 fr2 HB
 go_enter Tryd.func16, Tryd.ntmps16
 go_wp2_with fail
 refine (HBK.out W1 HB1.out).mono ?_
 rintro e v1 ⟨g1, rfl, ow1, hb1⟩
 have hsv := hb1.size
 have hx1 := (hb1.block _ (show w.heap.size + 1 + 1 < W1.heap.size by have := HS1.out; omega)).trans H1X.out
 have hr1 := (hb1.block _ (show w.heap.size + 1 < W1.heap.size by have := HS1.out; omega)).trans H1R.out
 have b0 := bC hb1 a0 (by have := HS1.out; omega)
 have b1 := bC hb1 a1 (by have := HS1.out; omega)
 have b2 := bC hb1 a2 (by have := HS1.out; omega)
 have p1 : v1.cell? ⟨w.heap.size + 1 + 1, 1, none⟩ = some (.slice none 0 0) := bx_cell hx1 1 _ rfl
 have q1 := bx_frozen hx1 1
 obtain ⟨og, hog⟩ : ∃ o : Option Addr, some ⟨g1, 0, none⟩ = o := ⟨_, rfl⟩
 rw [hog] at ow1 ⊢
 clear hog
 obtain ⟨W2, hW2⟩ : ∃ W, v1.setCell ⟨w.heap.size + 1 + 1, 1, none⟩ (.slice og m.l.length m.l.length) = W := ⟨_, rfl⟩
 have h2x := box_put hx1 1 (.slice og m.l.length m.l.length)
 rw [hW2] at h2x
 have h2r : W2.heap[w.heap.size + 1]? = some (.cells #[.int .i64 0, .slice none 0 0, .slice none 0 0] 49 (0, 0)) := by rw [← hW2]; exact (far_block (by omega) _ _).trans hr1
 have hs2 : W2.heap.size = v1.heap.size := by rw [← hW2]; simp
 have hB2 : Below w.heap.size w W2 := by rw [← hW2]; exact (HB1.out.trans (hb1.mono HB1.out.size)).setCell (p := ⟨w.heap.size + 1 + 1, 1, none⟩) (show w.heap.size ≤ w.heap.size + 1 + 1 by omega) _
 have HO2 : Hid (InL layK 70 W0.heap.size W2.heap.size W2 (.slice og m.l.length m.l.length) m.l) := by rw [← hW2]; exact InRow.of (own_low (own_mono ow1 (by have := HS1.out; omega)) hzx 1 _)
 have d0 : W2.cell? ⟨w.heap.size, 0, none⟩ = some (.int .i64 m.key) := by rw [← hW2]; exact (cell_far (by omega)).trans b0
 have d1 : W2.cell? ⟨w.heap.size, 1, none⟩ = some (.slice o m.l.length c) := by rw [← hW2]; exact (cell_far (by omega)).trans b1
 have d2 : W2.cell? ⟨w.heap.size, 2, none⟩ = some (.slice oR m.ring.length cR) := by rw [← hW2]; exact (cell_far (by omega)).trans b2
 have HB2 := hide hB2
 have HS2 := hide hs2
 have H2X := hide h2x
 have H2R := hide h2r
 clear hB2 hs2 h2x h2r hx1 hr1 ow1 hb1
 go_wp2_with fail
 refine (HRG.out W2 HB2.out).mono ?_
 rintro e v3 ⟨vr3, rfl, in3, hb3⟩
 obtain ⟨o3, c3, e3⟩ := RiR.len (InR.ri in3)
 subst e3
 have hsv3 := hb3.size
 have hx3 := (hb3.block _ (show w.heap.size + 1 + 1 < W2.heap.size by have := HS2.out; have := HS1.out; omega)).trans H2X.out
 have hr3 := (hb3.block _ (show w.heap.size + 1 < W2.heap.size by have := HS2.out; have := HS1.out; omega)).trans H2R.out
 have p2 : v3.cell? ⟨w.heap.size + 1 + 1, 2, none⟩ = some (.slice none 0 0) := bx_cell hx3 2 _ rfl
 have q2 := bx_frozen hx3 2
 obtain ⟨W4, hW4⟩ : ∃ W, v3.setCell ⟨w.heap.size + 1 + 1, 2, none⟩ (.slice o3 m.ring.length c3) = W := ⟨_, rfl⟩
 have h4x := box_put hx3 2 (.slice o3 m.ring.length c3)
 rw [hW4] at h4x
 have h4r : W4.heap[w.heap.size + 1]? = some (.cells #[.int .i64 0, .slice none 0 0, .slice none 0 0] 49 (0, 0)) := by rw [← hW4]; exact (far_block (by omega) _ _).trans hr3
 have hB4 : Below w.heap.size w W4 := by rw [← hW4]; exact (HB2.out.trans (hb3.mono HB2.out.size)).setCell (p := ⟨w.heap.size + 1 + 1, 2, none⟩) (show w.heap.size ≤ w.heap.size + 1 + 1 by omega) _
 have hs4 : W4.heap.size = v3.heap.size := by rw [← hW4]; simp
 have HIN : Hid (InPm W0.heap.size W4.heap.size W4 (plv m.key (.slice og m.l.length m.l.length) (.slice o3 m.ring.length c3)) m) := by
  rw [hs4, ← hW4]
  exact ⟨_, _, W2.heap.size, rfl, by have := HS2.out; have := HS1.out; omega, hsv3, InRow.step (InRow.step HO2.out (Stp.of (lo := 0) (hi := 0) hb3) (.inl (Nat.zero_le _))) (stp_set v3 (w.heap.size + 1 + 1) 2 _) (.inl (by omega)), InR.stp.go in3 (stp_set v3 (w.heap.size + 1 + 1) 2 _) (.inl (by have := HS2.out; have := HS1.out; omega))⟩
 obtain ⟨e0, e1, e2, g0, g1', g2⟩ := bx_allP h4x
 obtain ⟨t0, t1, t2, u0, u1, u2⟩ := bx_allP h4r
 have HB4 := hide hB4
 clear hB4 h4x h4r hx3 hr3 in3 hb3 hs4
 go_wp2
 refine bodyPost_ret (v := plv m.key (.slice og m.l.length m.l.length) (.slice o3 m.ring.length c3)) (by simp [results, Tryd.results16, go_sem, t0, t1, t2]) rfl ⟨_, rfl, ?_, setP_belowT HB4.out (Nat.le_succ _) _ _ _⟩
 rw [setP_sizeT]
 exact in_monoT (HIN.out.step (stp_setT W4 (w.heap.size + 1) _ _ _) (.inl (by omega))) (by omega)

end Go.Proofs.YtmmhgkkcpjhiiaaDoor

