/- An agent's text: the words, and what is laid behind the row of a constant. -/
import Derived.ArgAppend
import Derived.Lib.SlBytesConst
import Derived.Test.YtljogkoaaidlcaaDoorQAgentText04
import Derived.Test.YtljogkoaaidlcaaDoorQAgentText14
import Derived.Test.YtljogkoaaidlcaaDoorQAgentText16
namespace Go.Proofs.YtljogkoaaidlcaaDoor
open Go.ChangeShapes Go.WideShapes Go.ChangeAt Go.RowKit Go.Joins
set_option linter.unusedVariables false
set_option linter.unusedSimpArgs false


/-- The flows of an agent, a blank ahead of each. -/
def flowsT (l : List (Int × Int)) : Nat → List Int
 | 0 => []
 | k + 1 => flowsT l k ++ ([32] ++ flowTL (l.getD k (0, 0)).1.toNat (l.getD k (0, 0)).2.toNat)
def drA (z : Bool) : List Int := if z = true then [32, 100, 114, 97, 105, 110, 115] else []
def agentTL (m : Am) : List Int := [97, 103, 101, 110, 116, 32] ++ (digL m.id.toNat ++ ([32, 108, 105, 109, 105, 116, 32] ++ (digL m.lim.toNat ++ (drA m.dr ++ (flowsT (flowsM m.c) (flowsM m.c).length ++ [10])))))
def agentT (m : Am) : List Int := if agentOkB m = true then agentTL m else []
theorem agentTL_eq (m : Am) : ((((([97, 103, 101, 110, 116, 32] ++ digL m.id.toNat) ++ [32, 108, 105, 109, 105, 116, 32]) ++ digL m.lim.toNat) ++ drA m.dr) ++ flowsT (flowsM m.c) (flowsM m.c).length) ++ [10] = agentTL m := by simp [agentTL]
theorem flowsA_to {l : List Sl} (h : tableOkB l = true) : ∀ x ∈ flowsTo l l.length, flowOkB x.1 x.2 = true := by
 intro x hx
 unfold flowsTo at hx
 rw [List.take_length] at hx
 obtain ⟨s, hs, rfl⟩ := List.mem_map.1 hx
 obtain ⟨h1, h2⟩ := List.mem_filter.1 hs
 obtain ⟨i, hi, e⟩ := List.getElem_of_mem h1
 have h3 := flowsOk_of h i hi
 rw [List.getD_eq_getElem?_getD, List.getElem?_eq_getElem hi, e] at h3
 exact h3 h2
theorem flowsA_ok {l : List Sl} (h : tableOkB l = true) (i : Nat) (hi : i < (flowsM l).length) : flowOkB ((flowsM l).getD i (0, 0)).1 ((flowsM l).getD i (0, 0)).2 = true := by
 have e : flowsM l = sortF (flowsTo l l.length) := by unfold flowsM; rw [if_pos h]
 rw [e] at hi ⊢
 rw [List.getD_eq_getElem?_getD, List.getElem?_eq_getElem hi]
 exact flowsA_to h _ ((sortF_perm _).mem_iff.1 (List.getElem_mem hi))
theorem flowsA_len (l : List Sl) : (flowsM l).length ≤ 16 := by
 unfold flowsM
 split
 ·next h =>
  rw [sortF_length]
  have h1 : (flowsTo l l.length).length ≤ l.length := by
   unfold flowsTo
   rw [List.length_map]
   exact Nat.le_trans (List.length_filter_le _ _) (by simp)
  have := (tableOkB_iff.1 h).2.1
  omega
 ·exact Nat.zero_le _
theorem flowA_nat {a p : Int} (h : flowOkB a p = true) : 0 ≤ a ∧ a < 65536 ∧ 0 ≤ p ∧ p < 65536 := by
 unfold flowOkB at h
 simp only [Bool.and_eq_true, decide_eq_true_eq] at h
 exact ⟨h.1.1.1, h.1.1.2, h.1.2, h.2⟩
theorem flowsT_len {l : List (Int × Int)} (h : ∀ i, i < l.length → flowOkB (l.getD i (0, 0)).1 (l.getD i (0, 0)).2 = true) : ∀ k, k ≤ l.length → (flowsT l k).length ≤ 200000 * k
 | 0, _ => by simp [flowsT]
 | k + 1, hk => by
  have h1 := flowsT_len h k (by omega)
  have h2 := flowTL_len (l.getD k (0, 0)).1.toNat (l.getD k (0, 0)).2.toNat
  have h3 := flowA_nat (h k (by omega))
  simp only [flowsT, List.length_append, List.length_cons, List.length_nil]
  omega
theorem drA_len (z : Bool) : (drA z).length ≤ 7 := by unfold drA; split <;> simp
/-- A row of flows stays as it is when bytes are laid. -/
theorem ownF_tx {base b2 : Nat} {w w' : World} {v : Value} {l : List (Int × Int)} (h : ownL layF 48 w b2 v l) (s : TxS base w w') : ownL layF 48 w' b2 v l := by
 refine ⟨h.1, ?_⟩
 rcases h.2 with hn | ⟨g, cap, cur, h1, h2, h3, h4⟩
 ·exact .inl hn
 ·exact .inr ⟨g, cap, cur, h1, h2, s.box h3 (by decide), h4⟩
/-- A row behind a row that is full. -/
theorem wpList_append_full {w : World} {ops : Array Oper} {rest : List Oper} {o : Oper} {a : Act} {Q : Exit → Act → World → Prop} (hgd : o.guard = none) (s x : Operand)
  (ho : o.op = .call { callee := .builtin .append, args := #[s, x], argTypes := #[28, 28] }) (g : Nat) (l0 : List Int) (n : Nat) (hn : n = l0.length) (hs : a.eval s = .slice (some ⟨g, 0, none⟩) n n) (hR0 : Rd w (some ⟨g, 0, none⟩) l0)
  (ob : Option Addr) (c : Nat) (l : List Int) (m : Nat) (hm : m = l.length) (hx : a.eval x = .slice ob m c) (hpos : 1 ≤ l.length) (hR : Rd w ob l) (hlen : l0.length + l.length ≤ 1099511627776)
  (h : ∀ v' w', ownB w' w.heap.size v' (l0 ++ l) → Below w.heap.size w w' → wpList Tryd.prog ops Q rest (a.put o.dst v') w') : wpList Tryd.prog ops Q (o :: rest) a w := by
 subst hm
 subst hn
 obtain ⟨i0, hi, hz0, hz1, hz2⟩ := info_parts infoU8
 cases ob with
 | none => have e := hR.nil; rw [e] at hpos; simp at hpos
 | some ad =>
  refine wpList_append_grows w hgd s x 28 ho 5 i0 (.int .u8 0) 1 1 Tryd.underlying28 hi hz0 hz1 hz2 rfl (by decide) (some ⟨g, 0, none⟩) l0.length l0.length (l0.map (Value.int .u8)) hs (fun e => by cases e) (by simp) (fun b e => by cases e; exact hR0.news) ad l.length c (l.map (Value.int .u8)) hx (by simp) hR.news (ints_oneCell .u8 l) (by omega) (by unfold maxLen; omega) (by omega) ?_
  intro v' w' h1 h2
  refine h v' w' (by unfold ownB; simpa using h1) ((Below.refl _ w).grown h2 (Nat.le_refl _) (fun k hk => by cases hk))
/-- A string behind a row that is full. -/
theorem wpList_append_fullS {w : World} {ops : Array Oper} {rest : List Oper} {o : Oper} {a : Act} {Q : Exit → Act → World → Prop} (hgd : o.guard = none) (s x : Operand)
  (ho : o.op = .call { callee := .builtin .append, args := #[s, x], argTypes := #[28, 9] }) (g : Nat) (l0 : List Int) (n : Nat) (hn : n = l0.length) (hs : a.eval s = .slice (some ⟨g, 0, none⟩) n n) (hR0 : Rd w (some ⟨g, 0, none⟩) l0)
  (b : ByteArray) (l : List Int) (hx : a.eval x = .string b) (hl : b.data.toList.map (fun b => (b.toNat : Int)) = l) (hpos : 1 ≤ l.length) (hlen : l0.length + l.length ≤ 1099511627776)
  (h : ∀ v' w', ownB w' w.heap.size v' (l0 ++ l) → Below w.heap.size w w' → wpList Tryd.prog ops Q rest (a.put o.dst v') w') : wpList Tryd.prog ops Q (o :: rest) a w := by
 subst hn
 obtain ⟨i0, hi, hz0, hz1, hz2⟩ := info_parts infoU8
 have hsz : b.size = l.length := by rw [← hl]; show b.data.size = _; simp
 have hcell : Go.Lib.strCells b = l.map (Value.int .u8) := by rw [← hl]; simp [Go.Lib.strCells]
 refine wpList_plain hgd fun K hK' => ?_
 have hr := Go.Lib.run_append_grow_string (P := Tryd.prog) (w := w) 28 9 o.type 5 i0 (.int .u8 0) Tryd.underlying28 Tryd.underlying9 hi hz0 ⟨g, 0, none⟩ l0.length l0.length (l0.map (Value.int .u8)) (by rw [hz1]; simp) hR0.news b (by omega) (by omega) (growslice_fits (by omega) (by rw [hz2]; omega))
 rw [hcell, hsz] at hr
 have h1 := grownCap_ge w (l0.length + l.length) l0.length 5
 have h2 : grownCap w (l0.length + l.length) l0.length 5 ≤ maxLen := grownCap_le_maxLen w (l0.length + l.length) l0.length 5 (by unfold maxLen; omega)
 generalize hcap : grownCap w (l0.length + l.length) l0.length 5 = cap at *
 have hz1' : (Value.int IntKind.u8 0).cells.size = 1 := rfl
 obtain ⟨v', w', hrun, hown, hbel⟩ : ∃ v' w', (Builtin.append_ #[28, 9] o.type #[.slice (some ⟨g, 0, none⟩) l0.length l0.length, .string b]).run Tryd.prog w = .ok v' w' ∧ ownB w' w.heap.size v' (l0 ++ l) ∧ Below w.heap.size w w' := by
  refine ⟨_, _, hr, ⟨by simp, .inr ⟨w.heap.size, cap, _, by rw [List.length_append], Nat.le_refl _, heap_alloc_new w.drew _, by rw [List.length_append]; exact h1, h2, ?_, ?_⟩⟩, (Below.refl _ w).drew.alloc (Nat.le_refl _) _⟩
  ·simp only [Array.size_append, List.size_toArray, size_zeroCells, hz1', List.length_map]
   omega
  ·simp only [Array.toList_append, List.append_assoc]
   rw [List.length_append, Nat.mul_one, List.map_append, ← List.append_assoc]
   have e : (List.map (Value.int IntKind.u8) l0 ++ List.map (Value.int IntKind.u8) l).length = l0.length + l.length := by simp
   rw [← e]
   exact List.take_left
 unfold Oper.wp
 simp [execOp, ho, resolve, invoke, builtin, hs, hx, hrun, Result.andThen]
 exact hK' _ _ (h v' w' hown hbel)

theorem rdA_tabT {C : Nat} {w : World} {i l : Int} {d : Bool} {vc vt : Value} {m : Am} (h : RdA C w (agt i l d vc vt) m) : RdT C w (tab vc) m.c ∧ RdT C w (tab vt) m.t := by
 obtain ⟨vc', vt', e, h1, h2⟩ := h
 have e2 : vc = vc' ∧ vt = vt' := by
  simp only [agt, Value.agg.injEq, Array.mk.injEq, List.cons.injEq] at e
  exact ⟨e.2.2.2.1, e.2.2.2.2.1⟩
 obtain ⟨rfl, rfl⟩ := e2
 exact ⟨⟨_, rfl, h1⟩, ⟨_, rfl, h2⟩⟩
theorem rd_const (w : World) : Rd (w.alloc (.cells #[.int .u8 97, .int .u8 103, .int .u8 101, .int .u8 110, .int .u8 116, .int .u8 32] 5 (6, 7))) (some ⟨w.heap.size, 0, none⟩) [97, 103, 101, 110, 116, 32] := by
 have h := heap_alloc_new w (.cells #[.int .u8 97, .int .u8 103, .int .u8 101, .int .u8 110, .int .u8 116, .int .u8 32] 5 (6, 7))
 refine .inr ⟨w.heap.size, 0, rfl, by simp, fun j hj => ?_⟩
 rw [Nat.zero_add]
 match j, hj with
 | 0, _ => exact cellT h 0 _ rfl
 | 1, _ => exact cellT h 1 _ rfl
 | 2, _ => exact cellT h 2 _ rfl
 | 3, _ => exact cellT h 3 _ rfl
 | 4, _ => exact cellT h 4 _ rfl
 | 5, _ => exact cellT h 5 _ rfl
theorem flow_cells {w : World} {b2 n c : Nat} {g : Nat} {l : List (Int × Int)} (h : ownL layF 48 w b2 (.slice (some ⟨g, 0, none⟩) n c) l) {k : Nat} (hk : k < l.length) : w.cell? ⟨g, k * 2, none⟩ = some (.int .i64 (l.getD k (0, 0)).1) ∧ w.cell? ⟨g, k * 2 + 1, none⟩ = some (.int .i64 (l.getD k (0, 0)).2) := by
 have hn : n = l.length := by
  have h3 := h.1
  rcases h.2 with ⟨e, _⟩ | ⟨g', cap, cur, e, _⟩
  ·cases e
  ·injection e
 subst hn
 have h2 := ownL.rd h
 rcases h2 with h2 | ⟨b, off, ho, _, hc⟩
 ·rw [h2] at hk; simp at hk
 ·injection ho with ho
  injection ho with e1 e2
  subst e1 e2
  have c0 := hc k hk 0 (by decide)
  have c1 := hc k hk 1 (by decide)
  exact ⟨by simpa [layF] using c0, by simpa [layF] using c1⟩
theorem own_at {w : World} {b2 n c : Nat} {o : Option Addr} {l : List (Int × Int)} (h : ownL layF 48 w b2 (.slice o n c) l) (hl : 0 < l.length) : ∃ g, o = some ⟨g, 0, none⟩ ∧ g < w.heap.size := by
 rcases h.2 with ⟨_, h2⟩ | ⟨g, cap, cur, h1, _, h3, _⟩
 ·omega
 ·injection h1 with e1 e2 e3
  exact ⟨g, e1, (Array.getElem?_eq_some_iff.1 h3).1⟩

end Go.Proofs.YtljogkoaaidlcaaDoor

