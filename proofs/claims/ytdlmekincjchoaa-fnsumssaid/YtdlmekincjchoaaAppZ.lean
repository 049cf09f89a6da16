/- 'append' of a make's noughts onto a row of bytes of the call's own; 'append' behind a guard that says yes. -/
import Derived.Test.YtdlmekincjchoaaApp
import Derived.Lib.AppendZerosOnto
namespace Go.Proofs.Ytdlmekincjchoaa
open Go.ChangeShapes Go.WideShapes Go.ChangeAt Go.RowKit Go.Joins
set_option linter.unusedVariables false
set_option linter.unusedSimpArgs false

theorem zeros8 (k : Nat) : (Builtin.zeroCells (Value.int .u8 0).cells k).toList = List.replicate k (.int .u8 0) := by
  apply List.ext_getElem?
  intro j
  by_cases hj : j < k
  · simp [Builtin.zeroCells, Value.cells, hj, Nat.mod_one]
  · simp [Builtin.zeroCells, Value.cells, hj]
theorem zeros8a (k : Nat) : Builtin.zeroCells (Value.int .u8 0).cells k = (List.replicate k (Value.int .u8 0)).toArray := by
  rw [← zeros8 k]
theorem run_append_zeros {w : World} (ty : TypeId) (base : Nat) (v : Value) (l0 : List Int) (hown : ownB w base v l0) (k : Nat) (h0 : 0 < k) (hk : l0.length + k ≤ 1000000) (hbase : base ≤ w.heap.size) :
    ∃ v' w', (Builtin.append_ #[22, 3] ty #[v, .int .i64 k]).run Try.prog w = .ok v' w' ∧ ownB w' base v' (l0 ++ List.replicate k 0) ∧ Below base w w' := by
  obtain ⟨i0, hi, hz0, hz1, hz2⟩ := info_parts infoU8
  have hlen : ((l0 ++ List.replicate k 0).map (Value.int .u8)).length = (l0 ++ List.replicate k (0 : Int)).length * 1 := by simp
  have grown : ∀ (old : Nat), old < l0.length + k →
      ownB (w.drew.alloc (.cells ((l0.map (Value.int .u8)).toArray ++ Builtin.zeroCells (Value.int .u8 0).cells k ++ Builtin.zeroCells (Value.int .u8 0).cells (grownCap w (l0.length + k) old 5 - (l0.length + k))) 5)) base
        (.slice (some ⟨w.heap.size, 0, none⟩) (l0.length + k) (grownCap w (l0.length + k) old 5)) (l0 ++ List.replicate k 0) ∧
      Below base w (w.drew.alloc (.cells ((l0.map (Value.int .u8)).toArray ++ Builtin.zeroCells (Value.int .u8 0).cells k ++ Builtin.zeroCells (Value.int .u8 0).cells (grownCap w (l0.length + k) old 5 - (l0.length + k))) 5)) := by
    intro old ho
    have hge := grownCap_ge w (l0.length + k) old 5
    have hcm : grownCap w (l0.length + k) old 5 ≤ maxLen := grownCap_le_maxLen w (l0.length + k) old 5 (by unfold maxLen; omega)
    generalize grownCap w (l0.length + k) old 5 = c at *
    refine ⟨⟨hlen, .inr ⟨w.heap.size, c, _, by simp, hbase, heap_alloc_new w.drew _, by simp; omega, hcm, ?_, ?_⟩⟩, ((Below.refl base w).drew).alloc hbase _⟩
    · rw [zeros8a, zeros8a]; simp; omega
    · rw [zeros8a, zeros8a]
      simp only [List.map_append, List.map_replicate, List.append_toArray, List.length_append, List.length_replicate, Nat.mul_one]
      exact List.take_left' (by simp)
  rcases hown.2 with ⟨rfl, h2⟩ | ⟨g, cap, cur, rfl, hbg, hg, hnc, hcm, hcs, htake⟩
  · have e : l0 = [] := List.eq_nil_of_length_eq_zero h2
    subst e
    have hr := Go.Lib.run_append_grow_zeros (P := Try.prog) w 22 3 ty 5 i0 (.int .u8 0) .i64 .i64 Try.underlying22 Try.underlying3 hi hz0 none 0 0 [] (by simp [Builtin.firstCells]) k h0 (by rw [hz1]; decide) (by omega) (by simp at hk ⊢; omega) (by rw [hz2]; simp at hk ⊢; omega) (growslice_fits (by omega) (by rw [hz2]; simp at hk ⊢; omega))
    obtain ⟨g1, g2⟩ := grown 0 (by simp; omega)
    exact ⟨_, _, hr, g1, g2⟩
  · by_cases hroom : l0.length + k ≤ cap
    · have hst := run_storeCells_at Try.prog g (l0.length * 1) 5 (List.replicate k (Value.int .u8 0)) 0 cur w hg (by simp; omega) (by intro u hu; rw [List.eq_of_mem_replicate hu]; rfl)
      have hw : IntKind.i64.wrap (k : Int) = k := by rw [IntKind.wrap_i64]; omega
      have hneg : ¬ ((k : Int) < 0) := by omega
      have hb : ¬ (281474976710656 < (k : Int)) := by omega
      have hr : (Builtin.append_ #[22, 3] ty #[.slice (some ⟨g, 0, none⟩) l0.length cap, .int .i64 k]).run Try.prog w = .ok (.slice (some ⟨g, 0, none⟩) (l0.length + k) cap) (w.setRow g (cur.toList.take (l0.length * 1 + 0) ++ List.replicate k (Value.int .u8 0) ++ cur.toList.drop (l0.length * 1 + 0 + (List.replicate k (Value.int .u8 0)).length)).toArray) := by
        have hks : ¬ (k = 0) := by omega
        simp only [Nat.mul_one, Nat.add_zero] at hst ⊢
        simp [Builtin.append_, run_underlying Try.underlying22, run_underlying Try.underlying3, sizeOf, typeInfo, zeroValue, hi, hz0, hz1, hz2, asInt, asIntOf, hw, hneg, hb, hroom, hks, zeros8, Addr.add_lit, hst]
      refine ⟨_, _, hr, ⟨hlen, .inr ⟨g, cap, _, by simp, hbg, setRow_heap w g cur _ 5 _ hg, by simp; omega, hcm, ?_, ?_⟩⟩, ⟨rfl, rfl, rfl, by simp, fun q hq => setRow_other w g q _ (by omega)⟩⟩
      · simp only [List.size_toArray, List.length_append, List.length_take, List.length_drop, Array.length_toList, List.length_replicate]
        omega
      · simp only [Nat.add_zero]
        rw [htake, List.map_append, List.map_replicate]
        exact List.take_left' (by simp)
    · have hr := Go.Lib.run_append_grow_zeros (P := Try.prog) w 22 3 ty 5 i0 (.int .u8 0) .i64 .i64 Try.underlying22 Try.underlying3 hi hz0 (some ⟨g, 0, none⟩) l0.length cap (l0.map (Value.int .u8)) (by rw [hz1]; exact run_firstCells_some w.drew 1 l0.length ⟨g, 0, none⟩ _ _ _ (by simp) (fun j u hj => hown.cells (g := g) rfl j u hj)) k h0 (by rw [hz1]; decide) (by omega) (by omega) (by rw [hz2]; omega) (growslice_fits (by omega) (by rw [hz2]; omega))
      obtain ⟨g1, g2⟩ := grown cap (by omega)
      exact ⟨_, _, hr, g1, g2⟩

/-- Both, behind a guard that says yes. -/
theorem wpList_wanted {P : Program} {ops : Array Oper} {rest : List Oper} {o : Oper} {a : Act} {w : World} {Q : Exit → Act → World → Prop} (hw : Region.wanted o (yielded ops a.tmps) = true)
    (h : ∀ K : Act → World → Prop, (∀ a w, wpList P ops Q rest a w → K a w) → o.wp P a w K Q) : wpList P ops Q (o :: rest) a w :=
  wpList_step fun K hK => by rw [if_pos hw]; exact h K hK
theorem wpList_append_zeros_g {w : World} {ops : Array Oper} {rest : List Oper} {o : Oper} {a : Act} {Q : Exit → Act → World → Prop} (hw : Region.wanted o (yielded ops a.tmps) = true) (s x : Operand)
    (ho : o.op = .call { callee := .builtin .append, args := #[s, x], argTypes := #[22, 3] }) (base : Nat) (v : Value) (l0 : List Int) (hs : a.eval s = v) (hown : ownB w base v l0)
    (k : Nat) (q : Int) (hq : q = k) (hx : a.eval x = .int .i64 q) (h0 : 0 < k) (hlen : l0.length + k ≤ 1000000) (hbase : base ≤ w.heap.size)
    (h : ∀ v' w', ownB w' base v' (l0 ++ List.replicate k 0) → Below base w w' → wpList Try.prog ops Q rest (a.put o.dst v') w') : wpList Try.prog ops Q (o :: rest) a w := by
  subst hq
  refine wpList_wanted hw fun K hK => ?_
  obtain ⟨v', w', hr, h1, h2⟩ := run_append_zeros o.type base v l0 hown k h0 hlen hbase
  unfold Oper.wp execOp
  simp only [ho, resolve, invoke, builtin, Sem.run_bind, Sem.run_pure, Result.andThen_ok, List.map_toArray, List.map_cons, List.map_nil, hs, hx, hr]
  exact hK _ _ (h v' w' h1 h2)
theorem wpList_append_bytes_g {w : World} {ops : Array Oper} {rest : List Oper} {o : Oper} {a : Act} {Q : Exit → Act → World → Prop} (hw : Region.wanted o (yielded ops a.tmps) = true) (s x : Operand)
    (ho : o.op = .call { callee := .builtin .append, args := #[s, x], argTypes := #[22, 22] }) (base : Nat) (v : Value) (l0 : List Int) (hs : a.eval s = v) (hown : ownB w base v l0)
    (ob : Option Addr) (c : Nat) (l : List Int) (hx : a.eval x = .slice ob l.length c) (hnil : ob = none → c = 0) (hR : Rd w ob l) (hlen : l0.length + l.length ≤ 1099511627776) (hbase : base ≤ w.heap.size)
    (h : ∀ v' w', ownB w' base v' (l0 ++ l) → Below base w w' → wpList Try.prog ops Q rest (a.put o.dst v') w') : wpList Try.prog ops Q (o :: rest) a w := by
  refine wpList_wanted hw fun K hK => ?_
  have hb : ∀ w', w.grownBy w' v.ownBlock → Below base w w' := fun w' hg => (Below.refl _ _).grown hg hbase (fun k e => (hown.lt k e).1)
  obtain ⟨i0, hi, hz0, hz1, hz2⟩ := info_parts infoU8
  cases ob with
  | none =>
    have e := hR.nil
    subst e
    have hc := hnil rfl
    subst hc
    have hrun := run_append_owned_none (P := Try.prog) (w := w) base 22 o.type 5 i0 1 Try.underlying22 hi v _ _ hown
    unfold Oper.wp
    simp [execOp, ho, resolve, invoke, builtin, hs, hx, hrun, Result.andThen]
    exact hK _ _ (h v w (by simpa using hown) (Below.refl _ _))
  | some ad =>
    refine wp_append_own _ s x 22 ho base 5 i0 (.int .u8 0) 1 1 Try.underlying22 hi hz0 hz1 hz2 rfl (by decide) v _ _ hs hown ad l.length c (l.map (Value.int .u8)) hx (by simp) hR.news (ints_oneCell .u8 l) (by unfold maxLen; omega) (by omega) hbase ?_
    intro v' w' h1 h2 _
    exact hK _ _ (h v' w' (by unfold ownB; simpa using h1) (hb _ h2))

end Go.Proofs.Ytdlmekincjchoaa
