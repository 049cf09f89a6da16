/- Flows as text: the model's l1flow, the program's appendFlow. -/
import Derived.Test.YtoeoiljddcjphaaDoorSInt
namespace Go.Proofs.YtoeoiljddcjphaaDoor
open Go.ChangeShapes Go.WideShapes Go.ChangeAt Go.RowKit Go.Joins
set_option linter.unusedVariables false
set_option linter.unusedSimpArgs false

/-- A flow's text: Addr, a colon, Port. -/
def flowTL (a p : Nat) : List Int := digL a ++ ([58] ++ digL p)
theorem flowTL_len (a p : Nat) : (flowTL a p).length ≤ a + p + 3 := by have := digL_len a; have := digL_len p; simp [flowTL]; omega
theorem flowTL_isB (a p : Nat) : isB (flowTL a p) := by
  intro x hx
  simp [flowTL] at hx
  rcases hx with h | h | h
  · exact digL_isB a x h
  · subst h; decide
  · exact digL_isB p x h
theorem flowTL_eq (l : List Int) (a p : Nat) : ((l ++ digL a) ++ [58]) ++ digL p = l ++ flowTL a p := by simp [flowTL]

set_option maxRecDepth 100000 in
set_option maxHeartbeats 2000000 in
theorem l1flow_any (base : Nat) (v : Value) (l : List Int) (a p : Nat) (w : World) (hv : ownB w base v l) (hbase : base ≤ w.heap.size) (ha : a ≤ 1000000) (hp : p ≤ 1000000) (hlen : l.length ≤ 1000000000) :
    Calls Tryd.prog 79 #[v, .agg #[.int .i64 a, .int .i64 p]] w fun e w' => ∃ v', e = .returned v' ∧ ownB w' base v' (l ++ flowTL a p) ∧ TxS base w w' := by
  have hla := digL_len a
  have hlp := digL_len p
  have HA := hide (fun W => l1digits_any a (by omega) W)
  have HP := hide (fun W => l1digits_any p (by omega) W)
  obtain ⟨W0, hW0⟩ : ∃ W, (w.alloc (.cells #[.int .i64 a, .int .i64 p] 24)) = W := ⟨_, rfl⟩
  have bx : W0.heap[w.heap.size]? = some (.cells #[.int .i64 a, .int .i64 p] 24 (0, 0)) := by rw [← hW0]; exact heap_alloc_new w _
  have hB0 : Below w.heap.size w W0 := by rw [← hW0]; exact (Below.refl _ _).alloc (Nat.le_refl _) _
  have ho0 : ownB W0 base v l := own_kept hv hB0
  have t0 : TxS base w W0 := TxS.below hB0 hbase
  have hs0 := t0.sz hbase
  clear hB0 hv
  have bxc0 : W0.cell? ⟨w.heap.size, 0, none⟩ = some (.int .i64 a) := cellT bx 0 _ rfl
  go_enter Tryd.func79, Tryd.ntmps79
  go_wp2_with fail
  refine (HA.out W0).mono ?_
  rintro e y1 ⟨q1, rfl, hq1, hb1⟩
  obtain ⟨o1, c1, rfl, R1⟩ := hq1.open
  have nl1 := own_nilB hq1
  have st1 := TxS.below hb1 hs0
  have hp1 := own_kept ho0 hb1
  clear ho0 hq1 hb1
  clear bxc0
  replace bx := st1.box bx (by decide)
  replace t0 := t0.trans st1
  replace hs0 := st1.sz hs0
  clear st1
  go_wp2_with (at_builtin; refine wpList_append_txt rfl _ _ rfl base v l rfl hp1 o1 c1 (digL a) _ rfl rfl nl1 R1 ?c2 hs0 ?_)
  case c2 => omega
  intro x2 y2 ho2 st2
  obtain ⟨K2, hK2⟩ : ∃ q, l ++ digL a = q := ⟨_, rfl⟩
  rw [hK2] at ho2
  have bK2 : K2.length ≤ 1001000001 := by rw [← hK2, List.length_append]; omega
  have EK2 := hide hK2
  clear hK2
  replace bx := st2.box bx (by decide)
  replace t0 := t0.trans st2
  replace hs0 := st2.sz hs0
  clear hp1 R1 nl1 st2
  go_wp2_with (at_builtin; refine wpList_append_one 58 rfl _ _ rfl base x2 K2 rfl ho2 rfl ?c3 hs0 ?_)
  case c3 => omega
  intro x3 y3 ho3 st3
  obtain ⟨K3, hK3⟩ : ∃ q, K2 ++ [58] = q := ⟨_, rfl⟩
  rw [hK3] at ho3
  have bK3 : K3.length ≤ 1001000002 := by rw [← hK3, List.length_append]; simp only [List.length_cons, List.length_nil]; omega
  have EK3 := hide hK3
  clear hK3
  replace bx := st3.box bx (by decide)
  replace t0 := t0.trans st3
  replace hs0 := st3.sz hs0
  clear ho2 st3
  have bxc1 : y3.cell? ⟨w.heap.size, 1, none⟩ = some (.int .i64 p) := cellT bx 1 _ rfl
  go_wp2_with fail
  refine (HP.out y3).mono ?_
  rintro e y4 ⟨q4, rfl, hq4, hb4⟩
  obtain ⟨o4, c4, rfl, R4⟩ := hq4.open
  have nl4 := own_nilB hq4
  have st4 := TxS.below hb4 hs0
  have hp4 := own_kept ho3 hb4
  clear ho3 hq4 hb4
  clear bxc1
  replace bx := st4.box bx (by decide)
  replace t0 := t0.trans st4
  replace hs0 := st4.sz hs0
  clear st4
  go_wp2_with (at_builtin; refine wpList_append_txt rfl _ _ rfl base x3 K3 rfl hp4 o4 c4 (digL p) _ rfl rfl nl4 R4 ?c5 hs0 ?_)
  case c5 => omega
  intro x5 y5 ho5 st5
  obtain ⟨K5, hK5⟩ : ∃ q, K3 ++ digL p = q := ⟨_, rfl⟩
  rw [hK5] at ho5
  have bK5 : K5.length ≤ 1002000003 := by rw [← hK5, List.length_append]; omega
  have EK5 := hide hK5
  clear hK5
  replace bx := st5.box bx (by decide)
  replace t0 := t0.trans st5
  replace hs0 := st5.sz hs0
  clear hp4 R4 nl4 st5
  have HO : Hid (ownB y5 base x5 (l ++ flowTL a p)) := by unfold Hid; rw [← flowTL_eq, EK2.out, EK3.out, EK5.out]; exact ho5
  have HT := hide t0
  clear ho5 t0
  go_wp2
  go_ret
  exact ⟨_, rfl, HO.out, HT.out⟩

set_option maxRecDepth 100000 in
set_option maxHeartbeats 2000000 in
theorem appendFlow_any (base : Nat) (v : Value) (l : List Int) (a p : Nat) (w : World) (hv : ownB w base v l) (hbase : base ≤ w.heap.size) (hT : PTab base w) (ha : a ≤ 1000000) (hp : p ≤ 1000000) (hlen : l.length ≤ 1000000000) :
    Calls Tryd.prog 64 #[v, .agg #[.int .i64 a, .int .i64 p]] w fun e w' => ∃ v', e = .returned v' ∧ ownB w' base v' (l ++ flowTL a p) ∧ TxS base w w' := by
  have hla := digL_len a
  have hlp := digL_len p
  obtain ⟨W0, hW0⟩ : ∃ W, (w.alloc (.cells #[.int .i64 a, .int .i64 p] 24)) = W := ⟨_, rfl⟩
  have bx : W0.heap[w.heap.size]? = some (.cells #[.int .i64 a, .int .i64 p] 24 (0, 0)) := by rw [← hW0]; exact heap_alloc_new w _
  have hB0 : Below w.heap.size w W0 := by rw [← hW0]; exact (Below.refl _ _).alloc (Nat.le_refl _) _
  have ho0 : ownB W0 base v l := own_kept hv hB0
  have t0 : TxS base w W0 := TxS.below hB0 hbase
  have hs0 := t0.sz hbase
  replace hT := hT.tx t0 (Nat.le_refl _)
  clear hB0 hv
  have bxc0 : W0.cell? ⟨w.heap.size, 0, none⟩ = some (.int .i64 a) := cellT bx 0 _ rfl
  go_enter Tryd.func64, Tryd.ntmps64
  go_wp2_with fail
  refine (appendInt_any base v l a W0 ho0 hs0 hT (by omega) (by omega)).mono ?_
  rintro e y1 ⟨x1, rfl, ho1, st1⟩
  obtain ⟨K1, hK1⟩ : ∃ q, l ++ digL a = q := ⟨_, rfl⟩
  rw [hK1] at ho1
  have bK1 : K1.length ≤ 1001000001 := by rw [← hK1, List.length_append]; omega
  have EK1 := hide hK1
  clear hK1
  clear bxc0
  replace bx := st1.box bx (by decide)
  replace hT := hT.tx st1 (Nat.le_refl _)
  replace t0 := t0.trans st1
  replace hs0 := st1.sz hs0
  clear ho0 st1
  go_wp2_with (at_builtin; refine wpList_append_one 58 rfl _ _ rfl base x1 K1 rfl ho1 rfl ?c2 hs0 ?_)
  case c2 => omega
  intro x2 y2 ho2 st2
  obtain ⟨K2, hK2⟩ : ∃ q, K1 ++ [58] = q := ⟨_, rfl⟩
  rw [hK2] at ho2
  have bK2 : K2.length ≤ 1001000002 := by rw [← hK2, List.length_append]; simp only [List.length_cons, List.length_nil]; omega
  have EK2 := hide hK2
  clear hK2
  replace bx := st2.box bx (by decide)
  replace hT := hT.tx st2 (Nat.le_refl _)
  replace t0 := t0.trans st2
  replace hs0 := st2.sz hs0
  clear ho1 st2
  have bxc1 : y2.cell? ⟨w.heap.size, 1, none⟩ = some (.int .i64 p) := cellT bx 1 _ rfl
  go_wp2_with fail
  refine (appendInt_any base x2 _ p y2 ho2 hs0 hT (by omega) (by omega)).mono ?_
  rintro e y3 ⟨x3, rfl, ho3, st3⟩
  obtain ⟨K3, hK3⟩ : ∃ q, K2 ++ digL p = q := ⟨_, rfl⟩
  rw [hK3] at ho3
  have bK3 : K3.length ≤ 1002000003 := by rw [← hK3, List.length_append]; omega
  have EK3 := hide hK3
  clear hK3
  clear bxc1
  replace bx := st3.box bx (by decide)
  replace hT := hT.tx st3 (Nat.le_refl _)
  replace t0 := t0.trans st3
  replace hs0 := st3.sz hs0
  clear ho2 st3
  have HO : Hid (ownB y3 base x3 (l ++ flowTL a p)) := by unfold Hid; rw [← flowTL_eq, EK1.out, EK2.out, EK3.out]; exact ho3
  have HT := hide t0
  clear ho3 t0
  go_wp2
  go_ret
  exact ⟨_, rfl, HO.out, HT.out⟩

end Go.Proofs.YtoeoiljddcjphaaDoor
