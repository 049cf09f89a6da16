/- backsAfter: one that has another weight, one that drains; all four kinds together. -/
import Derived.Test.YtldjaapbkihibaaSAfter2
namespace Go.Proofs.Ytldjaapbkihibaa
open Go.ChangeShapes Go.WideShapes Go.ChangeAt Go.RowKit Go.Joins
set_option linter.unusedVariables false
set_option linter.unusedSimpArgs false

theorem flat_cell {α : Type} (L : Lay α) {u : Value} {a : α} {j : Nat} (hj : j < L.k) : ∀ {l : List α} {k : Nat}, k < l.length → L.cs a = (L.cs (l.getD k L.d)).set j u → (l.flatMap L.cs).set (k * L.k + j) u = (l.set k a).flatMap L.cs
  | [], k, hk, ha => by simp at hk
  | x :: l, 0, hk, ha => by
    simp only [List.flatMap_cons, List.set_cons_zero, Nat.zero_mul, Nat.zero_add]
    rw [ha, List.set_append_left _ _ (by rw [L.len]; exact hj)]
    rfl
  | x :: l, k + 1, hk, ha => by
    simp only [List.flatMap_cons, List.set_cons_succ]
    rw [List.set_append_right _ _ (by rw [L.len, Nat.succ_mul]; omega), L.len]
    have e : (k + 1) * L.k + j - L.k = k * L.k + j := by rw [Nat.succ_mul]; omega
    rw [e, flat_cell L hj (l := l) (k := k) (by simpa using hk) (by simpa using ha)]
theorem there_is {l : List Bk} {id : Int} (h : thereB l id = true) : (l.getD (placeN l id) (0, 0, false)).1 = id := by
  unfold thereB at h; simp only [Bool.and_eq_true, beq_iff_eq] at h; exact h.2
theorem rec_w {b : Bk} {id g : Int} (h : b.1 = id) : layK.cs (id, g, b.2.2) = (layK.cs b).set 1 (.int .i64 g) := by subst h; rfl
theorem rec_d {b : Bk} {id : Int} (h : b.1 = id) : layK.cs (id, b.2.1, true) = (layK.cs b).set 2 (.bool true) := by subst h; rfl
theorem clone_at {w : World} {base : Nat} {v : Value} {l : List Bk} (h : ownK w base v l) {pl : Nat} (hp : pl < l.length) (A : Obj) :
    ∃ g c, v = .slice (some ⟨g, 0, none⟩) l.length c ∧ base ≤ g ∧ (w.alloc A).ownsRow base 39 3 (.slice (some ⟨g, 0, none⟩) l.length c) l.length (l.flatMap layK.cs) := by
  rcases h.2 with ⟨h1, h2⟩ | ⟨g, c, cur, h1, hb, _⟩
  · omega
  · subst h1
    exact ⟨g, c, rfl, hb, World.ownsRow.alloc h A⟩
theorem clone_cell {w : World} {base g c : Nat} {l : List Bk} (h : w.ownsRow base 39 3 (.slice (some ⟨g, 0, none⟩) l.length c) l.length (l.flatMap layK.cs)) {pl : Nat} (hp : pl < l.length) (j : Nat) (hj : j < 3) : ∃ u, w.cell? ⟨g, pl * 3 + j, none⟩ = some u := by
  have hln : (l.flatMap layK.cs).length = l.length * 3 := by rw [flat_length]; rfl
  exact ⟨_, (h.cellAt (pl * 3 + j) (by omega)).trans (List.getElem?_eq_getElem (by omega))⟩
theorem own_cell1 {w : World} {base g c : Nat} {l : List Bk} (h : w.ownsRow base 39 3 (.slice (some ⟨g, 0, none⟩) l.length c) l.length (l.flatMap layK.cs)) {pl : Nat} (hp : pl < l.length) (j : Nat) (hj : j < 3) (u : Value) {a : Bk} (ha : layK.cs a = (layK.cs (l.getD pl layK.d)).set j u) : ownK (w.setCell ⟨g, pl * 3 + j, none⟩ u) base (.slice (some ⟨g, 0, none⟩) l.length c) (l.set pl a) := by
  have h1 := (h.stored (pl * 3 + j) u).1
  rw [show pl * 3 + j = pl * layK.k + j from rfl, flat_cell layK (a := a) hj hp ha] at h1
  unfold ownK ownL
  rw [List.length_set]
  exact h1

set_option maxRecDepth 100000 in
set_option maxHeartbeats 4000000 in
theorem after_weigh (o : Option Addr) (cap : Nat) (l : List Bk) (id g : Int) (w : World) (hR : RdK w.heap.size w o l) (hn : o = none → cap = 0) (hl : l.length ≤ 1000) :
    Calls Try.prog 57 #[.slice o l.length cap, .iface 151 (.agg #[.int .i64 id, .int .i64 g])] w fun e w' => ∃ v, e = .returned (.tuple #[v, .bool (thereB l id)]) ∧ (thereB l id = false → v = .slice none 0 0) ∧ (thereB l id = true → ownK w' w.heap.size v (l.set (placeN l id) (id, g, (l.getD (placeN l id) (0, 0, false)).2.2))) ∧ Below w.heap.size w w' := by
  have hp := fun w hR => placeOf_any o cap l id w hR (by omega)
  have HP := hide (there_lt (l := l) (id := id))
  have HI := hide (there_is (l := l) (id := id))
  generalize thereB l id = t at hp HP HI ⊢
  generalize placeN l id = pl at hp HP HI ⊢
  have ht0 : ∀ w, Sem.run Try.prog (Instr.typeAssert (.iface 151 (.agg #[.int .i64 id, .int .i64 g])) 96 150 true) w = .ok (.tuple #[.agg #[.int .i64 0, .int .i64 0], .bool false]) w := fun w => by kernel_rfl
  have ht1 : ∀ w, Sem.run Try.prog (Instr.typeAssert (.iface 151 (.agg #[.int .i64 id, .int .i64 g])) 96 151 true) w = .ok (.tuple #[.agg #[.int .i64 id, .int .i64 g], .bool true]) w := fun w => by kernel_rfl
  have eW : ∀ args w, (callFunc 169 args).run Try.prog w = .ok (.enter 169 args) w := enters_of Try.func169 (by kernel_rfl) rfl
  cases t
  · go_enter Try.func57, Try.ntmps57
    go_wp2_with fail
    rw [just_so (x := Sem.run Try.prog (method _ _ (.agg #[.int .i64 id, .int .i64 g]) _) w) (y := Result.ok (169, .agg #[.int .i64 id]) w) ?hm]
    case hm => kernel_rfl
    go_wp2_with (first | (go_at_call 169; refine (whom_any id _).mono ?_; rintro e w1 ⟨rfl, hb0⟩; have hR1 := hide ((RdL.kept hR hb0 (Nat.le_refl _)).le hb0.size); have HB0 := hide hb0; clear hb0) | (go_at_call 108; refine (hp _ hR1.out).mono ?_; rintro e w2 ⟨rfl, hb1⟩; have HB1 := hide hb1; clear hb1))
    go_ret2
    refine ⟨_, rfl, fun _ => rfl, ?_, ?_⟩
    · intro h; cases h
    · exact (HB0.out.trans (HB1.out.mono HB0.out.size)).alloc (Nat.le_trans HB0.out.size HB1.out.size) _
  · have HPL : Hid (pl < l.length) := HP.out rfl
    have HI2 := HI.out rfl
    have HI3 := hide HI2
    clear HI2 HI
    have z1 : (pl : Int) < (l.length : Int) := by have := HP.out rfl; omega
    have z0 : (0 : Int) ≤ (pl : Int) := by omega
    go_enter Try.func57, Try.ntmps57
    go_wp2_with fail
    rw [just_so (x := Sem.run Try.prog (method _ _ (.agg #[.int .i64 id, .int .i64 g]) _) w) (y := Result.ok (169, .agg #[.int .i64 id]) w) ?hm]
    case hm => kernel_rfl
    go_wp2_with (first | (go_at_call 169; refine (whom_any id _).mono ?_; rintro e w1 ⟨rfl, hb0⟩; have hR1 := hide ((RdL.kept hR hb0 (Nat.le_refl _)).le hb0.size); have HB0 := hide hb0; clear hb0) | (go_at_call 108; refine (hp _ hR1.out).mono ?_; rintro e w2 ⟨rfl, hb1⟩; have hR2 := hide ((RdL.kept hR1.out hb1 (Nat.le_refl _)).le hb1.size); have HB1 := hide hb1; clear hb1) | (go_at_call 109; refine (cloneBacks_any o cap l _ (rd_alloc hR2.out _) hn (by omega)).mono ?_; rintro e w3 ⟨v3, rfl, hv3, hb3⟩; obtain ⟨g3, c3, rfl, hg3, ho⟩ := clone_at hv3 HPL.out (.cells #[.int .i64 id, .int .i64 g] 151); have hc3 := clone_cell ho HPL.out 1 (by decide); have hf3 := ho.frozenAt (pl * 3 + 1); have HO := hide ho; have HB3 := hide hb3; have HG3 := hide hg3; clear ho hv3 hb3 hg3; obtain ⟨u3, hu3⟩ := hc3))
    go_ret2
    have s1 := HB0.out.size
    have s2 := HB1.out.size
    have B2 : Below w.heap.size w w2 := HB0.out.trans (HB1.out.mono s1)
    have B2a := B2.alloc (Nat.le_trans s1 s2) (.cells #[.int .i64 0, .int .i64 0] 150)
    have s3 := B2a.size
    have s4 := HB3.out.size
    have s5 := HG3.out
    refine ⟨_, rfl, ?_, fun _ => own_mono (own_cell1 HO.out HPL.out 1 (by decide) (.int .i64 g) (a := (id, g, (l.getD pl (0, 0, false)).2.2)) (rec_w HI3.out)) s3, (((B2a.trans (HB3.out.mono s3)).alloc (by omega) _).setCell (p := ⟨g3, pl * 3 + 1, none⟩) (show w.heap.size ≤ g3 by omega) _)⟩
    intro h; cases h

set_option maxRecDepth 100000 in
set_option maxHeartbeats 4000000 in
theorem after_drain (o : Option Addr) (cap : Nat) (l : List Bk) (id : Int) (w : World) (hR : RdK w.heap.size w o l) (hn : o = none → cap = 0) (hl : l.length ≤ 1000) :
    Calls Try.prog 57 #[.slice o l.length cap, .iface 153 (.agg #[.int .i64 id])] w fun e w' => ∃ v, e = .returned (.tuple #[v, .bool (thereB l id)]) ∧ (thereB l id = false → v = .slice none 0 0) ∧ (thereB l id = true → ownK w' w.heap.size v (l.set (placeN l id) (id, (l.getD (placeN l id) (0, 0, false)).2.1, true))) ∧ Below w.heap.size w w' := by
  have hp := fun w hR => placeOf_any o cap l id w hR (by omega)
  have HP := hide (there_lt (l := l) (id := id))
  have HI := hide (there_is (l := l) (id := id))
  generalize thereB l id = t at hp HP HI ⊢
  generalize placeN l id = pl at hp HP HI ⊢
  have ht0 : ∀ w, Sem.run Try.prog (Instr.typeAssert (.iface 153 (.agg #[.int .i64 id])) 96 150 true) w = .ok (.tuple #[.agg #[.int .i64 0, .int .i64 0], .bool false]) w := fun w => by kernel_rfl
  have ht1 : ∀ w, Sem.run Try.prog (Instr.typeAssert (.iface 153 (.agg #[.int .i64 id])) 96 151 true) w = .ok (.tuple #[.agg #[.int .i64 0, .int .i64 0], .bool false]) w := fun w => by kernel_rfl
  have ht2 : ∀ w, Sem.run Try.prog (Instr.typeAssert (.iface 153 (.agg #[.int .i64 id])) 96 153 true) w = .ok (.tuple #[.agg #[.int .i64 id], .bool true]) w := fun w => by kernel_rfl
  have eW : ∀ args w, (callFunc 169 args).run Try.prog w = .ok (.enter 169 args) w := enters_of Try.func169 (by kernel_rfl) rfl
  cases t
  · go_enter Try.func57, Try.ntmps57
    go_wp2_with fail
    rw [just_so (x := Sem.run Try.prog (method _ _ (.agg #[.int .i64 id]) _) w) (y := Result.ok (169, .agg #[.int .i64 id]) w) ?hm]
    case hm => kernel_rfl
    go_wp2_with (first | (go_at_call 169; refine (whom_any id _).mono ?_; rintro e w1 ⟨rfl, hb0⟩; have hR1 := hide ((RdL.kept hR hb0 (Nat.le_refl _)).le hb0.size); have HB0 := hide hb0; clear hb0) | (go_at_call 108; refine (hp _ hR1.out).mono ?_; rintro e w2 ⟨rfl, hb1⟩; have HB1 := hide hb1; clear hb1))
    go_ret2
    refine ⟨_, rfl, fun _ => rfl, ?_, ?_⟩
    · intro h; cases h
    · exact (HB0.out.trans (HB1.out.mono HB0.out.size)).alloc (Nat.le_trans HB0.out.size HB1.out.size) _
  · have HPL : Hid (pl < l.length) := HP.out rfl
    have HI2 := HI.out rfl
    have HI3 := hide HI2
    clear HI2 HI
    have z1 : (pl : Int) < (l.length : Int) := by have := HP.out rfl; omega
    have z0 : (0 : Int) ≤ (pl : Int) := by omega
    go_enter Try.func57, Try.ntmps57
    go_wp2_with fail
    rw [just_so (x := Sem.run Try.prog (method _ _ (.agg #[.int .i64 id]) _) w) (y := Result.ok (169, .agg #[.int .i64 id]) w) ?hm]
    case hm => kernel_rfl
    go_wp2_with (first | (go_at_call 169; refine (whom_any id _).mono ?_; rintro e w1 ⟨rfl, hb0⟩; have hR1 := hide ((RdL.kept hR hb0 (Nat.le_refl _)).le hb0.size); have HB0 := hide hb0; clear hb0) | (go_at_call 108; refine (hp _ hR1.out).mono ?_; rintro e w2 ⟨rfl, hb1⟩; have hR2 := hide ((RdL.kept hR1.out hb1 (Nat.le_refl _)).le hb1.size); have HB1 := hide hb1; clear hb1) | (go_at_call 109; refine (cloneBacks_any o cap l _ (rd_alloc hR2.out _) hn (by omega)).mono ?_; rintro e w3 ⟨v3, rfl, hv3, hb3⟩; obtain ⟨g3, c3, rfl, hg3, ho⟩ := clone_at hv3 HPL.out (.cells #[.int .i64 id] 153); have hc3 := clone_cell ho HPL.out 2 (by decide); have hf3 := ho.frozenAt (pl * 3 + 2); have HO := hide ho; have HB3 := hide hb3; have HG3 := hide hg3; clear ho hv3 hb3 hg3; obtain ⟨u3, hu3⟩ := hc3))
    go_ret2
    have s1 := HB0.out.size
    have s2 := HB1.out.size
    have B2 : Below w.heap.size w w2 := HB0.out.trans (HB1.out.mono s1)
    have B2a := B2.alloc (Nat.le_trans s1 s2) (.cells #[.int .i64 0, .int .i64 0] 150)
    have s3 := B2a.size
    have s4 := HB3.out.size
    have s5 := HG3.out
    refine ⟨_, rfl, ?_, fun _ => own_mono (own_cell1 HO.out HPL.out 2 (by decide) (.bool true) (a := (id, (l.getD pl (0, 0, false)).2.1, true)) (rec_d HI3.out)) s3, (((B2a.trans (HB3.out.mono s3)).alloc (by omega) _).setCell (p := ⟨g3, pl * 3 + 2, none⟩) (show w.heap.size ≤ g3 by omega) _)⟩
    intro h; cases h

/-- What a command makes of those who serve: its list, or none. -/
theorem backsAfter_any (o : Option Addr) (cap : Nat) (l : List Bk) (k i g : Int) (w : World) (hR : RdK w.heap.size w o l) (hn : o = none → cap = 0) (hl : l.length ≤ 1000) (hk : cmdOkB k i g = true) :
    Calls Try.prog 57 #[.slice o l.length cap, deedV k i g] w fun e w' => ∃ v, e = .returned (.tuple #[v, .bool (doL l k i g).isSome]) ∧ (∀ m, doL l k i g = some m → ownK w' w.heap.size v m) ∧ Below w.heap.size w w' := by
  unfold deedV doL
  by_cases h0 : k = 0
  · subst h0
    refine (after_add o cap l i g w hR hn hl).mono ?_
    rintro e w' ⟨v, rfl, _, h2, hb⟩
    refine ⟨v, ?_, ?_, hb⟩
    · cases thereB l i <;> rfl
    · intro m hm
      cases ht : thereB l i with
      | true => rw [ht] at hm; simp at hm
      | false => rw [ht] at hm; simp at hm; rw [← hm]; exact h2 ht
  · have hk0 : (k == 0) = false := beq_eq_false_iff_ne.2 h0
    rw [hk0]
    by_cases h1 : k = 1
    · subst h1
      refine (after_weigh o cap l i g w hR hn hl).mono ?_
      rintro e w' ⟨v, rfl, _, h2, hb⟩
      refine ⟨v, ?_, ?_, hb⟩
      · cases thereB l i <;> rfl
      · intro m hm
        cases ht : thereB l i with
        | false => rw [ht] at hm; simp at hm
        | true => rw [ht] at hm; simp at hm; rw [← hm]; exact h2 ht
    · by_cases h2 : k = 2
      · subst h2
        refine (after_drain o cap l i w hR hn hl).mono ?_
        rintro e w' ⟨v, rfl, _, h2, hb⟩
        refine ⟨v, ?_, ?_, hb⟩
        · cases thereB l i <;> rfl
        · intro m hm
          cases ht : thereB l i with
          | false => rw [ht] at hm; simp at hm
          | true => rw [ht] at hm; simp at hm; rw [← hm]; exact h2 ht
      · rw [if_neg h0, if_neg h1, if_neg h2]
        refine (after_remove o cap l i w hR hn hl).mono ?_
        rintro e w' ⟨v, rfl, _, h3, hb⟩
        refine ⟨v, ?_, ?_, hb⟩
        · cases thereB l i <;> rfl
        · intro m hm
          cases ht : thereB l i with
          | false => rw [ht] at hm; simp at hm
          | true => rw [ht] at hm; simp [h0, h1, h2] at hm; rw [← hm]; exact h3 ht

end Go.Proofs.Ytldjaapbkihibaa
