/- Several texts in one: SInsert2, SDeed, SAfter, SAfter2, SAfter3, JMath, IntsA, Ints. -/
import Derived.Test.YtflakpmcgopdaaaGrSInsert
import Derived.Lib.AppendZerosOnto
import Derived.Laws.NewBlocks
import Derived.Deep.DeepAppendWide
import Derived.Test.YtflakpmcgopdaaaGrLCmd
import Derived.Test.YtflakpmcgopdaaaGrSPlace
import Derived.Test.YtflakpmcgopdaaaLists
/- The library's Insert of one at rows of backs: the road with no room. -/
namespace Go.Proofs.Ytflakpmcgopdaaa
open Go.ChangeShapes Go.WideShapes Go.ChangeAt Go.RowKit Go.Joins
set_option linter.unusedVariables false
set_option linter.unusedSimpArgs false

/-- One put in: the cells of the new row, behind the two copies. -/
theorem fresh_cells {X cs R : List Value} {i n k : Nat} (hX : X.length = n * k) (hR : R.take (i * k) = X.take (i * k)) (hi : i ≤ n) (hc : cs.length = k) (hlen : (n + 1) * k ≤ R.length) :
    let c1 := R.take (i * k) ++ cs ++ R.drop (i * k + cs.length)
    (c1.take ((i + 1) * k) ++ X.drop (i * k) ++ c1.drop ((i + 1) * k + (X.drop (i * k)).length)).take ((n + 1) * k) = X.take (i * k) ++ cs ++ X.drop (i * k) ∧ (c1.take ((i + 1) * k) ++ X.drop (i * k) ++ c1.drop ((i + 1) * k + (X.drop (i * k)).length)).length = R.length ∧ c1.length = R.length := by
  intro c1
  have hk1 : (i + 1) * k = i * k + k := Nat.succ_mul i k
  have hn1 : (n + 1) * k = n * k + k := Nat.succ_mul n k
  have hik : i * k ≤ n * k := Nat.mul_le_mul_right k hi
  have hT : (X.take (i * k)).length = i * k := by rw [List.length_take]; omega
  have hD : (X.drop (i * k)).length = n * k - i * k := by rw [List.length_drop, hX]
  have e1 : c1 = X.take (i * k) ++ cs ++ R.drop (i * k + cs.length) := by show R.take (i * k) ++ cs ++ _ = _; rw [hR]
  have hl : c1.length = R.length := by rw [e1]; simp only [List.length_append, List.length_drop, hT, hc]; omega
  have t1 : c1.take ((i + 1) * k) = X.take (i * k) ++ cs := by rw [e1]; exact List.take_left' (by rw [List.length_append, hT, hc]; omega)
  refine ⟨?_, ?_, hl⟩
  · rw [t1]; exact List.take_left' (by simp only [List.length_append, hT, hc, hD]; omega)
  · rw [t1]; simp only [List.length_append, List.length_drop, hT, hc, hl]
    rw [List.length_drop] at hD
    omega

set_option maxRecDepth 100000 in
set_option maxHeartbeats 4000000 in
theorem insert_grow (base g cap gx i : Nat) (l : List Bk) (b : Bk) (w : World) (hv : ownK w base (.slice (some ⟨g, 0, none⟩) l.length cap) l) (hbw : base ≤ w.heap.size) (hx : w.heap[gx]? = some (.cells (layK.cs b).toArray 39 (0, 0))) (hi : i < l.length) (hroom : cap < l.length + 1) (hl : l.length ≤ 1000) :
    Calls Try.prog 126 #[.slice (some ⟨g, 0, none⟩) l.length cap, .int .i64 i, .slice (some ⟨gx, 0, none⟩) 1 1] w fun e w' => ∃ v, e = .returned v ∧ ownK w' base v (l.take i ++ b :: l.drop i) ∧ Below w.heap.size w w' := by
  rcases hv.2 with ⟨h1, _⟩ | ⟨g', c', cur, h1, hb, hc, h4, h5, h6, h7⟩
  · cases h1
  injection h1 with h1 _ h3
  injection h1 with h1
  injection h1 with h1 _ _
  subst h1 h3
  obtain ⟨X, hX⟩ : ∃ X, X = l.flatMap layK.cs := ⟨_, rfl⟩
  have h7' : cur.toList.take (l.length * 3) = X := by rw [hX]; exact h7
  have hXl : X.length = l.length * 3 := by rw [hX, flat_length]; rfl
  have hX1 : ∀ v ∈ X, v.oneCell' = true := by rw [hX]; exact flat_one' appK0.one l
  have hb1 : ∀ v ∈ layK.cs b, v.oneCell' = true := fun v hv => appK0.one b v hv
  have hD : (X.drop (i * 3)).length = (l.length - i) * 3 := by rw [List.length_drop, hXl]; omega
  have hgw : g < w.heap.size := by
    rcases Nat.lt_or_ge g w.heap.size with h | h
    · exact h
    · rw [Array.getElem?_eq_none h] at hc; cases hc
  have hxw : gx < w.heap.size := by
    rcases Nat.lt_or_ge gx w.heap.size with h | h
    · exact h
    · rw [Array.getElem?_eq_none h] at hx; cases hx
  have hxc : ∀ j v, X[j]? = some v → w.cell? ⟨g, j, none⟩ = some v := fun j v hj => by
    rw [← h7', List.getElem?_take] at hj
    split at hj
    · simpa [World.cell?, hc] using hj
    · cases hj
  obtain ⟨z, bytes, hinfo, hzs, hby⟩ := appK0.info
  obtain ⟨i0, hi0, hz0, hz1, hz2⟩ := info_parts hinfo
  have hold : (Builtin.firstCells i0.size i (.slice (some ⟨g, 0, none⟩) i cap)).run Try.prog w.drew = .ok (X.take (i * 3)).toArray w.drew := by
    rw [hz1]
    exact run_firstCells_some w.drew 3 i ⟨g, 0, none⟩ i cap (X.take (i * 3)) (by rw [List.length_take]; omega) (fun j v hj => by
      rw [Addr.add_lit, Nat.zero_add]
      rw [List.getElem?_take] at hj
      split at hj
      · exact hxc j v hj
      · cases hj)
  have hi2 : i + (l.length + 1 - i) = l.length + 1 := by omega
  have hrz : ∀ ty, (Builtin.append_ #[23, 3] ty #[.slice (some ⟨g, 0, none⟩) i cap, .int .i64 ((l.length : Int) + 1 - (i : Int))]).run Try.prog w =
      .ok (.slice (some ⟨w.heap.size, 0, none⟩) (l.length + 1) (grownCap w (l.length + 1) cap 39)) (w.drew.alloc (.cells ((X.take (i * 3)).toArray ++ Builtin.zeroCells z.cells (l.length + 1 - i) ++ Builtin.zeroCells z.cells (grownCap w (l.length + 1) cap 39 - (l.length + 1))) 39)) := fun ty => by
    have h := Lib.run_append_grow_zeros w 23 3 ty 39 i0 z .i64 .i64 Try.underlying23 Try.underlying3 hi0 hz0 (some ⟨g, 0, none⟩) i cap (X.take (i * 3)) hold (l.length + 1 - i) (by omega) (by rw [hz1]; decide) (by omega) (by omega) (by rw [hz2]; have := Nat.mul_le_mul (show l.length + 1 - i ≤ 1001 by omega) hby; omega) (Go.growslice_fits_wide (by omega) (by rw [hz2, hi2]; have := Nat.mul_le_mul (show (l.length + 1) + (l.length + 1) / 4 + 192 ≤ 2000 by omega) hby; omega))
    rw [hi2] at h
    rw [show (l.length : Int) + 1 - (i : Int) = ((l.length + 1 - i : Nat) : Int) by omega]
    exact h
  have hGn := grownCap_ge w (l.length + 1) cap 39
  have hGm : grownCap w (l.length + 1) cap 39 ≤ maxLen := grownCap_le_maxLen w (l.length + 1) cap 39 (by unfold maxLen; omega)
  generalize grownCap w (l.length + 1) cap 39 = G at *
  obtain ⟨ROW, hROW⟩ : ∃ ROW : Array Value, ROW = (X.take (i * 3)).toArray ++ Builtin.zeroCells z.cells (l.length + 1 - i) ++ Builtin.zeroCells z.cells (G - (l.length + 1)) := ⟨_, rfl⟩
  rw [← hROW] at hrz
  have hzz : ∀ k, (Builtin.zeroCells z.cells k).size = k * 3 := fun k => by simp [Builtin.zeroCells, hzs]; rfl
  have hRs : ROW.toList.length = G * 3 := by
    rw [hROW]; simp only [Array.length_toList, Array.size_append, hzz, List.size_toArray, List.length_take, hXl]; omega
  have hRt : ROW.toList.take (i * 3) = X.take (i * 3) := by
    rw [hROW]; simp only [Array.toList_append, List.append_assoc]
    exact List.take_left' (by rw [List.length_take]; omega)
  have HS := hide (fresh_cells (cs := layK.cs b) (i := i) (n := l.length) (k := 3) hXl hRt (Nat.le_of_lt hi) rfl (by omega))
  dsimp only at HS
  obtain ⟨C1, hC1⟩ : ∃ C1, C1 = ROW.toList.take (i * 3) ++ layK.cs b ++ ROW.toList.drop (i * 3 + (layK.cs b).length) := ⟨_, rfl⟩
  rw [← hC1] at HS
  have hC1l : C1.length = G * 3 := HS.out.2.2.trans hRs
  obtain ⟨C2, hC2⟩ : ∃ C2, C2 = C1.take ((i + 1) * 3) ++ X.drop (i * 3) ++ C1.drop ((i + 1) * 3 + (X.drop (i * 3)).length) := ⟨_, rfl⟩
  rw [← hC2] at HS
  obtain ⟨N, hN⟩ : ∃ N, N = w.heap.size := ⟨_, rfl⟩
  obtain ⟨W1, hW1⟩ : ∃ W1, W1 = w.drew.alloc (.cells ROW 39) := ⟨_, rfl⟩
  rw [← hW1] at hrz
  have k1 : W1.heap[N]? = some (.cells ROW 39 (0, 0)) := by rw [hW1, hN]; exact heap_alloc_new w.drew _
  have kg : W1.heap[g]? = some (.cells cur 39 (0, 0)) := by rw [hW1, Below.heap_alloc w.drew _ g hgw]; exact hc
  have kx : W1.heap[gx]? = some (.cells (layK.cs b).toArray 39 (0, 0)) := by rw [hW1, Below.heap_alloc w.drew _ gx hxw]; exact hx
  obtain ⟨W2, hW2⟩ : ∃ W2, W2 = W1.setRow N C1.toArray := ⟨_, rfl⟩
  have hcpA : ∀ ty dL dc, 1 ≤ dL → (Builtin.copy_ #[23, 23] ty #[.slice (some ⟨N, i * 3, none⟩) dL dc, .slice (some ⟨gx, 0, none⟩) 1 1]).run Try.prog W1 = .ok (goInt (Nat.min 1 dL)) W2 := fun ty dL dc e1 => by
    have h := run_copy_rowK (P := Try.prog) 3 W1 23 23 ty 39 N (i * 3) dL dc ⟨gx, 0, none⟩ 1 1 ROW 39 (layK.cs b) Try.underlying23 (by kernel_rfl) k1 (by rw [show Nat.min 1 dL = 1 by show min 1 dL = _; omega]; rfl)
      (fun j v hj => by
        rw [Addr.add_lit]
        simpa [World.cell?, kx] using hj) (by rw [Array.length_toList] at hRs; rw [hRs]; show i * 3 + 3 ≤ G * 3; omega) hb1
    rw [h, hW2, hC1]
  have k2 : W2.heap[N]? = some (.cells C1.toArray 39 (0, 0)) := by rw [hW2]; exact setRow_heap W1 N ROW _ 39 _ k1
  have kg2 : W2.heap[g]? = some (.cells cur 39 (0, 0)) := by rw [hW2, setRow_other W1 N g _ (by omega)]; exact kg
  obtain ⟨W3, hW3⟩ : ∃ W3, W3 = W2.drew.setRow N C2.toArray := ⟨_, rfl⟩
  have hcpB : ∀ ty dL dc sL sc, dL = l.length - i → sL = l.length - i → (Builtin.copy_ #[23, 23] ty #[.slice (some ⟨N, (i + 1) * 3, none⟩) dL dc, .slice (some ⟨g, i * 3, none⟩) sL sc]).run Try.prog W2.drew = .ok (goInt (Nat.min sL dL)) W3 := fun ty dL dc sL sc e1 e2 => by
    have h := run_copy_rowK (P := Try.prog) 3 W2.drew 23 23 ty 39 N ((i + 1) * 3) dL dc ⟨g, i * 3, none⟩ sL sc C1.toArray 39 (X.drop (i * 3)) Try.underlying23 (by kernel_rfl) k2 (by rw [hD, show Nat.min sL dL = l.length - i by show min sL dL = _; omega])
      (fun j v hj => by
        rw [List.getElem?_drop, ← h7', List.getElem?_take] at hj
        split at hj
        · rw [Addr.add_lit]; show W2.cell? ⟨g, i * 3 + j, none⟩ = some v; simpa [World.cell?, kg2] using hj
        · cases hj) (by rw [hD]; simp only [List.size_toArray, hC1l]; omega) (fun v hv => hX1 v (List.mem_of_mem_drop hv))
    rw [h, hW3, hC2]
  have k3 : W3.heap[N]? = some (.cells C2.toArray 39 (0, 0)) := by rw [hW3]; exact setRow_heap W2.drew N C1.toArray _ 39 _ k2
  have B1 : Below N w W1 := by rw [hW1, hN]; exact ((Below.refl _ w).drew).alloc (Nat.le_refl _) _
  have B3 : Below N w W3 := by
    have a1 : W1.grownBy W2 (some N) := by rw [hW2]; exact ⟨rfl, rfl, rfl, by simp, fun k _ hk => setRow_other W1 N k _ (fun e => hk (by simp [e]))⟩
    have a2 : W2.grownBy W3 (some N) := by rw [hW3]; exact ⟨rfl, rfl, rfl, by simp, fun k _ hk => setRow_other W2.drew N k _ (fun e => hk (by simp [e]))⟩
    exact B1.grown (a1.trans a2) (by rw [hN]; exact hN ▸ B1.size) (fun k e => by cases e; exact Nat.le_refl _)
  have HFIN := hide (And.intro k3 (And.intro B3 (And.intro hX (And.intro hRs (And.intro hN hbw)))))
  rw [← hN] at hrz
  have RZ := hide hrz
  have CPA := hide hcpA
  have CPB := hide hcpB
  have HGM := hide hGm
  clear hv hbw hx hc hX h7 h7' hXl hX1 hb1 hD hgw hxw hxc hinfo hzs hi0 hz0 hz1 hz2 hold hrz hROW hzz hRs hRt hC1 hC1l hC2 hW1 k1 kg kx hW2 hcpA k2 kg2 hW3 hcpB k3 B1 B3 hby hi2 hN h6 h5
  generalize hn : l.length = n at *
  have HN := hide hn
  have hcn : cap = n := by omega
  subst hcn
  clear hn h4 hroom
  have z0 : ((i : Int) == (cap : Int)) = false := by simp; omega
  have z1 : (cap : Int) < (cap : Int) + 1 := by omega
  have n1 : i ≤ cap := by omega
  have n3 : ¬ (cap = i) := by omega
  have n5 : ¬ (G = i) := by omega
  have n6 : ¬ (G = i + 1) := by omega
  have n7 : cap + 1 ≤ G := hGn
  have z3 : (i : Int) + 1 ≤ (cap : Int) + 1 := by omega
  have z4 : (i : Int) ≤ (cap : Int) := by omega
  have z5 : (i : Int) ≤ (cap : Int) + 1 := by omega
  have hw1 : IntKind.i64.wrap ((i : Int) + 1) = (i : Int) + 1 := by rw [IntKind.wrap_i64]; omega
  have hw2 : (0 : Int) ≤ (i : Int) + 1 := by omega
  have hw3 : ((i : Int) + 1).toNat = i + 1 := by omega
  have e3 : 1 ≤ cap + 1 - i := by omega
  have hcp3 := CPA.out 3 (cap + 1 - i) (G - i) e3
  clear e3
  go_enter Try.func126, Try.ntmps126
  go_wp2_with (first | (at_builtin; refine Lib.wpList_append_run _ rfl _ _ _ _ rfl _ _ rfl rfl _ _ (RZ.out _) ?_))
  go_region_law (refine step_copy_runI rfl _ _ 23 23 rfl (.slice (some ⟨N, (i + 1) * 3, none⟩) (cap - i) (G - (i + 1))) (.slice (some ⟨g, i * 3, none⟩) (cap - i) (cap - i)) (by simp [Act.eval, Act.put]) (by simp [Act.eval, Act.put]) (CPB.out _ _ _ _ _ rfl rfl) ?_)
  go_wp2
  go_ret
  obtain ⟨k3, B3, hX, hRs, hN, hbw⟩ := HFIN.out
  refine ⟨_, rfl, ?_, hN ▸ B3⟩
  have hs := HS.out
  have hlen : (l.take i ++ b :: l.drop i).length = cap + 1 := by have := HN.out; simp; omega
  refine ⟨by rw [flat_length], .inr ⟨N, G, _, by rw [hlen]; rfl, by omega, k3, by rw [hlen]; omega, HGM.out, ?_, ?_⟩⟩
  · rw [List.size_toArray]
    exact hs.2.1.trans hRs
  · rw [hlen]
    show List.take ((cap + 1) * 3) _ = _
    rw [hs.1, hX, List.flatMap_append, List.flatMap_cons, List.append_assoc]
    have e2 : l.flatMap layK.cs = (l.take i).flatMap layK.cs ++ (l.drop i).flatMap layK.cs := by rw [← List.flatMap_append, List.take_append_drop]
    have e4 : ((l.take i).flatMap layK.cs).length = i * 3 := by rw [flat_length, List.length_take, HN.out, Nat.min_eq_left n1]; rfl
    rw [e2, List.take_left' e4, List.drop_left' e4]

/-- Insert of one, whatever the room. -/
theorem slicesInsert_any (base cap gx i : Nat) (o : Option Addr) (l : List Bk) (b : Bk) (w : World) (hv : ownK w base (.slice o l.length cap) l) (hbw : base ≤ w.heap.size) (hx : w.heap[gx]? = some (.cells (layK.cs b).toArray 39 (0, 0))) (hne : ∀ g, o = some ⟨g, 0, none⟩ → gx ≠ g) (hi : i ≤ l.length) (hl : l.length ≤ 1000) :
    Calls Try.prog 126 #[.slice o l.length cap, .int .i64 i, .slice (some ⟨gx, 0, none⟩) 1 1] w fun e w' => ∃ v, e = .returned v ∧ ownK w' base v (l.take i ++ b :: l.drop i) ∧ Below base w w' := by
  have hxw : gx < w.heap.size := by
    rcases Nat.lt_or_ge gx w.heap.size with h | h
    · exact h
    · rw [Array.getElem?_eq_none h] at hx; cases hx
  rcases Nat.lt_or_ge i l.length with hlt | hge
  · rcases hv.2 with ⟨h1, h2⟩ | ⟨g, c', cur, h1, hb, _⟩
    · injection h1 with _ h3 _; omega
    · injection h1 with h1 _ h3
      subst h1 h3
      by_cases hr : l.length + 1 ≤ cap
      · refine (insert_shift base g cap gx i l b w hv hx (hne g rfl) hlt hr hl).mono ?_
        rintro e w' ⟨v, rfl, h1, h2⟩
        exact ⟨v, rfl, h1, (Below.refl base w).grown h2 hbw (fun k e => by cases e; exact hb)⟩
      · refine (insert_grow base g cap gx i l b w hv hbw hx hlt (by omega) hl).mono ?_
        rintro e w' ⟨v, rfl, h1, h2⟩
        exact ⟨v, rfl, h1, h2.mono hbw⟩
  · have e : i = l.length := by omega
    subst e
    refine (insert_end base cap gx o l b w hv (.inr ⟨gx, 0, rfl, hxw, fun q hq j hj => ?_⟩) hbw hl).mono ?_
    · have hq0 : q = 0 := by simpa using hq
      subst hq0
      simp [World.cell?, hx]
    · rintro e w' ⟨v, rfl, h1, h2⟩
      refine ⟨v, rfl, by simpa using h1, (Below.refl base w).grown h2 hbw (fun k e => ?_)⟩
      rcases hv.2 with ⟨h3, _⟩ | ⟨g, c', cur, h3, hb, _⟩
      · rw [h3] at e; cases e
      · rw [h3] at e; cases e; exact hb

end Go.Proofs.Ytflakpmcgopdaaa

/- deedOf: a command as a value of its own type. -/
namespace Go.Proofs.Ytflakpmcgopdaaa
open Go.ChangeShapes Go.WideShapes Go.ChangeAt Go.RowKit Go.Joins
set_option linter.unusedVariables false
set_option linter.unusedSimpArgs false

theorem cmd_box {w w1 : World} {k i g : Int} {t : TypeId} (h : Below (w.alloc (.cells #[.int .i64 k, .int .i64 i, .int .i64 g] t)).heap.size (w.alloc (.cells #[.int .i64 k, .int .i64 i, .int .i64 g] t)) w1) (o : Obj) :
    w1.cell? ⟨w.heap.size, 0, none⟩ = some (.int .i64 k) ∧ w1.cell? ⟨w.heap.size, 1, none⟩ = some (.int .i64 i) ∧ w1.cell? ⟨w.heap.size, 2, none⟩ = some (.int .i64 g) ∧
    (w1.alloc o).cell? ⟨w.heap.size, 0, none⟩ = some (.int .i64 k) ∧ (w1.alloc o).cell? ⟨w.heap.size, 2, none⟩ = some (.int .i64 g) ∧ Below w.heap.size w w1 ∧ Below w.heap.size w (w1.alloc o) := by
  have hs : w.heap.size < (w.alloc (.cells #[.int .i64 k, .int .i64 i, .int .i64 g] t)).heap.size := by simp
  have hs1 : w.heap.size < w1.heap.size := Nat.lt_of_lt_of_le hs h.size
  have hB : Below w.heap.size w w1 := ((Below.refl _ _).alloc (Nat.le_refl _) _).trans (h.mono (by omega))
  have e : ∀ q, w1.cell? ⟨w.heap.size, q, none⟩ = (w.alloc (.cells #[.int .i64 k, .int .i64 i, .int .i64 g] t)).cell? ⟨w.heap.size, q, none⟩ := fun q => h.cell hs
  have e' : ∀ q, (w1.alloc o).cell? ⟨w.heap.size, q, none⟩ = w1.cell? ⟨w.heap.size, q, none⟩ := fun q => ((Below.refl w1.heap.size w1).alloc (Nat.le_refl _) o).cell hs1
  refine ⟨?_, ?_, ?_, ?_, ?_, hB, hB.alloc (by omega) o⟩
  all_goals (simp only [e', e]; unfold World.cell?; simp only [heap_alloc_new]; rfl)

/-- A command as a value of its own type. -/
def deedV (k i g : Int) : Value :=
  if k = 0 then .iface 152 (.agg #[.int .i64 i, .int .i64 g]) else
  if k = 1 then .iface 153 (.agg #[.int .i64 i, .int .i64 g]) else
  if k = 2 then .iface 155 (.agg #[.int .i64 i]) else .iface 156 (.agg #[.int .i64 i])

set_option maxHeartbeats 1000000 in
theorem deedOf_any (k i g : Int) (w : World) :
    Calls Try.prog 70 #[cmd k i g] w fun e w' => e = .returned (.tuple #[if cmdOkB k i g then deedV k i g else .nilIface, .bool (cmdOkB k i g)]) ∧ Below w.heap.size w w' := by
  have hc := fun w => implPoolCmdOk_any k i g w
  generalize cmdOkB k i g = t at hc ⊢
  cases t
  all_goals (
    go_enter Try.func70, Try.ntmps70
    go_wp2_with (first | (go_at_call 123; refine (hc _).mono ?_; rintro e w1 ⟨rfl, hb1⟩; obtain ⟨c0, c1, c2, d0, d2, hB, hB'⟩ := cmd_box hb1 (.cells #[.int .i64 i] 150); have HB := hide hB; have HB' := hide hB'; clear hb1 hB hB'))
    all_goals go_ret2
    all_goals refine ⟨?_, by first | exact HB.out | exact HB'.out⟩)
  all_goals (try simp only [beq_iff_eq, beq_eq_false_iff_ne, ne_eq] at *)
  all_goals simp_all [deedV]

end Go.Proofs.Ytflakpmcgopdaaa

/- backsAfter: what a command makes of those who serve. -/
namespace Go.Proofs.Ytflakpmcgopdaaa
open Go.ChangeShapes Go.WideShapes Go.ChangeAt Go.RowKit Go.Joins
set_option linter.unusedVariables false
set_option linter.unusedSimpArgs false

theorem rd_alloc {w : World} {o : Option Addr} {l : List Bk} (h : RdK w.heap.size w o l) (ob : Obj) : RdK (w.alloc ob).heap.size (w.alloc ob) o l :=
  (RdL.kept h ((Below.refl w.heap.size w).alloc (Nat.le_refl _) ob) (Nat.le_refl _)).le (by simp)
theorem just_so {α : Type} {x y : α} (h : x = y) : x = y := h

theorem whom_any (id : Int) (w : World) : Calls Try.prog 185 #[.agg #[.int .i64 id]] w fun e w' => e = .returned (.int .i64 id) ∧ Below w.heap.size w w' := by
  have hB : Below w.heap.size w w := Below.refl _ _
  go_enter Try.func185, Try.ntmps185
  go_wp2
  go_ret
  exact ⟨rfl, by (repeat (first | with_reducible exact hB | with_reducible exact Below.refl _ _ | with_reducible refine Below.drew ?_ | with_reducible refine below_drewN ?_ _ | with_reducible refine Below.alloc ?_ ?_ _ | with_reducible refine Below.setCell ?_ ?_ _ | (focus (simp; done)) | (focus (simp; omega)) | omega))⟩

theorem ins_new (base pl : Nat) (v : Value) (l : List Bk) (x y : Int) (z : Bool) (w : World) (A : Obj) (hv : ownK w base v l) (hb : base ≤ w.heap.size) (hp : pl ≤ l.length) (hl : l.length ≤ 1000) :
    Calls Try.prog 126 #[v, .int .i64 pl, .slice (some ⟨w.heap.size + 1, 0, none⟩) 1 1] ((w.alloc A).alloc (.cells #[.int .i64 x, .int .i64 y, .bool z] 39)) fun e w' => ∃ v, e = .returned v ∧ ownK w' base v (l.take pl ++ (x, y, z) :: l.drop pl) ∧ Below base w w' := by
  have hs1 : (w.alloc A).heap.size = w.heap.size + 1 := by simp
  have hB : Below w.heap.size w ((w.alloc A).alloc (.cells #[.int .i64 x, .int .i64 y, .bool z] 39)) := ((Below.refl w.heap.size w).alloc (Nat.le_refl _) A).alloc (by omega) _
  have hv2 : ownK ((w.alloc A).alloc (.cells #[.int .i64 x, .int .i64 y, .bool z] 39)) base v l := own_kept hv hB
  have hx := heap_alloc_new (w.alloc A) (.cells #[.int .i64 x, .int .i64 y, .bool z] 39)
  rw [hs1] at hx
  obtain ⟨o, cap, e, hne⟩ : ∃ o cap, v = .slice o l.length cap ∧ ∀ g, o = some ⟨g, 0, none⟩ → w.heap.size + 1 ≠ g := by
    rcases hv.2 with ⟨h1, h2⟩ | ⟨g, c, cur, h1, _, hc, _⟩
    · exact ⟨none, 0, by rw [h1, h2], fun g e => by cases e⟩
    · refine ⟨_, c, h1, fun g' e => ?_⟩
      cases e
      have : g < w.heap.size := by
        rcases Nat.lt_or_ge g w.heap.size with h | h
        · exact h
        · rw [Array.getElem?_eq_none h] at hc; cases hc
      omega
  subst e
  refine (slicesInsert_any base cap (w.heap.size + 1) pl o l (x, y, z) _ hv2 (Nat.le_trans hb hB.size) hx hne hp hl).mono ?_
  rintro e w' ⟨v, rfl, h1, h2⟩
  exact ⟨v, rfl, h1, (hB.mono hb).trans h2⟩

set_option maxRecDepth 100000 in
set_option maxHeartbeats 4000000 in
theorem after_add (o : Option Addr) (cap : Nat) (l : List Bk) (id g : Int) (w : World) (hR : RdK w.heap.size w o l) (hn : o = none → cap = 0) (hl : l.length ≤ 1000) :
    Calls Try.prog 71 #[.slice o l.length cap, .iface 152 (.agg #[.int .i64 id, .int .i64 g])] w fun e w' => ∃ v, e = .returned (.tuple #[v, .bool (!thereB l id)]) ∧ (thereB l id = true → v = .slice none 0 0) ∧ (thereB l id = false → ownK w' w.heap.size v (l.take (placeN l id) ++ (id, g, false) :: l.drop (placeN l id))) ∧ Below w.heap.size w w' := by
  have hp := fun w hR => placeOf_any o cap l id w hR (by omega)
  have HP := hide (placeN_le l id)
  generalize thereB l id = t at hp ⊢
  generalize placeN l id = pl at hp HP ⊢
  have hta : ∀ w, Sem.run Try.prog (Instr.typeAssert (.iface 152 (.agg #[.int .i64 id, .int .i64 g])) 99 152 true) w = .ok (.tuple #[.agg #[.int .i64 id, .int .i64 g], .bool true]) w := fun w => by kernel_rfl
  have eW : ∀ args w, (callFunc 185 args).run Try.prog w = .ok (.enter 185 args) w := enters_of Try.func185 (by kernel_rfl) rfl
  cases t
  · go_enter Try.func71, Try.ntmps71
    go_wp2_with fail
    rw [just_so (x := Sem.run Try.prog (method _ _ (.agg #[.int .i64 id, .int .i64 g]) _) w) (y := Result.ok (185, .agg #[.int .i64 id]) w) ?hm]
    case hm => kernel_rfl
    go_wp2_with (first | (go_at_call 185; refine (whom_any id _).mono ?_; rintro e w1 ⟨rfl, hb0⟩; have hR1 := hide ((RdL.kept hR hb0 (Nat.le_refl _)).le hb0.size); have HB0 := hide hb0; clear hb0) | (go_at_call 124; refine (hp _ hR1.out).mono ?_; rintro e w2 ⟨rfl, hb1⟩; have hR2 := hide ((RdL.kept hR1.out hb1 (Nat.le_refl _)).le hb1.size); have HB1 := hide hb1; clear hb1) | (go_at_call 125; refine (cloneBacks_any o cap l _ (rd_alloc hR2.out _) hn (by omega)).mono ?_; rintro e w3 ⟨v3, rfl, hv3, hb3⟩; have HV3 := hide hv3; have HB3 := hide hb3; clear hv3 hb3) | (go_at_call 126; refine (ins_new _ pl v3 l id g false w3 _ HV3.out HB3.out.size HP.out hl).mono ?_; rintro e w4 ⟨v4, rfl, hv4, hb4⟩; have HV4 := hide hv4; have HB4 := hide hb4; clear hv4 hb4))
    go_ret2
    have s1 := HB0.out.size
    have s2 := HB1.out.size
    have B2 : Below w.heap.size w w2 := HB0.out.trans (HB1.out.mono s1)
    have B2a := B2.alloc (Nat.le_trans s1 s2) (.cells #[.int .i64 id, .int .i64 g] 152)
    have s3 := B2a.size
    refine ⟨_, rfl, ?_, fun _ => own_mono HV4.out s3, (B2a.trans (HB3.out.mono s3)).trans (HB4.out.mono s3)⟩
    intro h; cases h
  · go_enter Try.func71, Try.ntmps71
    go_wp2_with fail
    rw [just_so (x := Sem.run Try.prog (method _ _ (.agg #[.int .i64 id, .int .i64 g]) _) w) (y := Result.ok (185, .agg #[.int .i64 id]) w) ?hm]
    case hm => kernel_rfl
    go_wp2_with (first | (go_at_call 185; refine (whom_any id _).mono ?_; rintro e w1 ⟨rfl, hb0⟩; have hR1 := hide ((RdL.kept hR hb0 (Nat.le_refl _)).le hb0.size); have HB0 := hide hb0; clear hb0) | (go_at_call 124; refine (hp _ hR1.out).mono ?_; rintro e w2 ⟨rfl, hb1⟩; have HB1 := hide hb1; clear hb1))
    go_ret2
    refine ⟨_, rfl, fun _ => rfl, ?_, ?_⟩
    · intro h; cases h
    · exact (HB0.out.trans (HB1.out.mono HB0.out.size)).alloc (Nat.le_trans HB0.out.size HB1.out.size) _

end Go.Proofs.Ytflakpmcgopdaaa

/- backsAfter: one that goes. -/
namespace Go.Proofs.Ytflakpmcgopdaaa
open Go.ChangeShapes Go.WideShapes Go.ChangeAt Go.RowKit Go.Joins
set_option linter.unusedVariables false
set_option linter.unusedSimpArgs false

theorem there_lt {l : List Bk} {id : Int} (h : thereB l id = true) : placeN l id < l.length := by
  unfold thereB at h; simp at h; exact h.1
theorem del_new (base pl : Nat) (v : Value) (l : List Bk) (w w1 : World) (hv : ownK w base v l) (hb : base ≤ w.heap.size) (hB : Below w.heap.size w w1) (hp : pl < l.length) (hl : l.length ≤ 1000) :
    Calls Try.prog 127 #[v, .int .i64 pl, .int .i64 ((pl : Int) + 1)] w1 fun e w' => ∃ v, e = .returned v ∧ ownK w' base v (l.take pl ++ l.drop (pl + 1)) ∧ Below base w w' := by
  have hv2 : ownK w1 base v l := own_kept hv hB
  rcases hv.2 with ⟨h1, h2⟩ | ⟨g, c, cur, h1, hbg, hc, _⟩
  · omega
  · subst h1
    refine (slicesDelete_any base g c pl l w1 hv2 hp hl).mono ?_
    rintro e w' ⟨v, rfl, h1, h2⟩
    exact ⟨v, rfl, h1, (hB.mono hb).grown h2 (Nat.le_trans hb hB.size) (fun k e => by cases e; exact hbg)⟩

set_option maxRecDepth 100000 in
set_option maxHeartbeats 4000000 in
theorem after_remove (o : Option Addr) (cap : Nat) (l : List Bk) (id : Int) (w : World) (hR : RdK w.heap.size w o l) (hn : o = none → cap = 0) (hl : l.length ≤ 1000) :
    Calls Try.prog 71 #[.slice o l.length cap, .iface 156 (.agg #[.int .i64 id])] w fun e w' => ∃ v, e = .returned (.tuple #[v, .bool (thereB l id)]) ∧ (thereB l id = false → v = .slice none 0 0) ∧ (thereB l id = true → ownK w' w.heap.size v (l.take (placeN l id) ++ l.drop (placeN l id + 1))) ∧ Below w.heap.size w w' := by
  have hp := fun w hR => placeOf_any o cap l id w hR (by omega)
  have HP := hide (there_lt (l := l) (id := id))
  generalize thereB l id = t at hp HP ⊢
  generalize placeN l id = pl at hp HP ⊢
  have hta : ∀ w, Sem.run Try.prog (Instr.typeAssert (.iface 156 (.agg #[.int .i64 id])) 99 152 true) w = .ok (.tuple #[.agg #[.int .i64 0, .int .i64 0], .bool false]) w := fun w => by kernel_rfl
  have htb : ∀ w, Sem.run Try.prog (Instr.typeAssert (.iface 156 (.agg #[.int .i64 id])) 99 153 true) w = .ok (.tuple #[.agg #[.int .i64 0, .int .i64 0], .bool false]) w := fun w => by kernel_rfl
  have htc : ∀ w, Sem.run Try.prog (Instr.typeAssert (.iface 156 (.agg #[.int .i64 id])) 99 155 true) w = .ok (.tuple #[.agg #[.int .i64 0], .bool false]) w := fun w => by kernel_rfl
  have htd : ∀ w, Sem.run Try.prog (Instr.typeAssert (.iface 156 (.agg #[.int .i64 id])) 99 156 true) w = .ok (.tuple #[.agg #[.int .i64 id], .bool true]) w := fun w => by kernel_rfl
  have eW : ∀ args w, (callFunc 185 args).run Try.prog w = .ok (.enter 185 args) w := enters_of Try.func185 (by kernel_rfl) rfl
  cases t
  · go_enter Try.func71, Try.ntmps71
    go_wp2_with fail
    rw [just_so (x := Sem.run Try.prog (method _ _ (.agg #[.int .i64 id]) _) w) (y := Result.ok (185, .agg #[.int .i64 id]) w) ?hm]
    case hm => kernel_rfl
    go_wp2_with (first | (go_at_call 185; refine (whom_any id _).mono ?_; rintro e w1 ⟨rfl, hb0⟩; have hR1 := hide ((RdL.kept hR hb0 (Nat.le_refl _)).le hb0.size); have HB0 := hide hb0; clear hb0) | (go_at_call 124; refine (hp _ hR1.out).mono ?_; rintro e w2 ⟨rfl, hb1⟩; have HB1 := hide hb1; clear hb1))
    go_ret2
    refine ⟨_, rfl, fun _ => rfl, ?_, ?_⟩
    · intro h; cases h
    · exact (HB0.out.trans (HB1.out.mono HB0.out.size)).alloc (Nat.le_trans HB0.out.size HB1.out.size) _
  · have HPL : Hid (pl < l.length) := HP.out rfl
    have z1 : IntKind.i64.wrap ((pl : Int) + 1) = (pl : Int) + 1 := by have := HP.out rfl; rw [IntKind.wrap_i64]; omega
    go_enter Try.func71, Try.ntmps71
    go_wp2_with fail
    rw [just_so (x := Sem.run Try.prog (method _ _ (.agg #[.int .i64 id]) _) w) (y := Result.ok (185, .agg #[.int .i64 id]) w) ?hm]
    case hm => kernel_rfl
    go_wp2_with (first | (go_at_call 185; refine (whom_any id _).mono ?_; rintro e w1 ⟨rfl, hb0⟩; have hR1 := hide ((RdL.kept hR hb0 (Nat.le_refl _)).le hb0.size); have HB0 := hide hb0; clear hb0) | (go_at_call 124; refine (hp _ hR1.out).mono ?_; rintro e w2 ⟨rfl, hb1⟩; have hR2 := hide ((RdL.kept hR1.out hb1 (Nat.le_refl _)).le hb1.size); have HB1 := hide hb1; clear hb1) | (go_at_call 125; refine (cloneBacks_any o cap l _ (rd_alloc hR2.out _) hn (by omega)).mono ?_; rintro e w3 ⟨v3, rfl, hv3, hb3⟩; have HV3 := hide hv3; have HB3 := hide hb3; clear hv3 hb3) | (go_at_call 127; refine (del_new _ pl v3 l w3 _ HV3.out HB3.out.size (((Below.refl w3.heap.size w3).alloc (Nat.le_refl _) _)) HPL.out hl).mono ?_; rintro e w4 ⟨v4, rfl, hv4, hb4⟩; have HV4 := hide hv4; have HB4 := hide hb4; clear hv4 hb4) | (go_at_call 127; refine (del_new _ pl v3 l w3 _ HV3.out HB3.out.size (Below.refl w3.heap.size w3) HPL.out hl).mono ?_; rintro e w4 ⟨v4, rfl, hv4, hb4⟩; have HV4 := hide hv4; have HB4 := hide hb4; clear hv4 hb4))
    go_ret2
    have s1 := HB0.out.size
    have s2 := HB1.out.size
    have B2 : Below w.heap.size w w2 := HB0.out.trans (HB1.out.mono s1)
    have B2a := B2.alloc (Nat.le_trans s1 s2) (.cells #[.int .i64 0, .int .i64 0] 152)
    have s3 := B2a.size
    refine ⟨_, rfl, ?_, fun _ => own_mono HV4.out s3, (B2a.trans (HB3.out.mono s3)).trans (HB4.out.mono s3)⟩
    intro h; cases h

end Go.Proofs.Ytflakpmcgopdaaa

/- backsAfter: one that has another weight, one that drains; all four kinds together. -/
namespace Go.Proofs.Ytflakpmcgopdaaa
open Go.ChangeShapes Go.WideShapes Go.ChangeAt Go.RowKit Go.Joins
set_option linter.unusedVariables false
set_option linter.unusedSimpArgs false

theorem flat_cell {α : Type} (L : Lay α) {u : Value} {a : α} {j : Nat} (hj : j < L.k) : ∀ {l : List α} {k : Nat}, k < l.length → L.cs a = (L.cs (l.getD k L.d)).set j u → (l.flatMap L.cs).set (k * L.k + j) u = (l.set k a).flatMap L.cs
  | [], k, hk, ha => by simp at hk
  | x :: l, 0, hk, ha => by
    simp only [List.flatMap_cons, List.set_cons_zero, Nat.zero_mul, Nat.zero_add]
    rw [ha, List.set_append_left _ _ (by rw [L.len]; exact hj)]
    rfl
  | x :: l, k + 1, hk, ha => by
    simp only [List.flatMap_cons, List.set_cons_succ]
    rw [List.set_append_right _ _ (by rw [L.len, Nat.succ_mul]; omega), L.len]
    have e : (k + 1) * L.k + j - L.k = k * L.k + j := by rw [Nat.succ_mul]; omega
    rw [e, flat_cell L hj (l := l) (k := k) (by simpa using hk) (by simpa using ha)]
theorem there_is {l : List Bk} {id : Int} (h : thereB l id = true) : (l.getD (placeN l id) (0, 0, false)).1 = id := by
  unfold thereB at h; simp only [Bool.and_eq_true, beq_iff_eq] at h; exact h.2
theorem rec_w {b : Bk} {id g : Int} (h : b.1 = id) : layK.cs (id, g, b.2.2) = (layK.cs b).set 1 (.int .i64 g) := by subst h; rfl
theorem rec_d {b : Bk} {id : Int} (h : b.1 = id) : layK.cs (id, b.2.1, true) = (layK.cs b).set 2 (.bool true) := by subst h; rfl
theorem clone_at {w : World} {base : Nat} {v : Value} {l : List Bk} (h : ownK w base v l) {pl : Nat} (hp : pl < l.length) (A : Obj) :
    ∃ g c, v = .slice (some ⟨g, 0, none⟩) l.length c ∧ base ≤ g ∧ (w.alloc A).ownsRow base 39 3 (.slice (some ⟨g, 0, none⟩) l.length c) l.length (l.flatMap layK.cs) := by
  rcases h.2 with ⟨h1, h2⟩ | ⟨g, c, cur, h1, hb, _⟩
  · omega
  · subst h1
    exact ⟨g, c, rfl, hb, World.ownsRow.alloc h A⟩
theorem clone_cell {w : World} {base g c : Nat} {l : List Bk} (h : w.ownsRow base 39 3 (.slice (some ⟨g, 0, none⟩) l.length c) l.length (l.flatMap layK.cs)) {pl : Nat} (hp : pl < l.length) (j : Nat) (hj : j < 3) : ∃ u, w.cell? ⟨g, pl * 3 + j, none⟩ = some u := by
  have hln : (l.flatMap layK.cs).length = l.length * 3 := by rw [flat_length]; rfl
  exact ⟨_, (h.cellAt (pl * 3 + j) (by omega)).trans (List.getElem?_eq_getElem (by omega))⟩
theorem own_cell1 {w : World} {base g c : Nat} {l : List Bk} (h : w.ownsRow base 39 3 (.slice (some ⟨g, 0, none⟩) l.length c) l.length (l.flatMap layK.cs)) {pl : Nat} (hp : pl < l.length) (j : Nat) (hj : j < 3) (u : Value) {a : Bk} (ha : layK.cs a = (layK.cs (l.getD pl layK.d)).set j u) : ownK (w.setCell ⟨g, pl * 3 + j, none⟩ u) base (.slice (some ⟨g, 0, none⟩) l.length c) (l.set pl a) := by
  have h1 := (h.stored (pl * 3 + j) u).1
  rw [show pl * 3 + j = pl * layK.k + j from rfl, flat_cell layK (a := a) hj hp ha] at h1
  unfold ownK ownL
  rw [List.length_set]
  exact h1

set_option maxRecDepth 100000 in
set_option maxHeartbeats 4000000 in
theorem after_weigh (o : Option Addr) (cap : Nat) (l : List Bk) (id g : Int) (w : World) (hR : RdK w.heap.size w o l) (hn : o = none → cap = 0) (hl : l.length ≤ 1000) :
    Calls Try.prog 71 #[.slice o l.length cap, .iface 153 (.agg #[.int .i64 id, .int .i64 g])] w fun e w' => ∃ v, e = .returned (.tuple #[v, .bool (thereB l id)]) ∧ (thereB l id = false → v = .slice none 0 0) ∧ (thereB l id = true → ownK w' w.heap.size v (l.set (placeN l id) (id, g, (l.getD (placeN l id) (0, 0, false)).2.2))) ∧ Below w.heap.size w w' := by
  have hp := fun w hR => placeOf_any o cap l id w hR (by omega)
  have HP := hide (there_lt (l := l) (id := id))
  have HI := hide (there_is (l := l) (id := id))
  generalize thereB l id = t at hp HP HI ⊢
  generalize placeN l id = pl at hp HP HI ⊢
  have ht0 : ∀ w, Sem.run Try.prog (Instr.typeAssert (.iface 153 (.agg #[.int .i64 id, .int .i64 g])) 99 152 true) w = .ok (.tuple #[.agg #[.int .i64 0, .int .i64 0], .bool false]) w := fun w => by kernel_rfl
  have ht1 : ∀ w, Sem.run Try.prog (Instr.typeAssert (.iface 153 (.agg #[.int .i64 id, .int .i64 g])) 99 153 true) w = .ok (.tuple #[.agg #[.int .i64 id, .int .i64 g], .bool true]) w := fun w => by kernel_rfl
  have eW : ∀ args w, (callFunc 185 args).run Try.prog w = .ok (.enter 185 args) w := enters_of Try.func185 (by kernel_rfl) rfl
  cases t
  · go_enter Try.func71, Try.ntmps71
    go_wp2_with fail
    rw [just_so (x := Sem.run Try.prog (method _ _ (.agg #[.int .i64 id, .int .i64 g]) _) w) (y := Result.ok (185, .agg #[.int .i64 id]) w) ?hm]
    case hm => kernel_rfl
    go_wp2_with (first | (go_at_call 185; refine (whom_any id _).mono ?_; rintro e w1 ⟨rfl, hb0⟩; have hR1 := hide ((RdL.kept hR hb0 (Nat.le_refl _)).le hb0.size); have HB0 := hide hb0; clear hb0) | (go_at_call 124; refine (hp _ hR1.out).mono ?_; rintro e w2 ⟨rfl, hb1⟩; have HB1 := hide hb1; clear hb1))
    go_ret2
    refine ⟨_, rfl, fun _ => rfl, ?_, ?_⟩
    · intro h; cases h
    · exact (HB0.out.trans (HB1.out.mono HB0.out.size)).alloc (Nat.le_trans HB0.out.size HB1.out.size) _
  · have HPL : Hid (pl < l.length) := HP.out rfl
    have HI2 := HI.out rfl
    have HI3 := hide HI2
    clear HI2 HI
    have z1 : (pl : Int) < (l.length : Int) := by have := HP.out rfl; omega
    have z0 : (0 : Int) ≤ (pl : Int) := by omega
    go_enter Try.func71, Try.ntmps71
    go_wp2_with fail
    rw [just_so (x := Sem.run Try.prog (method _ _ (.agg #[.int .i64 id, .int .i64 g]) _) w) (y := Result.ok (185, .agg #[.int .i64 id]) w) ?hm]
    case hm => kernel_rfl
    go_wp2_with (first | (go_at_call 185; refine (whom_any id _).mono ?_; rintro e w1 ⟨rfl, hb0⟩; have hR1 := hide ((RdL.kept hR hb0 (Nat.le_refl _)).le hb0.size); have HB0 := hide hb0; clear hb0) | (go_at_call 124; refine (hp _ hR1.out).mono ?_; rintro e w2 ⟨rfl, hb1⟩; have hR2 := hide ((RdL.kept hR1.out hb1 (Nat.le_refl _)).le hb1.size); have HB1 := hide hb1; clear hb1) | (go_at_call 125; refine (cloneBacks_any o cap l _ (rd_alloc hR2.out _) hn (by omega)).mono ?_; rintro e w3 ⟨v3, rfl, hv3, hb3⟩; obtain ⟨g3, c3, rfl, hg3, ho⟩ := clone_at hv3 HPL.out (.cells #[.int .i64 id, .int .i64 g] 153); have hc3 := clone_cell ho HPL.out 1 (by decide); have hf3 := ho.frozenAt (pl * 3 + 1); have HO := hide ho; have HB3 := hide hb3; have HG3 := hide hg3; clear ho hv3 hb3 hg3; obtain ⟨u3, hu3⟩ := hc3))
    go_ret2
    have s1 := HB0.out.size
    have s2 := HB1.out.size
    have B2 : Below w.heap.size w w2 := HB0.out.trans (HB1.out.mono s1)
    have B2a := B2.alloc (Nat.le_trans s1 s2) (.cells #[.int .i64 0, .int .i64 0] 152)
    have s3 := B2a.size
    have s4 := HB3.out.size
    have s5 := HG3.out
    refine ⟨_, rfl, ?_, fun _ => own_mono (own_cell1 HO.out HPL.out 1 (by decide) (.int .i64 g) (a := (id, g, (l.getD pl (0, 0, false)).2.2)) (rec_w HI3.out)) s3, (((B2a.trans (HB3.out.mono s3)).alloc (by omega) _).setCell (p := ⟨g3, pl * 3 + 1, none⟩) (show w.heap.size ≤ g3 by omega) _)⟩
    intro h; cases h

set_option maxRecDepth 100000 in
set_option maxHeartbeats 4000000 in
theorem after_drain (o : Option Addr) (cap : Nat) (l : List Bk) (id : Int) (w : World) (hR : RdK w.heap.size w o l) (hn : o = none → cap = 0) (hl : l.length ≤ 1000) :
    Calls Try.prog 71 #[.slice o l.length cap, .iface 155 (.agg #[.int .i64 id])] w fun e w' => ∃ v, e = .returned (.tuple #[v, .bool (thereB l id)]) ∧ (thereB l id = false → v = .slice none 0 0) ∧ (thereB l id = true → ownK w' w.heap.size v (l.set (placeN l id) (id, (l.getD (placeN l id) (0, 0, false)).2.1, true))) ∧ Below w.heap.size w w' := by
  have hp := fun w hR => placeOf_any o cap l id w hR (by omega)
  have HP := hide (there_lt (l := l) (id := id))
  have HI := hide (there_is (l := l) (id := id))
  generalize thereB l id = t at hp HP HI ⊢
  generalize placeN l id = pl at hp HP HI ⊢
  have ht0 : ∀ w, Sem.run Try.prog (Instr.typeAssert (.iface 155 (.agg #[.int .i64 id])) 99 152 true) w = .ok (.tuple #[.agg #[.int .i64 0, .int .i64 0], .bool false]) w := fun w => by kernel_rfl
  have ht1 : ∀ w, Sem.run Try.prog (Instr.typeAssert (.iface 155 (.agg #[.int .i64 id])) 99 153 true) w = .ok (.tuple #[.agg #[.int .i64 0, .int .i64 0], .bool false]) w := fun w => by kernel_rfl
  have ht2 : ∀ w, Sem.run Try.prog (Instr.typeAssert (.iface 155 (.agg #[.int .i64 id])) 99 155 true) w = .ok (.tuple #[.agg #[.int .i64 id], .bool true]) w := fun w => by kernel_rfl
  have eW : ∀ args w, (callFunc 185 args).run Try.prog w = .ok (.enter 185 args) w := enters_of Try.func185 (by kernel_rfl) rfl
  cases t
  · go_enter Try.func71, Try.ntmps71
    go_wp2_with fail
    rw [just_so (x := Sem.run Try.prog (method _ _ (.agg #[.int .i64 id]) _) w) (y := Result.ok (185, .agg #[.int .i64 id]) w) ?hm]
    case hm => kernel_rfl
    go_wp2_with (first | (go_at_call 185; refine (whom_any id _).mono ?_; rintro e w1 ⟨rfl, hb0⟩; have hR1 := hide ((RdL.kept hR hb0 (Nat.le_refl _)).le hb0.size); have HB0 := hide hb0; clear hb0) | (go_at_call 124; refine (hp _ hR1.out).mono ?_; rintro e w2 ⟨rfl, hb1⟩; have HB1 := hide hb1; clear hb1))
    go_ret2
    refine ⟨_, rfl, fun _ => rfl, ?_, ?_⟩
    · intro h; cases h
    · exact (HB0.out.trans (HB1.out.mono HB0.out.size)).alloc (Nat.le_trans HB0.out.size HB1.out.size) _
  · have HPL : Hid (pl < l.length) := HP.out rfl
    have HI2 := HI.out rfl
    have HI3 := hide HI2
    clear HI2 HI
    have z1 : (pl : Int) < (l.length : Int) := by have := HP.out rfl; omega
    have z0 : (0 : Int) ≤ (pl : Int) := by omega
    go_enter Try.func71, Try.ntmps71
    go_wp2_with fail
    rw [just_so (x := Sem.run Try.prog (method _ _ (.agg #[.int .i64 id]) _) w) (y := Result.ok (185, .agg #[.int .i64 id]) w) ?hm]
    case hm => kernel_rfl
    go_wp2_with (first | (go_at_call 185; refine (whom_any id _).mono ?_; rintro e w1 ⟨rfl, hb0⟩; have hR1 := hide ((RdL.kept hR hb0 (Nat.le_refl _)).le hb0.size); have HB0 := hide hb0; clear hb0) | (go_at_call 124; refine (hp _ hR1.out).mono ?_; rintro e w2 ⟨rfl, hb1⟩; have hR2 := hide ((RdL.kept hR1.out hb1 (Nat.le_refl _)).le hb1.size); have HB1 := hide hb1; clear hb1) | (go_at_call 125; refine (cloneBacks_any o cap l _ (rd_alloc hR2.out _) hn (by omega)).mono ?_; rintro e w3 ⟨v3, rfl, hv3, hb3⟩; obtain ⟨g3, c3, rfl, hg3, ho⟩ := clone_at hv3 HPL.out (.cells #[.int .i64 id] 155); have hc3 := clone_cell ho HPL.out 2 (by decide); have hf3 := ho.frozenAt (pl * 3 + 2); have HO := hide ho; have HB3 := hide hb3; have HG3 := hide hg3; clear ho hv3 hb3 hg3; obtain ⟨u3, hu3⟩ := hc3))
    go_ret2
    have s1 := HB0.out.size
    have s2 := HB1.out.size
    have B2 : Below w.heap.size w w2 := HB0.out.trans (HB1.out.mono s1)
    have B2a := B2.alloc (Nat.le_trans s1 s2) (.cells #[.int .i64 0, .int .i64 0] 152)
    have s3 := B2a.size
    have s4 := HB3.out.size
    have s5 := HG3.out
    refine ⟨_, rfl, ?_, fun _ => own_mono (own_cell1 HO.out HPL.out 2 (by decide) (.bool true) (a := (id, (l.getD pl (0, 0, false)).2.1, true)) (rec_d HI3.out)) s3, (((B2a.trans (HB3.out.mono s3)).alloc (by omega) _).setCell (p := ⟨g3, pl * 3 + 2, none⟩) (show w.heap.size ≤ g3 by omega) _)⟩
    intro h; cases h

/-- What a command makes of those who serve: its list, or none. -/
theorem backsAfter_any (o : Option Addr) (cap : Nat) (l : List Bk) (k i g : Int) (w : World) (hR : RdK w.heap.size w o l) (hn : o = none → cap = 0) (hl : l.length ≤ 1000) (hk : cmdOkB k i g = true) :
    Calls Try.prog 71 #[.slice o l.length cap, deedV k i g] w fun e w' => ∃ v, e = .returned (.tuple #[v, .bool (doL l k i g).isSome]) ∧ (∀ m, doL l k i g = some m → ownK w' w.heap.size v m) ∧ Below w.heap.size w w' := by
  unfold deedV doL
  by_cases h0 : k = 0
  · subst h0
    refine (after_add o cap l i g w hR hn hl).mono ?_
    rintro e w' ⟨v, rfl, _, h2, hb⟩
    refine ⟨v, ?_, ?_, hb⟩
    · cases thereB l i <;> rfl
    · intro m hm
      cases ht : thereB l i with
      | true => rw [ht] at hm; simp at hm
      | false => rw [ht] at hm; simp at hm; rw [← hm]; exact h2 ht
  · have hk0 : (k == 0) = false := beq_eq_false_iff_ne.2 h0
    rw [hk0]
    by_cases h1 : k = 1
    · subst h1
      refine (after_weigh o cap l i g w hR hn hl).mono ?_
      rintro e w' ⟨v, rfl, _, h2, hb⟩
      refine ⟨v, ?_, ?_, hb⟩
      · cases thereB l i <;> rfl
      · intro m hm
        cases ht : thereB l i with
        | false => rw [ht] at hm; simp at hm
        | true => rw [ht] at hm; simp at hm; rw [← hm]; exact h2 ht
    · by_cases h2 : k = 2
      · subst h2
        refine (after_drain o cap l i w hR hn hl).mono ?_
        rintro e w' ⟨v, rfl, _, h2, hb⟩
        refine ⟨v, ?_, ?_, hb⟩
        · cases thereB l i <;> rfl
        · intro m hm
          cases ht : thereB l i with
          | false => rw [ht] at hm; simp at hm
          | true => rw [ht] at hm; simp at hm; rw [← hm]; exact h2 ht
      · rw [if_neg h0, if_neg h1, if_neg h2]
        refine (after_remove o cap l i w hR hn hl).mono ?_
        rintro e w' ⟨v, rfl, _, h3, hb⟩
        refine ⟨v, ?_, ?_, hb⟩
        · cases thereB l i <;> rfl
        · intro m hm
          cases ht : thereB l i with
          | false => rw [ht] at hm; simp at hm
          | true => rw [ht] at hm; simp [h0, h1, h2] at hm; rw [← hm]; exact h3 ht

end Go.Proofs.Ytflakpmcgopdaaa

/- What commands make of those who serve, one behind the other: such a list stays as it should be. -/
namespace Go.Proofs.Ytflakpmcgopdaaa
open Go.ChangeShapes Go.WideShapes Go.ChangeAt Go.RowKit Go.Joins
set_option linter.unusedVariables false
set_option linter.unusedSimpArgs false

theorem getD_mem {α : Type} {l : List α} {d b : α} (h : b ∈ l) : ∃ k, k < l.length ∧ l.getD k d = b := by
  obtain ⟨k, hk, e⟩ := List.getElem_of_mem h
  exact ⟨k, hk, by simp [hk, e]⟩
theorem backsOk_pw {l : List Bk} : backsOkB l = true ↔ l.Pairwise (fun a b => a.1 < b.1) ∧ ∀ b ∈ l, backB b.1 b.2.1 = true := by
  constructor
  · intro h
    refine ⟨List.pairwise_iff_getElem.2 fun i j hi hj hij => ?_, fun b hb => ?_⟩
    · have := backs_lt h j hj i hij
      simpa [hi, hj] using this
    · obtain ⟨k, hk, e⟩ := getD_mem (d := (0, 0, false)) hb
      have := backsOkB_iff.1 h k hk
      unfold okAt at this
      rw [← e]
      simp only [Bool.and_eq_true] at this
      exact this.1
  · rintro ⟨h1, h2⟩
    refine backsOkB_iff.2 fun k hk => ?_
    unfold okAt
    simp only [Bool.and_eq_true]
    refine ⟨h2 _ (by simp [hk]), ?_⟩
    rcases Nat.eq_zero_or_pos k with e | e
    · subst e; simp
    · have := List.pairwise_iff_getElem.1 h1 (k - 1) k (by omega) hk (by omega)
      have hk1 : k - 1 < l.length := by omega
      simp only [List.getD_eq_getElem?_getD, List.getElem?_eq_getElem hk, List.getElem?_eq_getElem hk1, Option.getD_some]
      simp [this]
theorem placeN_cons (b : Bk) (l : List Bk) (id : Int) : placeN (b :: l) id = if b.1 < id then placeN l id + 1 else 0 := by
  unfold placeN
  rw [List.takeWhile_cons]
  by_cases h : b.1 < id <;> simp [h]
theorem take_below : ∀ (l : List Bk) (id : Int), ∀ a ∈ l.take (placeN l id), a.1 < id
  | [], id, a, h => by simp at h
  | b :: l, id, a, h => by
    rw [placeN_cons] at h
    by_cases hb : b.1 < id
    · rw [if_pos hb, List.take_succ_cons] at h
      rcases List.mem_cons.1 h with e | e
      · rw [e]; exact hb
      · exact take_below l id a e
    · rw [if_neg hb] at h; simp at h
theorem drop_above {l : List Bk} {id : Int} (h : l.Pairwise (fun a b => a.1 < b.1)) (hn : thereB l id = false) : ∀ b ∈ l.drop (placeN l id), id < b.1 := by
  intro b hb
  have hp := placeN_le l id
  rcases Nat.lt_or_ge (placeN l id) l.length with hlt | hge
  · have h1 := placeN_at l id hlt
    unfold thereB at hn
    simp only [hlt, decide_true, Bool.true_and, beq_eq_false_iff_ne] at hn
    have h2 : id < (l.getD (placeN l id) (0, 0, false)).1 := by omega
    rw [List.drop_eq_getElem_cons hlt] at hb
    have e : l.getD (placeN l id) (0, 0, false) = l[placeN l id] := by simp [hlt]
    rw [e] at h2
    rcases List.mem_cons.1 hb with e1 | e1
    · rw [e1]; exact h2
    · have h3 : (l.drop (placeN l id)).Pairwise (fun a b => a.1 < b.1) := h.sublist (List.drop_sublist _ _)
      rw [List.drop_eq_getElem_cons hlt] at h3
      have := (List.pairwise_cons.1 h3).1 b e1
      omega
  · rw [List.drop_eq_nil_of_le hge] at hb; simp at hb
theorem ok_insert {l : List Bk} {id g : Int} (h : backsOkB l = true) (hn : thereB l id = false) (hb : backB id g = true) : backsOkB (l.take (placeN l id) ++ (id, g, false) :: l.drop (placeN l id)) = true := by
  obtain ⟨h1, h2⟩ := backsOk_pw.1 h
  have hd := drop_above h1 hn
  refine backsOk_pw.2 ⟨?_, ?_⟩
  · have e : l.take (placeN l id) ++ l.drop (placeN l id) = l := List.take_append_drop _ _
    rw [← e] at h1
    obtain ⟨p1, p2, p3⟩ := List.pairwise_append.1 h1
    refine List.pairwise_append.2 ⟨by simpa using p1, List.pairwise_cons.2 ⟨by simpa using hd, by simpa using p2⟩, ?_⟩
    intro a ha b hb
    rcases List.mem_cons.1 hb with e1 | e1
    · rw [e1]; exact take_below l id a ha
    · have := take_below l id a ha; have := hd b e1; omega
  · intro b hb'
    rcases List.mem_append.1 hb' with e | e
    · exact h2 b (List.mem_of_mem_take e)
    · rcases List.mem_cons.1 e with e | e
      · rw [e]; exact hb
      · exact h2 b (List.mem_of_mem_drop e)
theorem ok_remove {l : List Bk} (n : Nat) (h : backsOkB l = true) : backsOkB (l.take n ++ l.drop (n + 1)) = true := by
  obtain ⟨h1, h2⟩ := backsOk_pw.1 h
  have hs : (l.take n ++ l.drop (n + 1)).Sublist l := by
    have := List.Sublist.append (List.Sublist.refl (l.take n)) (List.drop_sublist 1 (l.drop n))
    rw [List.drop_drop, List.take_append_drop] at this
    exact this
  exact backsOk_pw.2 ⟨h1.sublist hs, fun b hb => h2 b (hs.subset hb)⟩
theorem ok_set {l : List Bk} {n : Nat} {a : Bk} (h : backsOkB l = true) (hn : n < l.length) (e : (l.getD n (0, 0, false)).1 = a.1) (ha : backB a.1 a.2.1 = true) : backsOkB (l.set n a) = true := by
  obtain ⟨h1, h2⟩ := backsOk_pw.1 h
  refine backsOk_pw.2 ⟨?_, ?_⟩
  · have h3 : (l.map (·.1)).Pairwise (fun a b => a < b) := List.pairwise_map.2 h1
    have e2 : (l.set n a).map (·.1) = l.map (·.1) := by
      apply List.ext_getElem
      · simp
      · intro i h4 h5
        simp only [List.getElem_map, List.getElem_set]
        split
        · next hi => subst hi; rw [← e]; simp [hn]
        · rfl
    have h6 := e2 ▸ h3
    exact List.pairwise_map.1 h6
  · intro b hb
    rcases List.mem_or_eq_of_mem_set hb with hb | hb
    · exact h2 b hb
    · rw [hb]; exact ha
theorem doL_some {l m : List Bk} {k i g : Int} (h : doL l k i g = some m) : (thereB l i = false ∧ k = 0 ∧ m = l.take (placeN l i) ++ (i, g, false) :: l.drop (placeN l i)) ∨ (thereB l i = true ∧ k = 1 ∧ m = l.set (placeN l i) (i, g, (l.getD (placeN l i) (0, 0, false)).2.2)) ∨ (thereB l i = true ∧ k = 2 ∧ m = l.set (placeN l i) (i, (l.getD (placeN l i) (0, 0, false)).2.1, true)) ∨ (thereB l i = true ∧ k ≠ 0 ∧ k ≠ 1 ∧ k ≠ 2 ∧ m = l.take (placeN l i) ++ l.drop (placeN l i + 1)) := by
  unfold doL at h
  split at h
  · cases h
  · next hne =>
    injection h with h
    by_cases h0 : k = 0
    · subst h0
      simp only [beq_self_eq_true, Bool.not_eq_true] at hne
      left; exact ⟨hne, rfl, by rw [← h]; simp⟩
    · have hk : (k == 0) = false := beq_eq_false_iff_ne.2 h0
      rw [hk] at hne
      have ht : thereB l i = true := by cases h : thereB l i <;> simp_all
      right
      by_cases h1 : k = 1
      · left; exact ⟨ht, h1, by rw [← h, if_neg h0, if_pos h1]⟩
      · right
        by_cases h2 : k = 2
        · left; exact ⟨ht, h2, by rw [← h, if_neg h0, if_neg h1, if_pos h2]⟩
        · right; exact ⟨ht, h0, h1, h2, by rw [← h, if_neg h0, if_neg h1, if_neg h2]⟩
theorem doL_len {l m : List Bk} {k i g : Int} (h : doL l k i g = some m) : m.length ≤ l.length + 1 := by
  have hp := placeN_le l i
  rcases doL_some h with ⟨_, _, rfl⟩ | ⟨_, _, rfl⟩ | ⟨_, _, rfl⟩ | ⟨_, _, _, _, rfl⟩ <;> simp <;> omega
theorem there_lt0 {l : List Bk} {id : Int} (h : thereB l id = true) : placeN l id < l.length := by
  unfold thereB at h; simp at h; exact h.1
theorem there_is0 {l : List Bk} {id : Int} (h : thereB l id = true) : (l.getD (placeN l id) (0, 0, false)).1 = id := by
  unfold thereB at h; simp only [Bool.and_eq_true, beq_iff_eq] at h; exact h.2
theorem cmdOkB_back {k i g : Int} (h : cmdOkB k i g = true) : k = 0 ∨ k = 1 → backB i g = true := by
  intro hk
  unfold cmdOkB at h
  unfold backB
  simp at h ⊢
  omega
theorem doL_ok {l m : List Bk} {k i g : Int} (hl : backsOkB l = true) (hc : cmdOkB k i g = true) (h : doL l k i g = some m) : backsOkB m = true := by
  have hcb := cmdOkB_back hc
  rcases doL_some h with ⟨ht, hk, rfl⟩ | ⟨ht, hk, rfl⟩ | ⟨ht, hk, rfl⟩ | ⟨ht, hk, _, _, rfl⟩
  · exact ok_insert hl ht (hcb (.inl hk))
  · exact ok_set hl (there_lt0 ht) (there_is0 ht) (hcb (.inr hk))
  · refine ok_set hl (there_lt0 ht) (there_is0 ht) ?_
    obtain ⟨h1, h2⟩ := backsOk_pw.1 hl
    have hlt := there_lt0 ht
    have := h2 (l.getD (placeN l i) (0, 0, false)) (by simp [hlt])
    rw [there_is0 ht] at this
    exact this
  · exact ok_remove _ hl

/-- One command more; none: it can't be, or can't be done. -/
def stepO (s : Option (List Bk)) (c : Cd) : Option (List Bk) := s.bind fun l => if cmdOkB c.1 c.2.1 c.2.2 = true then doL l c.1 c.2.1 c.2.2 else none
def runTo (cs : List Cd) (q : Nat) : Option (List Bk) := (cs.take q).foldl stepO (some [])
theorem runTo_zero (cs : List Cd) : runTo cs 0 = some [] := rfl
theorem runTo_succ {cs : List Cd} {q : Nat} (h : q < cs.length) : runTo cs (q + 1) = stepO (runTo cs q) (cs.getD q (0, 0, 0)) := by
  unfold runTo
  rw [takeL_succ layC cs q h, List.foldl_append]
  rfl
theorem foldO_none (cs : List Cd) : cs.foldl stepO none = none := by
  induction cs with
  | nil => rfl
  | cons c cs ih => exact ih
theorem runTo_none {cs : List Cd} {q r : Nat} (h : runTo cs q = none) (hr : q ≤ r) : runTo cs r = none := by
  unfold runTo at h ⊢
  have e : cs.take r = cs.take q ++ (cs.take r).drop q := by
    have := (List.take_append_drop q (cs.take r)).symm
    rwa [List.take_take, Nat.min_eq_left hr] at this
  rw [e, List.foldl_append, h, foldO_none]
theorem runTo_ok {cs : List Cd} : ∀ (q : Nat) (l : List Bk), q ≤ cs.length → runTo cs q = some l → backsOkB l = true ∧ l.length ≤ q
  | 0, l, hq, h => by rw [runTo_zero] at h; injection h with h; subst h; exact ⟨rfl, Nat.le_refl _⟩
  | q + 1, l, hq, h => by
    rw [runTo_succ (by omega)] at h
    cases hp : runTo cs q with
    | none => rw [hp] at h; cases h
    | some l0 =>
      rw [hp] at h
      obtain ⟨i1, i2⟩ := runTo_ok q l0 (by omega) hp
      simp only [stepO, Option.bind_some] at h
      split at h
      · next hc =>
        have := doL_len h
        exact ⟨doL_ok i1 hc h, by omega⟩
      · cases h
def journalB (key : Int) (cs : List Cd) (safe : Int) : Bool := keyB key && decide (cs.length ≤ 100) && decide (0 ≤ safe) && decide (safe ≤ (cs.length : Int)) && (runTo cs cs.length).isSome

end Go.Proofs.Ytflakpmcgopdaaa

/- Slices of ints: how they read; the laws' own helpers over them: eqIntS, markIntS, heldIntS. -/
namespace Go.Proofs.Ytflakpmcgopdaaa
open Go.ChangeShapes Go.WideShapes Go.ChangeAt Go.RowKit Go.Joins
set_option linter.unusedVariables false
set_option linter.unusedSimpArgs false

def layI : Lay Int := ⟨1, fun a => [.int .i64 a], 0, fun _ => rfl⟩
abbrev RdI := RdL layI
abbrev ownI := ownL layI 3

theorem RdL.int {w : World} {b off : Nat} {l : List Int} (h : ∀ i, i < l.length → ∀ j, j < layI.k → w.cell? ⟨b, off + i * layI.k + j, none⟩ = (layI.cs (l.getD i layI.d))[j]?) (i : Nat) (hi : i < l.length) :
    w.cell? ⟨b, off + i, none⟩ = some (.int .i64 (l.getD i 0)) := by
  have := h i hi 0 (by decide)
  rw [show layI.k = 1 from rfl, Nat.mul_one, Nat.add_zero] at this
  exact this

theorem infoInt : (Try.prog.info? 3).map (fun i => (i.zero, i.size, i.bytes)) = some (some (.int .i64 0), 1, 8) := by kernel_rfl
theorem flat_one (l : List Int) : l.flatMap layI.cs = l.map (Value.int .i64) := by
  induction l with
  | nil => rfl
  | cons a l ih => simp only [List.flatMap_cons, List.map_cons, ih]; rfl

set_option maxHeartbeats 1000000 in
theorem eqIntS_same (o1 o2 : Option Addr) (c1 c2 : Nat) (l : List Int) (w : World) (h1 : RdI w.heap.size w o1 l) (h2 : RdI w.heap.size w o2 l) (hl : l.length ≤ 1048576) :
    Calls Try.prog 49 #[.slice o1 l.length c1, .slice o2 l.length c2] w fun e w' => e = .returned (.bool true) ∧ Below w.heap.size w w' := by
  go_enter Try.func49, Try.ntmps49
  go_wp2
  go_loopw [5] (fun i wr => ∃ k : Nat, k ≤ l.length ∧ i = .int .i64 k ∧ Below w.heap.size w wr)
    (fun i _ => l.length - (intOf i).toNat)
  case atStart => exact ⟨0, Nat.zero_le _, rfl, Below.refl _ _⟩
  case round =>
    obtain ⟨k, hk, rfl, hBr⟩ := hrel
    by_cases hlt : k < l.length
    · rcases h1 with h1 | ⟨b1, off1, rfl, hb1, hcell1⟩
      · subst h1; simp at hlt
      rcases h2 with h2 | ⟨b2, off2, rfl, hb2, hcell2⟩
      · subst h2; simp at hlt
      have hc1 : wr.cell? ⟨b1, off1 + k, none⟩ = some (.int .i64 (l.getD k 0)) := (hBr.cell (p := ⟨b1, off1 + k, none⟩) hb1).trans (RdL.int hcell1 k hlt)
      have hc2 : wr.cell? ⟨b2, off2 + k, none⟩ = some (.int .i64 (l.getD k 0)) := (hBr.cell (p := ⟨b2, off2 + k, none⟩) hb2).trans (RdL.int hcell2 k hlt)
      have HB := hide hBr
      clear hcell1 hcell2 hBr
      have i1 : (k : Int) < (l.length : Int) := by omega
      generalize l.getD k 0 = x at *
      go_wp2
      go_quiet (fail)
      go_wp2
      go_roundw
      case rel => exact ⟨k + 1, by omega, by go_num, below_drewN HB.out _⟩
      case measure => simp [intOf]; omega
    · have e : k = l.length := by omega
      subst e
      go_wp2
      go_ret
      exact ⟨rfl, hBr⟩

def markI (k : Int) (n : Nat) : List Int := (List.range n).map (fun (i : Nat) => k + (i : Int))
theorem markI_length (k : Int) (n : Nat) : (markI k n).length = n := by simp [markI]
theorem markI_get (k : Int) (n i : Nat) (h : i < n) : (markI k n).getD i 0 = k + (i : Int) := by simp [markI, h]
def markITo (l : List Int) (k : Int) (i : Nat) : List Int := markI k i ++ l.drop i
theorem markITo_zero (l : List Int) (k : Int) : markITo l k 0 = l := by simp [markITo, markI]
theorem markITo_all (l : List Int) (k : Int) : markITo l k l.length = markI k l.length := by simp [markITo]
theorem markITo_length (l : List Int) (k : Int) (i : Nat) (h : i ≤ l.length) : (markITo l k i).length = l.length := by simp [markITo, markI]; omega
theorem markITo_set (l : List Int) (k : Int) (i : Nat) (h : i < l.length) : ((markITo l k i).flatMap layI.cs).set i (.int .i64 (k + (i : Int))) = (markITo l k (i + 1)).flatMap layI.cs := by
  rw [flat_set1 layI rfl (a := k + (i : Int)) rfl]
  congr 1
  have e2 : (markI k i).length = i := markI_length k i
  unfold markITo
  rw [List.drop_eq_getElem_cons h, List.set_append_right _ _ (by omega), e2, Nat.sub_self, List.set_cons_zero]
  have e3 : markI k (i + 1) = markI k i ++ [k + (i : Int)] := by simp [markI, List.range_succ]
  rw [e3, List.append_assoc]
  rfl
theorem markI_step {w wr : World} {base g cap : Nat} {l : List Int} {k : Int} {i : Nat} (hi : i < l.length) (hown : wr.ownsRow base 3 1 (.slice (some ⟨g, 0, none⟩) l.length cap) l.length ((markITo l k i).flatMap layI.cs))
    (hg : w.grownBy wr (some g)) : (wr.setCell ⟨g, i, none⟩ (.int .i64 (k + (i : Int)))).ownsRow base 3 1 (.slice (some ⟨g, 0, none⟩) l.length cap) l.length ((markITo l k (i + 1)).flatMap layI.cs) ∧
      w.grownBy (wr.setCell ⟨g, i, none⟩ (.int .i64 (k + (i : Int)))) (some g) := by
  have h := hown.stored i (.int .i64 (k + (i : Int)))
  rw [markITo_set l k i hi] at h
  exact ⟨h.1, ⟨hg.os, hg.tape, hg.output, by have := h.2.size; have := hg.size; omega, fun j hj hne => (h.2.block j (Nat.lt_of_lt_of_le hj hg.size) hne).trans (hg.block j hj hne)⟩⟩

set_option maxHeartbeats 1000000 in
theorem markIntS_any (base : Nat) (v : Value) (l : List Int) (k : Int) (w : World) (hv : ownI w base v l) (h0 : 0 ≤ k) (h1 : k ≤ 1073741824) (hlen : l.length ≤ 1048576) :
    Calls Try.prog 50 #[v, .int .i64 k] w fun e w' => e = .returned (.int .i64 (k + l.length)) ∧ ownI w' base v (markI k l.length) ∧ w.grownBy w' v.ownBlock := by
  rcases hv.2 with ⟨rfl, h2⟩ | ⟨g, cap, cur, rfl, hg, _⟩
  · have e : l = [] := List.eq_nil_of_length_eq_zero h2
    subst e
    go_enter Try.func50, Try.ntmps50
    go_wp2
    refine wp_loop_rounds 1 ?_
    rw [rounds_succ]
    go_wp2
    go_ret
    exact ⟨by simp, by simpa [markI] using hv, World.grownBy.refl _ _⟩
  · go_enter Try.func50, Try.ntmps50
    go_wp2
    have hv0 : w.ownsRow base 3 1 (.slice (some ⟨g, 0, none⟩) l.length cap) l.length ((markITo l k 0).flatMap layI.cs) := by rw [markITo_zero]; exact hv
    go_loopw [1, 5] (fun m j wr => ∃ i : Nat, i ≤ l.length ∧ j = .int .i64 i ∧ m = .int .i64 (k + (i : Int)) ∧ wr.ownsRow base 3 1 (.slice (some ⟨g, 0, none⟩) l.length cap) l.length ((markITo l k i).flatMap layI.cs) ∧ w.grownBy wr (some g))
      (fun _ j _ => l.length - (intOf j).toNat)
    case atStart => exact ⟨0, Nat.zero_le _, rfl, by simp, hv0, World.grownBy.refl _ _⟩
    case round =>
      obtain ⟨i, hi, rfl, rfl, hown, hgr⟩ := hrel
      by_cases hlt : i < l.length
      · have hcl := hown.cellAt i (by omega)
        have hfr := hown.frozenAt i
        have hln : ((markITo l k i).flatMap layI.cs).length = l.length := by rw [flat_length, markITo_length l k i hi]; exact Nat.mul_one _
        obtain ⟨u, hu⟩ : ∃ u, wr.cell? ⟨g, i, none⟩ = some u := ⟨_, hcl.trans (List.getElem?_eq_getElem (by omega))⟩
        have R := hide (markI_step hlt hown hgr)
        clear hcl hown hgr hv hv0 hln
        go_wp2
        go_roundw
        case rel => exact ⟨i + 1, by omega, by go_num, by go_num, R.out.1, R.out.2⟩
        case measure => simp [intOf]; omega
      · have e : i = l.length := by omega
        subst e
        rw [markITo_all] at hown
        have HO := hide hown
        clear hown
        go_wp2
        go_ret
        exact ⟨rfl, (by have := HO.out; unfold ownI ownL; rw [markI_length]; exact this), hgr⟩

set_option maxHeartbeats 1000000 in
theorem heldIntS_any (o : Option Addr) (cap n C : Nat) (k : Int) (w : World) (hR : RdI C w o (markI k n)) (h0 : 0 ≤ k) (h1 : k ≤ 1073741824) (hlen : n ≤ 1048576) :
    Calls Try.prog 51 #[.slice o n cap, .int .i64 k] w fun e w' => e = .returned (.int .i64 (k + n)) ∧ w = w' := by
  go_enter Try.func51, Try.ntmps51
  go_wp2
  go_loop [1, 5] (fun m j => ∃ i : Nat, i ≤ n ∧ j = .int .i64 i ∧ m = .int .i64 (k + (i : Int)))
    (fun _ j => n - (intOf j).toNat)
  case atStart => exact ⟨0, Nat.zero_le _, rfl, by simp⟩
  case round =>
    obtain ⟨i, hi, rfl, rfl⟩ := hrel
    by_cases hlt : i < n
    · rcases hR with hR | ⟨b, off, rfl, hbl, hcell⟩
      · have := markI_length k n; rw [hR] at this; simp at this; omega
      have hc := RdL.int hcell i (by rw [markI_length]; exact hlt)
      rw [markI_get k n i hlt] at hc
      clear hcell
      go_wp2
      go_round
      case rel => exact ⟨i + 1, by omega, by go_num, by go_num⟩
      case measure => simp [intOf]; omega
    · have e : i = n := by omega
      subst e
      go_wp2
      go_ret
      exact ⟨rfl, rfl⟩

end Go.Proofs.Ytflakpmcgopdaaa

/- Slices of ints and slices of these: how they read; the laws' own helpers over them: szIntS, szIntSS, toIntS, toIntSS, eqIntS, eqIntSS. -/
namespace Go.Proofs.Ytflakpmcgopdaaa
open Go.ChangeShapes Go.WideShapes Go.ChangeAt Go.RowKit Go.Joins
set_option linter.unusedVariables false
set_option linter.unusedSimpArgs false

/-- A slice's head: where it begins, its length, its capacity. -/
abbrev Hd := Option Addr × Nat × Nat
def layH : Lay Hd := ⟨1, fun a => [.slice a.1 a.2.1 a.2.2], (none, 0, 0), fun _ => rfl⟩

theorem RdL.head {w : World} {b off : Nat} {l : List Hd} (h : ∀ i, i < l.length → ∀ j, j < layH.k → w.cell? ⟨b, off + i * layH.k + j, none⟩ = (layH.cs (l.getD i layH.d))[j]?) (i : Nat) (hi : i < l.length) :
    w.cell? ⟨b, off + i, none⟩ = some (.slice (l.getD i (none, 0, 0)).1 (l.getD i (none, 0, 0)).2.1 (l.getD i (none, 0, 0)).2.2) := by
  have := h i hi 0 (by decide)
  rw [show layH.k = 1 from rfl, Nat.mul_one, Nat.add_zero] at this
  exact this

/-- As RdL, in a block from lo on. -/
def RdLo {α : Type} (L : Lay α) (lo C : Nat) (w : World) (o : Option Addr) (l : List α) : Prop :=
  l = [] ∨ ∃ b off, o = some ⟨b, off, none⟩ ∧ lo ≤ b ∧ b < C ∧ ∀ i, i < l.length → ∀ j, j < L.k → w.cell? ⟨b, off + i * L.k + j, none⟩ = (L.cs (l.getD i L.d))[j]?
theorem RdLo.rd {α : Type} {L : Lay α} {lo C : Nat} {w : World} {o : Option Addr} {l : List α} (h : RdLo L lo C w o l) : RdL L C w o l := by
  rcases h with h | ⟨b, off, ho, _, hb, r⟩
  · exact .inl h
  · exact .inr ⟨b, off, ho, hb, r⟩
theorem RdLo.kept {α : Type} {L : Lay α} {lo C D : Nat} {w w' : World} {o : Option Addr} {l : List α} (h : RdLo L lo C w o l) (hb : Below D w w') (hc : C ≤ D) : RdLo L lo C w' o l := by
  rcases h with h | ⟨b, off, ho, h0, hlt, r⟩
  · exact .inl h
  · exact .inr ⟨b, off, ho, h0, hlt, fun i hi j hj => (hb.cell (p := ⟨b, off + i * L.k + j, none⟩) (Nat.lt_of_lt_of_le hlt hc)).trans (r i hi j hj)⟩
theorem RdLo.le {α : Type} {L : Lay α} {lo C D : Nat} {w : World} {o : Option Addr} {l : List α} (h : RdLo L lo C w o l) (hc : C ≤ D) : RdLo L lo D w o l := by
  rcases h with h | ⟨b, off, ho, h0, hlt, r⟩
  · exact .inl h
  · exact .inr ⟨b, off, ho, h0, Nat.lt_of_lt_of_le hlt hc, r⟩
theorem RdLo.put {α : Type} {L : Lay α} {lo C g j : Nat} {w : World} {o : Option Addr} {l : List α} {u : Value} (h : RdLo L lo C w o l) (hg : g < lo) : RdLo L lo C (w.setCell ⟨g, j, none⟩ u) o l := by
  rcases h with h | ⟨b, off, ho, h0, hlt, r⟩
  · exact .inl h
  · exact .inr ⟨b, off, ho, h0, hlt, fun i hi j' hj => (World.cell?_setCell_other w _ _ _ (by simp <;> omega)).trans (r i hi j' hj)⟩
theorem ownL.rdLo {α : Type} {L : Lay α} {e : TypeId} {w : World} {base g n cap : Nat} {l : List α} (h : ownL L e w base (.slice (some ⟨g, 0, none⟩) n cap) l) : RdLo L base w.heap.size w (some ⟨g, 0, none⟩) l := by
  have hg := (h.lt g rfl).1
  rcases h.rd with h | ⟨b, off, ho, hb, r⟩
  · exact .inl h
  · cases ho
    exact .inr ⟨g, 0, rfl, hg, hb, r⟩

/-- The slice of slices that begins at o reads as ll. -/
def RdLL (C : Nat) (w : World) (o : Option Addr) (ll : List (List Int)) : Prop :=
  ∃ hs : List Hd, hs.length = ll.length ∧ RdL layH C w o hs ∧ ∀ i, i < ll.length → (hs.getD i (none, 0, 0)).2.1 = (ll.getD i []).length ∧ RdI C w (hs.getD i (none, 0, 0)).1 (ll.getD i [])
theorem RdLL.kept {C D : Nat} {w w' : World} {o : Option Addr} {ll : List (List Int)} (h : RdLL C w o ll) (hb : Below D w w') (hc : C ≤ D) : RdLL C w' o ll := by
  obtain ⟨hs, hl, hr, hx⟩ := h
  exact ⟨hs, hl, hr.kept hb hc, fun i hi => ⟨(hx i hi).1, (hx i hi).2.kept hb hc⟩⟩
theorem RdLL.le {C D : Nat} {w : World} {o : Option Addr} {ll : List (List Int)} (h : RdLL C w o ll) (hc : C ≤ D) : RdLL D w o ll := by
  obtain ⟨hs, hl, hr, hx⟩ := h
  exact ⟨hs, hl, hr.le hc, fun i hi => ⟨(hx i hi).1, (hx i hi).2.le hc⟩⟩
/-- The head of row i, and how the row reads. -/
theorem RdLL.at {C : Nat} {w : World} {o : Option Addr} {ll : List (List Int)} (h : RdLL C w o ll) (hC : C ≤ w.heap.size) (i : Nat) (hi : i < ll.length) :
    ∃ b off o' c', o = some ⟨b, off, none⟩ ∧ b < w.heap.size ∧ w.cell? ⟨b, off + i, none⟩ = some (.slice o' (ll.getD i []).length c') ∧ RdI w.heap.size w o' (ll.getD i []) := by
  obtain ⟨hs, hl, hr, hx⟩ := h
  rcases hr with hr | ⟨b, off, ho, hb, r⟩
  · subst hr; simp at hl; omega
  · have := RdL.head r i (by omega)
    rw [(hx i hi).1] at this
    exact ⟨b, off, _, _, ho, Nat.lt_of_lt_of_le hb hC, this, (hx i hi).2.le hC⟩

theorem infoIntS : (Try.prog.info? 43).map (fun i => (i.zero, i.size, i.bytes)) = some (some (.slice none 0 0), 1, 24) := by kernel_rfl
theorem cellsInt2 : Try.prog.cellsOf 3 = 1 := by kernel_rfl
theorem cellsIntS : Try.prog.cellsOf 43 = 1 := by kernel_rfl

/-- Ints that came in. -/
theorem open_ints_cells {H : Type} {enc : TypeId × Value → H} {W : World} {fuel : Nat} {cs : List Value} {x : DataW H × List MemPlace} (h : DataW.trod enc Try.prog W 0 (fun _ => true) true fuel 43 cs = some x) :
    ∃ (o : Option Addr) (cap : Nat) (l : List Int), cs = [.slice o l.length cap] ∧ l.length ≤ maxLen ∧ RdI W.heap.size W o l := by
  refine open_list layI (by decide) Try.underlying43 cellsInt2 ?_ h
  intro n cs y hl hy
  obtain ⟨a, e0, _, _⟩ := DataW.trod_int Try.underlying3 hy
  exact ⟨a, e0⟩
/-- Rows of ints that came in. -/
theorem open_rows_cells {H : Type} {enc : TypeId × Value → H} {W : World} {fuel : Nat} {cs : List Value} {x : DataW H × List MemPlace} (h : DataW.trod enc Try.prog W 0 (fun _ => true) true fuel 37 cs = some x) :
    ∃ (o : Option Addr) (cap : Nat) (ll : List (List Int)), cs = [.slice o ll.length cap] ∧ ll.length ≤ maxLen ∧ RdLL W.heap.size W o ll ∧ ∀ i, i < ll.length → (ll.getD i []).length ≤ maxLen := by
  rcases Go.Deep.open_slice1 Try.underlying37 cellsIntS h with ⟨hcs, _⟩ | ⟨a, len, cap, m, n, V, D, Pl, hcs, _, hl, hm, hmm, _, hx⟩
  · exact ⟨none, 0, [], hcs, Nat.zero_le _, ⟨[], rfl, .inl rfl, fun i hi => by cases hi⟩, fun i hi => by cases hi⟩
  · have hlm : len ≤ m := by rw [hmm]; split <;> omega
    have ex : ∀ i, i < len → ∃ y : Hd × List Int, V i = .slice y.1.1 y.1.2.1 y.1.2.2 ∧ y.1.2.1 = y.2.length ∧ y.2.length ≤ maxLen ∧ RdI W.heap.size W y.1.1 y.2 := fun i hi => by
      obtain ⟨o', c', l', e, hl', hr⟩ := open_ints_cells (hx i (by omega)).2
      simp at e
      exact ⟨((o', l'.length, c'), l'), e, rfl, hl', hr⟩
    have hne : Inhabited (Hd × List Int) := ⟨((none, 0, 0), [])⟩
    obtain ⟨f, hf⟩ := Go.Deep.choose_lt ex
    have gd : ∀ i, i < len → ((List.range len).map (fun i => (f i).2)).getD i [] = (f i).2 := fun i hi => by simp [hi]
    have gh : ∀ i, i < len → ((List.range len).map (fun i => (f i).1)).getD i (none, 0, 0) = (f i).1 := fun i hi => by simp [hi]
    refine ⟨some a, cap, (List.range len).map (fun i => (f i).2), by simpa using hcs, by simp; omega, ⟨(List.range len).map (fun i => (f i).1), by simp, ?_, fun i hi => ?_⟩, fun i hi => ?_⟩
    · by_cases h0 : len = 0
      · left; simp [h0]
      · right
        obtain ⟨b, off, spot⟩ := a
        have hc := (hx 0 (by omega)).1
        have hspot : spot = none := by simpa [Addr.add] using World.cell?_spot hc
        subst hspot
        have e2 : ∀ j, (⟨b, off, none⟩ : Addr).add j = ⟨b, off + j, none⟩ := fun j => by by_cases h : j = 0 <;> simp [Addr.add, h]
        refine ⟨b, off, rfl, ?_, fun i hi j hj => ?_⟩
        · rw [e2] at hc
          rcases Nat.lt_or_ge b W.heap.size with h | h
          · exact h
          · simp [World.cell?, Array.getElem?_eq_none h] at hc
        · have hi' : i < len := by simpa using hi
          have hj' : j = 0 := by have : j < 1 := hj; omega
          subst hj'
          have h1 := (hx i (by omega)).1
          rw [e2] at h1
          rw [show layH.d = (none, 0, 0) from rfl, gh i hi', show layH.k = 1 from rfl, Nat.mul_one, Nat.add_zero, h1, (hf i hi').1]
          rfl
    · have hi' : i < len := by simpa using hi
      rw [gd i hi', gh i hi']
      exact ⟨(hf i hi').2.1, (hf i hi').2.2.2⟩
    · have hi' : i < len := by simpa using hi
      rw [gd i hi']
      exact (hf i hi').2.2.1
set_option maxRecDepth 100000 in
theorem open_rows {H : Type} {enc : TypeId × Value → H} {W : World} {base : Nat} {v : Value} {d : DataW H} {p : List MemPlace}
    (hv : Value.okWide Try.prog W .any base 37 v) (h : DataW.Trod enc Try.prog W 0 (fun _ => true) true 37 v d p) :
    ∃ (o : Option Addr) (cap : Nat) (ll : List (List Int)), v = .slice o ll.length cap ∧ ll.length ≤ maxLen ∧ RdLL W.heap.size W o ll ∧ ∀ i, i < ll.length → (ll.getD i []).length ≤ maxLen := by
  obtain ⟨a0, len0, cap0, rfl⟩ := okWide_slice Try.underlying37 hv
  obtain ⟨fuel, hf⟩ := h
  obtain ⟨o, cap, l, hcs, r⟩ := open_rows_cells hf
  simp [Value.cells] at hcs
  obtain ⟨rfl, rfl, rfl⟩ := hcs
  exact ⟨_, _, l, rfl, r⟩

end Go.Proofs.Ytflakpmcgopdaaa

