/- The library's Insert of one at rows of backs: the road with no room. -/
import Derived.Test.YtldjaapbkihibaaSInsert
import Derived.Lib.AppendZerosOnto
import Derived.Laws.NewBlocks
import Derived.Deep.DeepAppendWide
namespace Go.Proofs.Ytldjaapbkihibaa
open Go.ChangeShapes Go.WideShapes Go.ChangeAt Go.RowKit Go.Joins
set_option linter.unusedVariables false
set_option linter.unusedSimpArgs false

/-- One put in: the cells of the new row, behind the two copies. -/
theorem fresh_cells {X cs R : List Value} {i n k : Nat} (hX : X.length = n * k) (hR : R.take (i * k) = X.take (i * k)) (hi : i ≤ n) (hc : cs.length = k) (hlen : (n + 1) * k ≤ R.length) :
    let c1 := R.take (i * k) ++ cs ++ R.drop (i * k + cs.length)
    (c1.take ((i + 1) * k) ++ X.drop (i * k) ++ c1.drop ((i + 1) * k + (X.drop (i * k)).length)).take ((n + 1) * k) = X.take (i * k) ++ cs ++ X.drop (i * k) ∧ (c1.take ((i + 1) * k) ++ X.drop (i * k) ++ c1.drop ((i + 1) * k + (X.drop (i * k)).length)).length = R.length ∧ c1.length = R.length := by
  intro c1
  have hk1 : (i + 1) * k = i * k + k := Nat.succ_mul i k
  have hn1 : (n + 1) * k = n * k + k := Nat.succ_mul n k
  have hik : i * k ≤ n * k := Nat.mul_le_mul_right k hi
  have hT : (X.take (i * k)).length = i * k := by rw [List.length_take]; omega
  have hD : (X.drop (i * k)).length = n * k - i * k := by rw [List.length_drop, hX]
  have e1 : c1 = X.take (i * k) ++ cs ++ R.drop (i * k + cs.length) := by show R.take (i * k) ++ cs ++ _ = _; rw [hR]
  have hl : c1.length = R.length := by rw [e1]; simp only [List.length_append, List.length_drop, hT, hc]; omega
  have t1 : c1.take ((i + 1) * k) = X.take (i * k) ++ cs := by rw [e1]; exact List.take_left' (by rw [List.length_append, hT, hc]; omega)
  refine ⟨?_, ?_, hl⟩
  · rw [t1]; exact List.take_left' (by simp only [List.length_append, hT, hc, hD]; omega)
  · rw [t1]; simp only [List.length_append, List.length_drop, hT, hc, hl]
    rw [List.length_drop] at hD
    omega

set_option maxRecDepth 100000 in
set_option maxHeartbeats 4000000 in
theorem insert_grow (base g cap gx i : Nat) (l : List Bk) (b : Bk) (w : World) (hv : ownK w base (.slice (some ⟨g, 0, none⟩) l.length cap) l) (hbw : base ≤ w.heap.size) (hx : w.heap[gx]? = some (.cells (layK.cs b).toArray 39 (0, 0))) (hi : i < l.length) (hroom : cap < l.length + 1) (hl : l.length ≤ 1000) :
    Calls Try.prog 110 #[.slice (some ⟨g, 0, none⟩) l.length cap, .int .i64 i, .slice (some ⟨gx, 0, none⟩) 1 1] w fun e w' => ∃ v, e = .returned v ∧ ownK w' base v (l.take i ++ b :: l.drop i) ∧ Below w.heap.size w w' := by
  rcases hv.2 with ⟨h1, _⟩ | ⟨g', c', cur, h1, hb, hc, h4, h5, h6, h7⟩
  · cases h1
  injection h1 with h1 _ h3
  injection h1 with h1
  injection h1 with h1 _ _
  subst h1 h3
  obtain ⟨X, hX⟩ : ∃ X, X = l.flatMap layK.cs := ⟨_, rfl⟩
  have h7' : cur.toList.take (l.length * 3) = X := by rw [hX]; exact h7
  have hXl : X.length = l.length * 3 := by rw [hX, flat_length]; rfl
  have hX1 : ∀ v ∈ X, v.oneCell' = true := by rw [hX]; exact flat_one' appK0.one l
  have hb1 : ∀ v ∈ layK.cs b, v.oneCell' = true := fun v hv => appK0.one b v hv
  have hD : (X.drop (i * 3)).length = (l.length - i) * 3 := by rw [List.length_drop, hXl]; omega
  have hgw : g < w.heap.size := by
    rcases Nat.lt_or_ge g w.heap.size with h | h
    · exact h
    · rw [Array.getElem?_eq_none h] at hc; cases hc
  have hxw : gx < w.heap.size := by
    rcases Nat.lt_or_ge gx w.heap.size with h | h
    · exact h
    · rw [Array.getElem?_eq_none h] at hx; cases hx
  have hxc : ∀ j v, X[j]? = some v → w.cell? ⟨g, j, none⟩ = some v := fun j v hj => by
    rw [← h7', List.getElem?_take] at hj
    split at hj
    · simpa [World.cell?, hc] using hj
    · cases hj
  obtain ⟨z, bytes, hinfo, hzs, hby⟩ := appK0.info
  obtain ⟨i0, hi0, hz0, hz1, hz2⟩ := info_parts hinfo
  have hold : (Builtin.firstCells i0.size i (.slice (some ⟨g, 0, none⟩) i cap)).run Try.prog w.drew = .ok (X.take (i * 3)).toArray w.drew := by
    rw [hz1]
    exact run_firstCells_some w.drew 3 i ⟨g, 0, none⟩ i cap (X.take (i * 3)) (by rw [List.length_take]; omega) (fun j v hj => by
      rw [Addr.add_lit, Nat.zero_add]
      rw [List.getElem?_take] at hj
      split at hj
      · exact hxc j v hj
      · cases hj)
  have hi2 : i + (l.length + 1 - i) = l.length + 1 := by omega
  have hrz : ∀ ty, (Builtin.append_ #[23, 3] ty #[.slice (some ⟨g, 0, none⟩) i cap, .int .i64 ((l.length : Int) + 1 - (i : Int))]).run Try.prog w =
      .ok (.slice (some ⟨w.heap.size, 0, none⟩) (l.length + 1) (grownCap w (l.length + 1) cap 39)) (w.drew.alloc (.cells ((X.take (i * 3)).toArray ++ Builtin.zeroCells z.cells (l.length + 1 - i) ++ Builtin.zeroCells z.cells (grownCap w (l.length + 1) cap 39 - (l.length + 1))) 39)) := fun ty => by
    have h := Lib.run_append_grow_zeros w 23 3 ty 39 i0 z .i64 .i64 Try.underlying23 Try.underlying3 hi0 hz0 (some ⟨g, 0, none⟩) i cap (X.take (i * 3)) hold (l.length + 1 - i) (by omega) (by rw [hz1]; decide) (by omega) (by omega) (by rw [hz2]; have := Nat.mul_le_mul (show l.length + 1 - i ≤ 1001 by omega) hby; omega) (Go.growslice_fits_wide (by omega) (by rw [hz2, hi2]; have := Nat.mul_le_mul (show (l.length + 1) + (l.length + 1) / 4 + 192 ≤ 2000 by omega) hby; omega))
    rw [hi2] at h
    rw [show (l.length : Int) + 1 - (i : Int) = ((l.length + 1 - i : Nat) : Int) by omega]
    exact h
  have hGn := grownCap_ge w (l.length + 1) cap 39
  have hGm : grownCap w (l.length + 1) cap 39 ≤ maxLen := grownCap_le_maxLen w (l.length + 1) cap 39 (by unfold maxLen; omega)
  generalize grownCap w (l.length + 1) cap 39 = G at *
  obtain ⟨ROW, hROW⟩ : ∃ ROW : Array Value, ROW = (X.take (i * 3)).toArray ++ Builtin.zeroCells z.cells (l.length + 1 - i) ++ Builtin.zeroCells z.cells (G - (l.length + 1)) := ⟨_, rfl⟩
  rw [← hROW] at hrz
  have hzz : ∀ k, (Builtin.zeroCells z.cells k).size = k * 3 := fun k => by simp [Builtin.zeroCells, hzs]; rfl
  have hRs : ROW.toList.length = G * 3 := by
    rw [hROW]; simp only [Array.length_toList, Array.size_append, hzz, List.size_toArray, List.length_take, hXl]; omega
  have hRt : ROW.toList.take (i * 3) = X.take (i * 3) := by
    rw [hROW]; simp only [Array.toList_append, List.append_assoc]
    exact List.take_left' (by rw [List.length_take]; omega)
  have HS := hide (fresh_cells (cs := layK.cs b) (i := i) (n := l.length) (k := 3) hXl hRt (Nat.le_of_lt hi) rfl (by omega))
  dsimp only at HS
  obtain ⟨C1, hC1⟩ : ∃ C1, C1 = ROW.toList.take (i * 3) ++ layK.cs b ++ ROW.toList.drop (i * 3 + (layK.cs b).length) := ⟨_, rfl⟩
  rw [← hC1] at HS
  have hC1l : C1.length = G * 3 := HS.out.2.2.trans hRs
  obtain ⟨C2, hC2⟩ : ∃ C2, C2 = C1.take ((i + 1) * 3) ++ X.drop (i * 3) ++ C1.drop ((i + 1) * 3 + (X.drop (i * 3)).length) := ⟨_, rfl⟩
  rw [← hC2] at HS
  obtain ⟨N, hN⟩ : ∃ N, N = w.heap.size := ⟨_, rfl⟩
  obtain ⟨W1, hW1⟩ : ∃ W1, W1 = w.drew.alloc (.cells ROW 39) := ⟨_, rfl⟩
  rw [← hW1] at hrz
  have k1 : W1.heap[N]? = some (.cells ROW 39 (0, 0)) := by rw [hW1, hN]; exact heap_alloc_new w.drew _
  have kg : W1.heap[g]? = some (.cells cur 39 (0, 0)) := by rw [hW1, Below.heap_alloc w.drew _ g hgw]; exact hc
  have kx : W1.heap[gx]? = some (.cells (layK.cs b).toArray 39 (0, 0)) := by rw [hW1, Below.heap_alloc w.drew _ gx hxw]; exact hx
  obtain ⟨W2, hW2⟩ : ∃ W2, W2 = W1.setRow N C1.toArray := ⟨_, rfl⟩
  have hcpA : ∀ ty dL dc, 1 ≤ dL → (Builtin.copy_ #[23, 23] ty #[.slice (some ⟨N, i * 3, none⟩) dL dc, .slice (some ⟨gx, 0, none⟩) 1 1]).run Try.prog W1 = .ok (goInt (Nat.min 1 dL)) W2 := fun ty dL dc e1 => by
    have h := run_copy_rowK (P := Try.prog) 3 W1 23 23 ty 39 N (i * 3) dL dc ⟨gx, 0, none⟩ 1 1 ROW 39 (layK.cs b) Try.underlying23 (by kernel_rfl) k1 (by rw [show Nat.min 1 dL = 1 by show min 1 dL = _; omega]; rfl)
      (fun j v hj => by
        rw [Addr.add_lit]
        simpa [World.cell?, kx] using hj) (by rw [Array.length_toList] at hRs; rw [hRs]; show i * 3 + 3 ≤ G * 3; omega) hb1
    rw [h, hW2, hC1]
  have k2 : W2.heap[N]? = some (.cells C1.toArray 39 (0, 0)) := by rw [hW2]; exact setRow_heap W1 N ROW _ 39 _ k1
  have kg2 : W2.heap[g]? = some (.cells cur 39 (0, 0)) := by rw [hW2, setRow_other W1 N g _ (by omega)]; exact kg
  obtain ⟨W3, hW3⟩ : ∃ W3, W3 = W2.drew.setRow N C2.toArray := ⟨_, rfl⟩
  have hcpB : ∀ ty dL dc sL sc, dL = l.length - i → sL = l.length - i → (Builtin.copy_ #[23, 23] ty #[.slice (some ⟨N, (i + 1) * 3, none⟩) dL dc, .slice (some ⟨g, i * 3, none⟩) sL sc]).run Try.prog W2.drew = .ok (goInt (Nat.min sL dL)) W3 := fun ty dL dc sL sc e1 e2 => by
    have h := run_copy_rowK (P := Try.prog) 3 W2.drew 23 23 ty 39 N ((i + 1) * 3) dL dc ⟨g, i * 3, none⟩ sL sc C1.toArray 39 (X.drop (i * 3)) Try.underlying23 (by kernel_rfl) k2 (by rw [hD, show Nat.min sL dL = l.length - i by show min sL dL = _; omega])
      (fun j v hj => by
        rw [List.getElem?_drop, ← h7', List.getElem?_take] at hj
        split at hj
        · rw [Addr.add_lit]; show W2.cell? ⟨g, i * 3 + j, none⟩ = some v; simpa [World.cell?, kg2] using hj
        · cases hj) (by rw [hD]; simp only [List.size_toArray, hC1l]; omega) (fun v hv => hX1 v (List.mem_of_mem_drop hv))
    rw [h, hW3, hC2]
  have k3 : W3.heap[N]? = some (.cells C2.toArray 39 (0, 0)) := by rw [hW3]; exact setRow_heap W2.drew N C1.toArray _ 39 _ k2
  have B1 : Below N w W1 := by rw [hW1, hN]; exact ((Below.refl _ w).drew).alloc (Nat.le_refl _) _
  have B3 : Below N w W3 := by
    have a1 : W1.grownBy W2 (some N) := by rw [hW2]; exact ⟨rfl, rfl, rfl, by simp, fun k _ hk => setRow_other W1 N k _ (fun e => hk (by simp [e]))⟩
    have a2 : W2.grownBy W3 (some N) := by rw [hW3]; exact ⟨rfl, rfl, rfl, by simp, fun k _ hk => setRow_other W2.drew N k _ (fun e => hk (by simp [e]))⟩
    exact B1.grown (a1.trans a2) (by rw [hN]; exact hN ▸ B1.size) (fun k e => by cases e; exact Nat.le_refl _)
  have HFIN := hide (And.intro k3 (And.intro B3 (And.intro hX (And.intro hRs (And.intro hN hbw)))))
  rw [← hN] at hrz
  have RZ := hide hrz
  have CPA := hide hcpA
  have CPB := hide hcpB
  have HGM := hide hGm
  clear hv hbw hx hc hX h7 h7' hXl hX1 hb1 hD hgw hxw hxc hinfo hzs hi0 hz0 hz1 hz2 hold hrz hROW hzz hRs hRt hC1 hC1l hC2 hW1 k1 kg kx hW2 hcpA k2 kg2 hW3 hcpB k3 B1 B3 hby hi2 hN h6 h5
  generalize hn : l.length = n at *
  have HN := hide hn
  have hcn : cap = n := by omega
  subst hcn
  clear hn h4 hroom
  have z0 : ((i : Int) == (cap : Int)) = false := by simp; omega
  have z1 : (cap : Int) < (cap : Int) + 1 := by omega
  have n1 : i ≤ cap := by omega
  have n3 : ¬ (cap = i) := by omega
  have n5 : ¬ (G = i) := by omega
  have n6 : ¬ (G = i + 1) := by omega
  have n7 : cap + 1 ≤ G := hGn
  have z3 : (i : Int) + 1 ≤ (cap : Int) + 1 := by omega
  have z4 : (i : Int) ≤ (cap : Int) := by omega
  have z5 : (i : Int) ≤ (cap : Int) + 1 := by omega
  have hw1 : IntKind.i64.wrap ((i : Int) + 1) = (i : Int) + 1 := by rw [IntKind.wrap_i64]; omega
  have hw2 : (0 : Int) ≤ (i : Int) + 1 := by omega
  have hw3 : ((i : Int) + 1).toNat = i + 1 := by omega
  have e3 : 1 ≤ cap + 1 - i := by omega
  have hcp3 := CPA.out 3 (cap + 1 - i) (G - i) e3
  clear e3
  go_enter Try.func110, Try.ntmps110
  go_wp2_with (first | (at_builtin; refine Lib.wpList_append_run _ rfl _ _ _ _ rfl _ _ rfl rfl _ _ (RZ.out _) ?_))
  go_region_law (refine step_copy_runI rfl _ _ 23 23 rfl (.slice (some ⟨N, (i + 1) * 3, none⟩) (cap - i) (G - (i + 1))) (.slice (some ⟨g, i * 3, none⟩) (cap - i) (cap - i)) (by simp [Act.eval, Act.put]) (by simp [Act.eval, Act.put]) (CPB.out _ _ _ _ _ rfl rfl) ?_)
  go_wp2
  go_ret
  obtain ⟨k3, B3, hX, hRs, hN, hbw⟩ := HFIN.out
  refine ⟨_, rfl, ?_, hN ▸ B3⟩
  have hs := HS.out
  have hlen : (l.take i ++ b :: l.drop i).length = cap + 1 := by have := HN.out; simp; omega
  refine ⟨by rw [flat_length], .inr ⟨N, G, _, by rw [hlen]; rfl, by omega, k3, by rw [hlen]; omega, HGM.out, ?_, ?_⟩⟩
  · rw [List.size_toArray]
    exact hs.2.1.trans hRs
  · rw [hlen]
    show List.take ((cap + 1) * 3) _ = _
    rw [hs.1, hX, List.flatMap_append, List.flatMap_cons, List.append_assoc]
    have e2 : l.flatMap layK.cs = (l.take i).flatMap layK.cs ++ (l.drop i).flatMap layK.cs := by rw [← List.flatMap_append, List.take_append_drop]
    have e4 : ((l.take i).flatMap layK.cs).length = i * 3 := by rw [flat_length, List.length_take, HN.out, Nat.min_eq_left n1]; rfl
    rw [e2, List.take_left' e4, List.drop_left' e4]

/-- Insert of one, whatever the room. -/
theorem slicesInsert_any (base cap gx i : Nat) (o : Option Addr) (l : List Bk) (b : Bk) (w : World) (hv : ownK w base (.slice o l.length cap) l) (hbw : base ≤ w.heap.size) (hx : w.heap[gx]? = some (.cells (layK.cs b).toArray 39 (0, 0))) (hne : ∀ g, o = some ⟨g, 0, none⟩ → gx ≠ g) (hi : i ≤ l.length) (hl : l.length ≤ 1000) :
    Calls Try.prog 110 #[.slice o l.length cap, .int .i64 i, .slice (some ⟨gx, 0, none⟩) 1 1] w fun e w' => ∃ v, e = .returned v ∧ ownK w' base v (l.take i ++ b :: l.drop i) ∧ Below base w w' := by
  have hxw : gx < w.heap.size := by
    rcases Nat.lt_or_ge gx w.heap.size with h | h
    · exact h
    · rw [Array.getElem?_eq_none h] at hx; cases hx
  rcases Nat.lt_or_ge i l.length with hlt | hge
  · rcases hv.2 with ⟨h1, h2⟩ | ⟨g, c', cur, h1, hb, _⟩
    · injection h1 with _ h3 _; omega
    · injection h1 with h1 _ h3
      subst h1 h3
      by_cases hr : l.length + 1 ≤ cap
      · refine (insert_shift base g cap gx i l b w hv hx (hne g rfl) hlt hr hl).mono ?_
        rintro e w' ⟨v, rfl, h1, h2⟩
        exact ⟨v, rfl, h1, (Below.refl base w).grown h2 hbw (fun k e => by cases e; exact hb)⟩
      · refine (insert_grow base g cap gx i l b w hv hbw hx hlt (by omega) hl).mono ?_
        rintro e w' ⟨v, rfl, h1, h2⟩
        exact ⟨v, rfl, h1, h2.mono hbw⟩
  · have e : i = l.length := by omega
    subst e
    refine (insert_end base cap gx o l b w hv (.inr ⟨gx, 0, rfl, hxw, fun q hq j hj => ?_⟩) hbw hl).mono ?_
    · have hq0 : q = 0 := by simpa using hq
      subst hq0
      simp [World.cell?, hx]
    · rintro e w' ⟨v, rfl, h1, h2⟩
      refine ⟨v, rfl, by simpa using h1, (Below.refl base w).grown h2 hbw (fun k e => ?_)⟩
      rcases hv.2 with ⟨h3, _⟩ | ⟨g, c', cur, h3, hb, _⟩
      · rw [h3] at e; cases e
      · rw [h3] at e; cases e; exact hb

end Go.Proofs.Ytldjaapbkihibaa
