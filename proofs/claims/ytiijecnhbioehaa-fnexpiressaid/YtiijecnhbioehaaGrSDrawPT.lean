/- DrawPut. -/
import Derived.Test.YtiijecnhbioehaaGrSHome5T
import Derived.Test.YtiijecnhbioehaaGrBoxes
import Derived.Test.YtiijecnhbioehaaGrSBent5T
namespace Go.Proofs.Ytiijecnhbioehaa
open Go.ChangeShapes Go.WideShapes Go.ChangeAt Go.RowKit Go.Joins
set_option linter.unusedVariables false
set_option linter.unusedSimpArgs false

theorem pickN (k g n : Nat) (vs : List Int) (hn : vs.length = n) (w : World) (hc : isCur k w) (hg : g < w.heap.size) (hne : g ≠ k) (h0 : 0 < n) (h1 : n ≤ 1000) (hcell : ∀ q, q < n → w.cell? ⟨g, q, none⟩ = some (.int .i64 (vs.getD q 0))) :
    Calls Try.prog 58 #[.pointer (some ⟨k, 0, none⟩), .slice (some ⟨g, 0, none⟩) n n] w fun e w' => ∃ x : Int, e = .returned (.int .i64 x) ∧ isCur k w' ∧ Stp k (k + 1) w w' := by
  subst hn
  refine (l1PickInt_any k g vs w hc hg hne h0 h1 hcell).mono ?_
  rintro e w' ⟨q, _, rfl, h1, h2⟩
  exact ⟨_, rfl, h1, Stp.grown h2 (fun b e => by cases e; omega)⟩

set_option maxRecDepth 100000 in
set_option maxHeartbeats 8000000 in
theorem drawPut_any (o : Option Addr) (cap : Nat) (l : List Int) (w : World) (hR : Rd w o l) (hB8 : isB l) (hm : l.length ≤ maxLen) :
    Calls Try.prog 17 #[.slice o l.length cap] w fun e w' => ∃ v m a p x y, e = .returned (.tuple #[v, flow a p, .int .i64 x, .int .i64 y]) ∧ (1 ≤ m.length ∧ m.length ≤ 16) ∧ InT w.heap.size w'.heap.size w' v m ∧ Below w.heap.size w w' := by
  obtain ⟨W0, hW0⟩ : ∃ W, ((w.alloc (.cells #[.slice none 0 0] 25)).alloc (.cells #[.int .i64 0, .int .i64 0] 27)) = W := ⟨_, rfl⟩
  have hb_W0 : Below w.heap.size w W0 := by rw [← hW0]; exact (((Below.refl _ _).alloc (Nat.le_refl _) _).alloc (by simp <;> omega) _)
  have HB := hide hb_W0
  clear hb_W0
  have zx : w.heap.size < W0.heap.size := by rw [← hW0]; simp <;> omega
  have x0 : W0.cell? ⟨w.heap.size, 0, none⟩ = some (.slice none 0 0) := by rw [← hW0]; simp [go_sem]
  have fx0 : W0.frozen? ⟨w.heap.size, 0, none⟩ = false := by rw [← hW0]; simp [go_sem]
  have zy : w.heap.size + 1 < W0.heap.size := by rw [← hW0]; simp
  have y0 : W0.cell? ⟨w.heap.size + 1, 0, none⟩ = some (.int .i64 0) := by rw [← hW0]; simp [go_sem]
  have y1 : W0.cell? ⟨w.heap.size + 1, 1, none⟩ = some (.int .i64 0) := by rw [← hW0]; simp [go_sem]
  have fy0 : W0.frozen? ⟨w.heap.size + 1, 0, none⟩ = false := by rw [← hW0]; simp [go_sem]
  have fy1 : W0.frozen? ⟨w.heap.size + 1, 1, none⟩ = false := by rw [← hW0]; simp [go_sem]
  have hz0 := zy
  have hD := drawHome_any o cap l W0 (Rd.kept hR HB.out) hB8 hm
  have HR := hide hR
  go_enter Try.func17, Try.ntmps17
  go_wp2_with fail
  refine (hD).mono ?_
  rintro e v1 ⟨vt, m, fa, fp, rfl, hln, hin, hb⟩
  obtain ⟨ot, ct, hve⟩ := InT.opn hin
  subst hve
  obtain ⟨n, hn⟩ : ∃ n, m.length = n := ⟨_, rfl⟩
  rw [hn] at hin
  simp only [hn]
  have HN := hide hn
  have HI := hide hin
  have hs1 := hb.size
  clear hin hn
  replace x0 : v1.cell? ⟨w.heap.size, 0, none⟩ = some (.slice none 0 0) := (hb.cell (p := ⟨w.heap.size, 0, none⟩) zx).trans x0
  replace fx0 : v1.frozen? ⟨w.heap.size, 0, none⟩ = false := (hb.frozen (p := ⟨w.heap.size, 0, none⟩) zx).trans fx0
  replace zx : w.heap.size < v1.heap.size := Nat.lt_of_lt_of_le zx hb.size
  replace y0 : v1.cell? ⟨w.heap.size + 1, 0, none⟩ = some (.int .i64 0) := (hb.cell (p := ⟨w.heap.size + 1, 0, none⟩) zy).trans y0
  replace y1 : v1.cell? ⟨w.heap.size + 1, 1, none⟩ = some (.int .i64 0) := (hb.cell (p := ⟨w.heap.size + 1, 1, none⟩) zy).trans y1
  replace fy0 : v1.frozen? ⟨w.heap.size + 1, 0, none⟩ = false := (hb.frozen (p := ⟨w.heap.size + 1, 0, none⟩) zy).trans fy0
  replace fy1 : v1.frozen? ⟨w.heap.size + 1, 1, none⟩ = false := (hb.frozen (p := ⟨w.heap.size + 1, 1, none⟩) zy).trans fy1
  replace zy : w.heap.size + 1 < v1.heap.size := Nat.lt_of_lt_of_le zy hb.size
  replace HB := hide (HB.out.trans (hb.mono HB.out.size))
  clear hb
  obtain ⟨W2, hW2⟩ : ∃ W, ((v1.alloc (.cells #[.slice ot n ct] 25)).alloc (.cells #[.int .i64 fa, .int .i64 fp] 27)) = W := ⟨_, rfl⟩
  have hb_W2 : Below v1.heap.size v1 W2 := by rw [← hW2]; exact (((Below.refl _ _).alloc (Nat.le_refl _) _).alloc (by simp <;> omega) _)
  replace x0 : W2.cell? ⟨w.heap.size, 0, none⟩ = some (.slice none 0 0) := (hb_W2.cell (p := ⟨w.heap.size, 0, none⟩) zx).trans x0
  replace fx0 : W2.frozen? ⟨w.heap.size, 0, none⟩ = false := (hb_W2.frozen (p := ⟨w.heap.size, 0, none⟩) zx).trans fx0
  replace zx : w.heap.size < W2.heap.size := Nat.lt_of_lt_of_le zx hb_W2.size
  replace y0 : W2.cell? ⟨w.heap.size + 1, 0, none⟩ = some (.int .i64 0) := (hb_W2.cell (p := ⟨w.heap.size + 1, 0, none⟩) zy).trans y0
  replace y1 : W2.cell? ⟨w.heap.size + 1, 1, none⟩ = some (.int .i64 0) := (hb_W2.cell (p := ⟨w.heap.size + 1, 1, none⟩) zy).trans y1
  replace fy0 : W2.frozen? ⟨w.heap.size + 1, 0, none⟩ = false := (hb_W2.frozen (p := ⟨w.heap.size + 1, 0, none⟩) zy).trans fy0
  replace fy1 : W2.frozen? ⟨w.heap.size + 1, 1, none⟩ = false := (hb_W2.frozen (p := ⟨w.heap.size + 1, 1, none⟩) zy).trans fy1
  replace zy : w.heap.size + 1 < W2.heap.size := Nat.lt_of_lt_of_le zy hb_W2.size
  replace HB := hide (HB.out.trans (hb_W2.mono HB.out.size))
  have HIn := hide (HI.out.step (Stp.of (lo := 0) (hi := 0) hb_W2) (.inl (Nat.zero_le _)))
  clear HI
  have HI := HIn
  clear HIn
  clear hb_W2
  have zt : v1.heap.size < W2.heap.size := by rw [← hW2]; simp <;> omega
  have t0 : W2.cell? ⟨v1.heap.size, 0, none⟩ = some (.slice ot n ct) := by rw [← hW2]; simp [go_sem]
  have zf : v1.heap.size + 1 < W2.heap.size := by rw [← hW2]; simp
  have f0 : W2.cell? ⟨v1.heap.size + 1, 0, none⟩ = some (.int .i64 fa) := by rw [← hW2]; simp [go_sem]
  have f1 : W2.cell? ⟨v1.heap.size + 1, 1, none⟩ = some (.int .i64 fp) := by rw [← hW2]; simp [go_sem]
  have hz2 := zf
  clear hD hW0
  go_wp2_with fail
  refine (l1New_any o cap l W2 (Rd.kept HR.out HB.out) hB8 hm).mono ?_
  rintro e v2 ⟨rfl, hc, hb, hk⟩
  have HC := hide hc
  clear hc
  replace HI := hide (HI.out.step (Stp.of (lo := 0) (hi := 0) hb) (.inl (Nat.zero_le _)))
  replace x0 : v2.cell? ⟨w.heap.size, 0, none⟩ = some (.slice none 0 0) := (hb.cell (p := ⟨w.heap.size, 0, none⟩) zx).trans x0
  replace fx0 : v2.frozen? ⟨w.heap.size, 0, none⟩ = false := (hb.frozen (p := ⟨w.heap.size, 0, none⟩) zx).trans fx0
  replace zx : w.heap.size < v2.heap.size := Nat.lt_of_lt_of_le zx hb.size
  replace y0 : v2.cell? ⟨w.heap.size + 1, 0, none⟩ = some (.int .i64 0) := (hb.cell (p := ⟨w.heap.size + 1, 0, none⟩) zy).trans y0
  replace y1 : v2.cell? ⟨w.heap.size + 1, 1, none⟩ = some (.int .i64 0) := (hb.cell (p := ⟨w.heap.size + 1, 1, none⟩) zy).trans y1
  replace fy0 : v2.frozen? ⟨w.heap.size + 1, 0, none⟩ = false := (hb.frozen (p := ⟨w.heap.size + 1, 0, none⟩) zy).trans fy0
  replace fy1 : v2.frozen? ⟨w.heap.size + 1, 1, none⟩ = false := (hb.frozen (p := ⟨w.heap.size + 1, 1, none⟩) zy).trans fy1
  replace zy : w.heap.size + 1 < v2.heap.size := Nat.lt_of_lt_of_le zy hb.size
  replace t0 : v2.cell? ⟨v1.heap.size, 0, none⟩ = some (.slice ot n ct) := (hb.cell (p := ⟨v1.heap.size, 0, none⟩) zt).trans t0
  replace zt : v1.heap.size < v2.heap.size := Nat.lt_of_lt_of_le zt hb.size
  replace f0 : v2.cell? ⟨v1.heap.size + 1, 0, none⟩ = some (.int .i64 fa) := (hb.cell (p := ⟨v1.heap.size + 1, 0, none⟩) zf).trans f0
  replace f1 : v2.cell? ⟨v1.heap.size + 1, 1, none⟩ = some (.int .i64 fp) := (hb.cell (p := ⟨v1.heap.size + 1, 1, none⟩) zf).trans f1
  replace zf : v1.heap.size + 1 < v2.heap.size := Nat.lt_of_lt_of_le zf hb.size
  replace HB := hide (HB.out.trans (hb.mono HB.out.size))
  clear hb
  clear hW2
  go_wp2_with fail
  refine (l1Below_any W2.heap.size 3 v2 HC.out (by decide) (by decide)).mono ?_
  rintro e v3 ⟨bx, rfl, _, _, hc3, hg3⟩
  have st3 : Stp W2.heap.size (W2.heap.size + 1) v2 v3 := Stp.grown hg3 (fun b e => by cases e; omega)
  replace x0 : v3.cell? ⟨w.heap.size, 0, none⟩ = some (.slice none 0 0) := st3.cell x0 zx (.inl (by omega))
  replace fx0 : v3.frozen? ⟨w.heap.size, 0, none⟩ = false := st3.frozen fx0 zx (.inl (by omega))
  replace zx : w.heap.size < v3.heap.size := Nat.lt_of_lt_of_le zx st3.size
  replace y0 : v3.cell? ⟨w.heap.size + 1, 0, none⟩ = some (.int .i64 0) := st3.cell y0 zy (.inl (by omega))
  replace fy0 : v3.frozen? ⟨w.heap.size + 1, 0, none⟩ = false := st3.frozen fy0 zy (.inl (by omega))
  replace y1 : v3.cell? ⟨w.heap.size + 1, 1, none⟩ = some (.int .i64 0) := st3.cell y1 zy (.inl (by omega))
  replace fy1 : v3.frozen? ⟨w.heap.size + 1, 1, none⟩ = false := st3.frozen fy1 zy (.inl (by omega))
  replace zy : w.heap.size + 1 < v3.heap.size := Nat.lt_of_lt_of_le zy st3.size
  replace t0 : v3.cell? ⟨v1.heap.size, 0, none⟩ = some (.slice ot n ct) := st3.cell t0 zt (.inl (by omega))
  replace zt : v1.heap.size < v3.heap.size := Nat.lt_of_lt_of_le zt st3.size
  replace f0 : v3.cell? ⟨v1.heap.size + 1, 0, none⟩ = some (.int .i64 fa) := st3.cell f0 zf (.inl (by omega))
  replace f1 : v3.cell? ⟨v1.heap.size + 1, 1, none⟩ = some (.int .i64 fp) := st3.cell f1 zf (.inl (by omega))
  replace zf : v1.heap.size + 1 < v3.heap.size := Nat.lt_of_lt_of_le zf st3.size
  have HC3 := hide hc3
  replace HI := hide (HI.out.step st3 (.inr (by omega)))
  replace HB := hide (HB.out.trans (st3.below (by omega) (by omega)))
  have hs3 := st3.size
  have hk3 : W2.heap.size < v3.heap.size := by omega
  clear hc3 hg3 st3 HC
  generalize hK : W2.heap.size = K at *
  have hz_a : ((v3.alloc (.cells #[.int .i64 0, .int .i64 5, .int .i64 5, .int .i64 100001, .int .i64 (-1), .int .i64 7] 3)).drew).heap.size = v3.heap.size + 1 := by simp
  have hp_a : Below v3.heap.size v3 (v3.alloc (.cells #[.int .i64 0, .int .i64 5, .int .i64 5, .int .i64 100001, .int .i64 (-1), .int .i64 7] 3)).drew := Below.drew ((Below.refl _ _).alloc (Nat.le_refl _) _)
  have HA_a := hide (pickN K (v3.heap.size) 6 [0, 5, 5, 100001, -1, 7] rfl (v3.alloc (.cells #[.int .i64 0, .int .i64 5, .int .i64 5, .int .i64 100001, .int .i64 (-1), .int .i64 7] 3)).drew (HC3.out.below (hp_a.mono (by omega))) (by (try simp) <;> omega) (by omega) (by simp) (by simp) (fun q hq => by
      match q, hq with
      | 0, _ => simp [go_sem]
      | 1, _ => simp [go_sem]
      | 2, _ => simp [go_sem]
      | 3, _ => simp [go_sem]
      | 4, _ => simp [go_sem]
      | 5, _ => simp [go_sem]))
  have hz_ab : (((v3.alloc (.cells #[.int .i64 0, .int .i64 5, .int .i64 5, .int .i64 100001, .int .i64 (-1), .int .i64 7] 3)).alloc (.cells #[.int .i64 0, .int .i64 9, .int .i64 9, .int .i64 200001, .int .i64 7] 3)).drew).heap.size = v3.heap.size + 2 := by simp
  have hp_ab : Below v3.heap.size v3 ((v3.alloc (.cells #[.int .i64 0, .int .i64 5, .int .i64 5, .int .i64 100001, .int .i64 (-1), .int .i64 7] 3)).alloc (.cells #[.int .i64 0, .int .i64 9, .int .i64 9, .int .i64 200001, .int .i64 7] 3)).drew := Below.drew (((Below.refl _ _).alloc (Nat.le_refl _) _).alloc (by simp) _)
  have HA_ab := hide (pickN K (v3.heap.size) 6 [0, 5, 5, 100001, -1, 7] rfl ((v3.alloc (.cells #[.int .i64 0, .int .i64 5, .int .i64 5, .int .i64 100001, .int .i64 (-1), .int .i64 7] 3)).alloc (.cells #[.int .i64 0, .int .i64 9, .int .i64 9, .int .i64 200001, .int .i64 7] 3)).drew (HC3.out.below (hp_ab.mono (by omega))) (by (try simp) <;> omega) (by omega) (by simp) (by simp) (fun q hq => by
      match q, hq with
      | 0, _ => simp [go_sem]
      | 1, _ => simp [go_sem]
      | 2, _ => simp [go_sem]
      | 3, _ => simp [go_sem]
      | 4, _ => simp [go_sem]
      | 5, _ => simp [go_sem]))
  have HBc_ab : Hid (∀ q, q < 5 → (((v3.alloc (.cells #[.int .i64 0, .int .i64 5, .int .i64 5, .int .i64 100001, .int .i64 (-1), .int .i64 7] 3)).alloc (.cells #[.int .i64 0, .int .i64 9, .int .i64 9, .int .i64 200001, .int .i64 7] 3)).drew).cell? ⟨v3.heap.size + 1, q, none⟩ = some (.int .i64 (([0, 9, 9, 200001, 7] : List Int).getD q 0))) := fun q hq => by
      match q, hq with
      | 0, _ => simp [go_sem]
      | 1, _ => simp [go_sem]
      | 2, _ => simp [go_sem]
      | 3, _ => simp [go_sem]
      | 4, _ => simp [go_sem]
  have hz_ba : (((v3.alloc (.cells #[.int .i64 0, .int .i64 9, .int .i64 9, .int .i64 200001, .int .i64 7] 3)).alloc (.cells #[.int .i64 0, .int .i64 5, .int .i64 5, .int .i64 100001, .int .i64 (-1), .int .i64 7] 3)).drew).heap.size = v3.heap.size + 2 := by simp
  have hp_ba : Below v3.heap.size v3 ((v3.alloc (.cells #[.int .i64 0, .int .i64 9, .int .i64 9, .int .i64 200001, .int .i64 7] 3)).alloc (.cells #[.int .i64 0, .int .i64 5, .int .i64 5, .int .i64 100001, .int .i64 (-1), .int .i64 7] 3)).drew := Below.drew (((Below.refl _ _).alloc (Nat.le_refl _) _).alloc (by simp) _)
  have HA_ba := hide (pickN K (v3.heap.size + 1) 6 [0, 5, 5, 100001, -1, 7] rfl ((v3.alloc (.cells #[.int .i64 0, .int .i64 9, .int .i64 9, .int .i64 200001, .int .i64 7] 3)).alloc (.cells #[.int .i64 0, .int .i64 5, .int .i64 5, .int .i64 100001, .int .i64 (-1), .int .i64 7] 3)).drew (HC3.out.below (hp_ba.mono (by omega))) (by (try simp) <;> omega) (by omega) (by simp) (by simp) (fun q hq => by
      match q, hq with
      | 0, _ => simp [go_sem]
      | 1, _ => simp [go_sem]
      | 2, _ => simp [go_sem]
      | 3, _ => simp [go_sem]
      | 4, _ => simp [go_sem]
      | 5, _ => simp [go_sem]))
  have HBc_ba : Hid (∀ q, q < 5 → (((v3.alloc (.cells #[.int .i64 0, .int .i64 9, .int .i64 9, .int .i64 200001, .int .i64 7] 3)).alloc (.cells #[.int .i64 0, .int .i64 5, .int .i64 5, .int .i64 100001, .int .i64 (-1), .int .i64 7] 3)).drew).cell? ⟨v3.heap.size, q, none⟩ = some (.int .i64 (([0, 9, 9, 200001, 7] : List Int).getD q 0))) := fun q hq => by
      match q, hq with
      | 0, _ => simp [go_sem]
      | 1, _ => simp [go_sem]
      | 2, _ => simp [go_sem]
      | 3, _ => simp [go_sem]
      | 4, _ => simp [go_sem]
  skip
  go_wp2
  go_region_held3 (fun w' => w'.cell? ⟨v1.heap.size, 0, none⟩ = some (.slice ot n ct) ∧ w'.cell? ⟨v1.heap.size + 1, 0, none⟩ = some (.int .i64 fa) ∧ w'.cell? ⟨v1.heap.size + 1, 1, none⟩ = some (.int .i64 fp)) (first | with_reducible exact ⟨qt0, qf0, qf1⟩ | with_reducible exact ⟨pt0, pf0, pf1⟩ | with_reducible exact ⟨((World.cell?_setCell_far _ _ _ _ (show w.heap.size ≠ v1.heap.size by omega)).trans qt0), ((World.cell?_setCell_far _ _ _ _ (show w.heap.size ≠ v1.heap.size + 1 by omega)).trans qf0), ((World.cell?_setCell_far _ _ _ _ (show w.heap.size ≠ v1.heap.size + 1 by omega)).trans qf1)⟩ | with_reducible exact ⟨((World.cell?_setCell_far _ _ _ _ (show w.heap.size + 1 ≠ v1.heap.size by omega)).trans qt0), ((World.cell?_setCell_far _ _ _ _ (show w.heap.size + 1 ≠ v1.heap.size + 1 by omega)).trans qf0), ((World.cell?_setCell_far _ _ _ _ (show w.heap.size + 1 ≠ v1.heap.size + 1 by omega)).trans qf1)⟩ | with_reducible exact ⟨((World.cell?_setCell_far _ _ _ _ (show w.heap.size + 1 ≠ v1.heap.size by omega)).trans ((World.cell?_setCell_far _ _ _ _ (show w.heap.size + 1 ≠ v1.heap.size by omega)).trans qt0)), ((World.cell?_setCell_far _ _ _ _ (show w.heap.size + 1 ≠ v1.heap.size + 1 by omega)).trans ((World.cell?_setCell_far _ _ _ _ (show w.heap.size + 1 ≠ v1.heap.size + 1 by omega)).trans qf0)), ((World.cell?_setCell_far _ _ _ _ (show w.heap.size + 1 ≠ v1.heap.size + 1 by omega)).trans ((World.cell?_setCell_far _ _ _ _ (show w.heap.size + 1 ≠ v1.heap.size + 1 by omega)).trans qf1))⟩ | with_reducible exact ⟨((World.cell?_setCell_far _ _ _ _ (show w.heap.size + 1 ≠ v1.heap.size by omega)).trans ((World.cell?_setCell_far _ _ _ _ (show w.heap.size ≠ v1.heap.size by omega)).trans qt0)), ((World.cell?_setCell_far _ _ _ _ (show w.heap.size + 1 ≠ v1.heap.size + 1 by omega)).trans ((World.cell?_setCell_far _ _ _ _ (show w.heap.size ≠ v1.heap.size + 1 by omega)).trans qf0)), ((World.cell?_setCell_far _ _ _ _ (show w.heap.size + 1 ≠ v1.heap.size + 1 by omega)).trans ((World.cell?_setCell_far _ _ _ _ (show w.heap.size ≠ v1.heap.size + 1 by omega)).trans qf1))⟩ | with_reducible exact ⟨((World.cell?_setCell_far _ _ _ _ (show w.heap.size + 1 ≠ v1.heap.size by omega)).trans ((World.cell?_setCell_far _ _ _ _ (show w.heap.size + 1 ≠ v1.heap.size by omega)).trans ((World.cell?_setCell_far _ _ _ _ (show w.heap.size ≠ v1.heap.size by omega)).trans qt0))), ((World.cell?_setCell_far _ _ _ _ (show w.heap.size + 1 ≠ v1.heap.size + 1 by omega)).trans ((World.cell?_setCell_far _ _ _ _ (show w.heap.size + 1 ≠ v1.heap.size + 1 by omega)).trans ((World.cell?_setCell_far _ _ _ _ (show w.heap.size ≠ v1.heap.size + 1 by omega)).trans qf0))), ((World.cell?_setCell_far _ _ _ _ (show w.heap.size + 1 ≠ v1.heap.size + 1 by omega)).trans ((World.cell?_setCell_far _ _ _ _ (show w.heap.size + 1 ≠ v1.heap.size + 1 by omega)).trans ((World.cell?_setCell_far _ _ _ _ (show w.heap.size ≠ v1.heap.size + 1 by omega)).trans qf1)))⟩ | with_reducible exact ⟨((World.cell?_setCell_far _ _ _ _ (show w.heap.size ≠ v1.heap.size by omega)).trans ((World.cell?_setCell_far _ _ _ _ (show w.heap.size + 1 ≠ v1.heap.size by omega)).trans ((World.cell?_setCell_far _ _ _ _ (show w.heap.size + 1 ≠ v1.heap.size by omega)).trans qt0))), ((World.cell?_setCell_far _ _ _ _ (show w.heap.size ≠ v1.heap.size + 1 by omega)).trans ((World.cell?_setCell_far _ _ _ _ (show w.heap.size + 1 ≠ v1.heap.size + 1 by omega)).trans ((World.cell?_setCell_far _ _ _ _ (show w.heap.size + 1 ≠ v1.heap.size + 1 by omega)).trans qf0))), ((World.cell?_setCell_far _ _ _ _ (show w.heap.size ≠ v1.heap.size + 1 by omega)).trans ((World.cell?_setCell_far _ _ _ _ (show w.heap.size + 1 ≠ v1.heap.size + 1 by omega)).trans ((World.cell?_setCell_far _ _ _ _ (show w.heap.size + 1 ≠ v1.heap.size + 1 by omega)).trans qf1)))⟩ | exact ⟨t0, f0, f1⟩ | go_keep) (first | (go_at_call 58; (with_reducible refine HA_a.out.mono ?_); rintro e u0 ⟨px, rfl, hcu, su⟩; have S0 : Stp K (K + 1) v3 u0 := (Stp.of hp_a).trans su; have HCu := hide hcu; have zu0 : v3.heap.size + 1 ≤ u0.heap.size := (by have h := su.size; rw [hz_a] at h; exact h); have HBu_a : Hid True := trivial; have pt0 : u0.cell? ⟨v1.heap.size, 0, none⟩ = some (.slice ot n ct) := S0.cell t0 zt (.inl (by omega)); have pf0 : u0.cell? ⟨v1.heap.size + 1, 0, none⟩ = some (.int .i64 fa) := S0.cell f0 zf (.inl (by omega)); have pf1 : u0.cell? ⟨v1.heap.size + 1, 1, none⟩ = some (.int .i64 fp) := S0.cell f1 zf (.inl (by omega)); have px0 : u0.cell? ⟨w.heap.size, 0, none⟩ = some (.slice none 0 0) := S0.cell x0 zx (.inl (by omega)); have pfx0 : u0.frozen? ⟨w.heap.size, 0, none⟩ = false := S0.frozen fx0 zx (.inl (by omega)); have py0 : u0.cell? ⟨w.heap.size + 1, 0, none⟩ = some (.int .i64 0) := S0.cell y0 zy (.inl (by omega)); have pfy0 : u0.frozen? ⟨w.heap.size + 1, 0, none⟩ = false := S0.frozen fy0 zy (.inl (by omega)); have py1 : u0.cell? ⟨w.heap.size + 1, 1, none⟩ = some (.int .i64 0) := S0.cell y1 zy (.inl (by omega)); have pfy1 : u0.frozen? ⟨w.heap.size + 1, 1, none⟩ = false := S0.frozen fy1 zy (.inl (by omega)); clear hcu su) | (go_at_call 58; (with_reducible refine HA_ab.out.mono ?_); rintro e u0 ⟨px, rfl, hcu, su⟩; have S0 : Stp K (K + 1) v3 u0 := (Stp.of hp_ab).trans su; have HCu := hide hcu; have zu0 : v3.heap.size + 2 ≤ u0.heap.size := (by have h := su.size; rw [hz_ab] at h; exact h); have HBu_ab : Hid (∀ q, q < 5 → u0.cell? ⟨v3.heap.size + 1, q, none⟩ = some (.int .i64 (([0, 9, 9, 200001, 7] : List Int).getD q 0))) := (fun q hq => (by rw [← HBc_ab.out q hq]; simp only [World.cell?]; rw [su.block (v3.heap.size + 1) (by (try simp) <;> omega) (.inr (by omega))])); have pt0 : u0.cell? ⟨v1.heap.size, 0, none⟩ = some (.slice ot n ct) := S0.cell t0 zt (.inl (by omega)); have pf0 : u0.cell? ⟨v1.heap.size + 1, 0, none⟩ = some (.int .i64 fa) := S0.cell f0 zf (.inl (by omega)); have pf1 : u0.cell? ⟨v1.heap.size + 1, 1, none⟩ = some (.int .i64 fp) := S0.cell f1 zf (.inl (by omega)); have px0 : u0.cell? ⟨w.heap.size, 0, none⟩ = some (.slice none 0 0) := S0.cell x0 zx (.inl (by omega)); have pfx0 : u0.frozen? ⟨w.heap.size, 0, none⟩ = false := S0.frozen fx0 zx (.inl (by omega)); have py0 : u0.cell? ⟨w.heap.size + 1, 0, none⟩ = some (.int .i64 0) := S0.cell y0 zy (.inl (by omega)); have pfy0 : u0.frozen? ⟨w.heap.size + 1, 0, none⟩ = false := S0.frozen fy0 zy (.inl (by omega)); have py1 : u0.cell? ⟨w.heap.size + 1, 1, none⟩ = some (.int .i64 0) := S0.cell y1 zy (.inl (by omega)); have pfy1 : u0.frozen? ⟨w.heap.size + 1, 1, none⟩ = false := S0.frozen fy1 zy (.inl (by omega)); clear hcu su) | (go_at_call 58; (with_reducible refine HA_ba.out.mono ?_); rintro e u0 ⟨px, rfl, hcu, su⟩; have S0 : Stp K (K + 1) v3 u0 := (Stp.of hp_ba).trans su; have HCu := hide hcu; have zu0 : v3.heap.size + 2 ≤ u0.heap.size := (by have h := su.size; rw [hz_ba] at h; exact h); have HBu_ba : Hid (∀ q, q < 5 → u0.cell? ⟨v3.heap.size, q, none⟩ = some (.int .i64 (([0, 9, 9, 200001, 7] : List Int).getD q 0))) := (fun q hq => (by rw [← HBc_ba.out q hq]; simp only [World.cell?]; rw [su.block (v3.heap.size) (by (try simp) <;> omega) (.inr (by omega))])); have pt0 : u0.cell? ⟨v1.heap.size, 0, none⟩ = some (.slice ot n ct) := S0.cell t0 zt (.inl (by omega)); have pf0 : u0.cell? ⟨v1.heap.size + 1, 0, none⟩ = some (.int .i64 fa) := S0.cell f0 zf (.inl (by omega)); have pf1 : u0.cell? ⟨v1.heap.size + 1, 1, none⟩ = some (.int .i64 fp) := S0.cell f1 zf (.inl (by omega)); have px0 : u0.cell? ⟨w.heap.size, 0, none⟩ = some (.slice none 0 0) := S0.cell x0 zx (.inl (by omega)); have pfx0 : u0.frozen? ⟨w.heap.size, 0, none⟩ = false := S0.frozen fx0 zx (.inl (by omega)); have py0 : u0.cell? ⟨w.heap.size + 1, 0, none⟩ = some (.int .i64 0) := S0.cell y0 zy (.inl (by omega)); have pfy0 : u0.frozen? ⟨w.heap.size + 1, 0, none⟩ = false := S0.frozen fy0 zy (.inl (by omega)); have py1 : u0.cell? ⟨w.heap.size + 1, 1, none⟩ = some (.int .i64 0) := S0.cell y1 zy (.inl (by omega)); have pfy1 : u0.frozen? ⟨w.heap.size + 1, 1, none⟩ = false := S0.frozen fy1 zy (.inl (by omega)); clear hcu su) | (go_at_call 58; have hc_ := pickN K (v3.heap.size + 1) 5 [0, 9, 9, 200001, 7] rfl u0 HCu.out (by omega) (by omega) (by simp) (by simp) HBu_ab.out; (with_reducible refine hc_.mono ?_); clear hc_; rintro e u1 ⟨py, rfl, hcu, su⟩; have S1 : Stp K (K + 1) v3 u1 := S0.trans su; have qt0 : u1.cell? ⟨v1.heap.size, 0, none⟩ = some (.slice ot n ct) := S1.cell t0 zt (.inl (by omega)); have qf0 : u1.cell? ⟨v1.heap.size + 1, 0, none⟩ = some (.int .i64 fa) := S1.cell f0 zf (.inl (by omega)); have qf1 : u1.cell? ⟨v1.heap.size + 1, 1, none⟩ = some (.int .i64 fp) := S1.cell f1 zf (.inl (by omega)); have qx0 : u1.cell? ⟨w.heap.size, 0, none⟩ = some (.slice none 0 0) := S1.cell x0 zx (.inl (by omega)); have qfx0 : u1.frozen? ⟨w.heap.size, 0, none⟩ = false := S1.frozen fx0 zx (.inl (by omega)); have qy0 : u1.cell? ⟨w.heap.size + 1, 0, none⟩ = some (.int .i64 0) := S1.cell y0 zy (.inl (by omega)); have qfy0 : u1.frozen? ⟨w.heap.size + 1, 0, none⟩ = false := S1.frozen fy0 zy (.inl (by omega)); have qy1 : u1.cell? ⟨w.heap.size + 1, 1, none⟩ = some (.int .i64 0) := S1.cell y1 zy (.inl (by omega)); have qfy1 : u1.frozen? ⟨w.heap.size + 1, 1, none⟩ = false := S1.frozen fy1 zy (.inl (by omega)); clear hcu su) | (go_at_call 58; have hc_ := pickN K (v3.heap.size) 5 [0, 9, 9, 200001, 7] rfl u0 HCu.out (by omega) (by omega) (by simp) (by simp) HBu_ba.out; (with_reducible refine hc_.mono ?_); clear hc_; rintro e u1 ⟨py, rfl, hcu, su⟩; have S1 : Stp K (K + 1) v3 u1 := S0.trans su; have qt0 : u1.cell? ⟨v1.heap.size, 0, none⟩ = some (.slice ot n ct) := S1.cell t0 zt (.inl (by omega)); have qf0 : u1.cell? ⟨v1.heap.size + 1, 0, none⟩ = some (.int .i64 fa) := S1.cell f0 zf (.inl (by omega)); have qf1 : u1.cell? ⟨v1.heap.size + 1, 1, none⟩ = some (.int .i64 fp) := S1.cell f1 zf (.inl (by omega)); have qx0 : u1.cell? ⟨w.heap.size, 0, none⟩ = some (.slice none 0 0) := S1.cell x0 zx (.inl (by omega)); have qfx0 : u1.frozen? ⟨w.heap.size, 0, none⟩ = false := S1.frozen fx0 zx (.inl (by omega)); have qy0 : u1.cell? ⟨w.heap.size + 1, 0, none⟩ = some (.int .i64 0) := S1.cell y0 zy (.inl (by omega)); have qfy0 : u1.frozen? ⟨w.heap.size + 1, 0, none⟩ = false := S1.frozen fy0 zy (.inl (by omega)); have qy1 : u1.cell? ⟨w.heap.size + 1, 1, none⟩ = some (.int .i64 0) := S1.cell y1 zy (.inl (by omega)); have qfy1 : u1.frozen? ⟨w.heap.size + 1, 1, none⟩ = false := S1.frozen fy1 zy (.inl (by omega)); clear hcu su) | (go_at_call 58; have hq_ := HBu_a; have hpq : Below u0.heap.size u0 (u0.alloc (.cells #[.int .i64 0, .int .i64 9, .int .i64 9, .int .i64 200001, .int .i64 7] 3)) := (Below.refl _ _).alloc (Nat.le_refl _) _; have hc_ := pickN K u0.heap.size 5 [0, 9, 9, 200001, 7] rfl (u0.alloc (.cells #[.int .i64 0, .int .i64 9, .int .i64 9, .int .i64 200001, .int .i64 7] 3)) (HCu.out.below (hpq.mono (by omega))) (by simp) (by omega) (by simp) (by simp) (fun q hq => by match q, hq with | 0, _ => simp [go_sem] | 1, _ => simp [go_sem] | 2, _ => simp [go_sem] | 3, _ => simp [go_sem] | 4, _ => simp [go_sem]); (with_reducible refine hc_.mono ?_); clear hc_ hq_; rintro e u1 ⟨py, rfl, hcu, su⟩; have S1 : Stp K (K + 1) v3 u1 := (S0.trans (Stp.of hpq)).trans su; have qt0 : u1.cell? ⟨v1.heap.size, 0, none⟩ = some (.slice ot n ct) := S1.cell t0 zt (.inl (by omega)); have qf0 : u1.cell? ⟨v1.heap.size + 1, 0, none⟩ = some (.int .i64 fa) := S1.cell f0 zf (.inl (by omega)); have qf1 : u1.cell? ⟨v1.heap.size + 1, 1, none⟩ = some (.int .i64 fp) := S1.cell f1 zf (.inl (by omega)); have qx0 : u1.cell? ⟨w.heap.size, 0, none⟩ = some (.slice none 0 0) := S1.cell x0 zx (.inl (by omega)); have qfx0 : u1.frozen? ⟨w.heap.size, 0, none⟩ = false := S1.frozen fx0 zx (.inl (by omega)); have qy0 : u1.cell? ⟨w.heap.size + 1, 0, none⟩ = some (.int .i64 0) := S1.cell y0 zy (.inl (by omega)); have qfy0 : u1.frozen? ⟨w.heap.size + 1, 0, none⟩ = false := S1.frozen fy0 zy (.inl (by omega)); have qy1 : u1.cell? ⟨w.heap.size + 1, 1, none⟩ = some (.int .i64 0) := S1.cell y1 zy (.inl (by omega)); have qfy1 : u1.frozen? ⟨w.heap.size + 1, 1, none⟩ = false := S1.frozen fy1 zy (.inl (by omega)); clear hcu su) | fail)
  all_goals go_wp2
  all_goals have HI1 := hide (HI.out.step S1 (.inr (by omega)))
  all_goals have HB1 := hide (HB.out.trans (S1.below (by omega) (by omega)))
  all_goals have su1 := S1.size
  all_goals first | (refine bodyPost_ret (v := .tuple #[(tab (.slice ot n ct)), flow fa fp, .int .i64 px, .int .i64 py]) (by simp [results, Try.results17, go_sem, qx0, qy0, qy1]) rfl ⟨_, m, fa, fp, px, py, rfl, hln, ?_, ?_⟩) | fail
  all_goals first | exact (((HI1.out.step (stp_set u1 w.heap.size 0 (.slice ot n ct)) (.inl (by omega))).step (stp_set _ (w.heap.size + 1) 0 (.int .i64 fa)) (.inl (by omega))).step (stp_set _ (w.heap.size + 1) 1 (.int .i64 fp)) (.inl (by omega))).mono (by omega) (by simp <;> omega) | exact (((HI1.out.step (stp_set u1 (w.heap.size + 1) 0 (.int .i64 fa)) (.inl (by omega))).step (stp_set _ (w.heap.size + 1) 1 (.int .i64 fp)) (.inl (by omega))).step (stp_set _ w.heap.size 0 (.slice ot n ct)) (.inl (by omega))).mono (by omega) (by simp <;> omega) | exact ((HB1.out.setCell (p := ⟨w.heap.size, 0, none⟩) (Nat.le_refl _) _).setCell (p := ⟨w.heap.size + 1, 0, none⟩) (by simp) _).setCell (p := ⟨w.heap.size + 1, 1, none⟩) (by simp) _ | exact ((HB1.out.setCell (p := ⟨w.heap.size + 1, 0, none⟩) (by simp) _).setCell (p := ⟨w.heap.size + 1, 1, none⟩) (by simp) _).setCell (p := ⟨w.heap.size, 0, none⟩) (Nat.le_refl _) _

end Go.Proofs.Ytiijecnhbioehaa
